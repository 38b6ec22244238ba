import Derived.Test.YtbmmnflgnmjboaaGreatDoorA28
set_option maxRecDepth 100000
set_option maxHeartbeats 16000000
namespace Go.Proofs.YtbmmnflgnmjboaaGreatDoor
section
open RowKit Shelf
open Qos (Nd Ct Pd nd ct pd ag aB)
open Sv (Gv Hd gv hd gsF OkC OkG)
open Ost (dif cnt)
open Dvs (Dv dv aX)
attribute [local go_sem] Oper.semAt_some
theorem LB {s:Ol.Sk} {h:Hd} {j:Nat} (hn:Ol.dT s h j=none):∀ i,j<=i->Ol.dT s h i=none:=by
 intro i hi
 induction i with
 | zero=>rw [show j=0 by omega] at hn;exact hn
 | succ i ih=>
  by_cases e:j=i+1
  ·rw [<- e];exact hn
  ·rw [Ol.dT,ih (by omega)];rfl
theorem LC {s:Ol.Sk} {hs:List Hd} {k:Nat} (hn:Ol.bP s hs k=none):∀ i,k<=i->Ol.bP s hs i=none:=by
 intro i hi
 induction i with
 | zero=>rw [show k=0 by omega] at hn;exact hn
 | succ i ih=>
  by_cases e:k=i+1
  ·rw [<- e];exact hn
  ·rw [Ol.bP,ih (by omega)];rfl
theorem oE {s s':Ol.Sk} {g:Gv} {own:Int} {ns:List Nd} (h:Ol.cW s g own ns=some s'):s'.ds=s.ds/\(s.cp<18446744073709551616->s'.cp<18446744073709551616):=by
 unfold Ol.cW at h
 split at h
 ·split at h
  ·injection h with h
   subst h;exact ⟨rfl,λhs=>Ost.ii _ hs⟩
  ·cases h
 ·cases h
theorem cO.le {W W':World} {v:Value} {g o:Nat} {ds:List Dv} (h:cO W v g o ds) (l:az W W'):cO W' v g o ds:=by
 obtain ⟨ao,c,hv,hr⟩:=h;refine ⟨ao,c,hv,λh0=>?_⟩;obtain ⟨ha,hlt,hc⟩:=hr h0;exact ⟨ha,Q1 hlt l.size,λk hk=>⟨l.cell _ _ _ (hc k hk).1,l.cell _ _ _ (hc k hk).2.1,l.cell _ _ _ (hc k hk).2.2⟩⟩
def jN (hs:List Hd):Prop:=∀ x∈hs,ag x.pod=0/\x.gs.length=x.pod.cs.length/\gsF x.gs=0
def m8 (w w':World) (e:Ending):Option Ol.Sk->Prop
 | some s'=>∃ pb db ao c,e=.returned (.tuple #[sV s' pb,.bool true])/\dj w' pb db ao c s'/\w.heap.size<=pb/\(0<s'.ds.length->w.heap.size<=db)
 | none=>∃ cp p,e=.returned (.tuple #[.agg #[.int .u64 cp,.pointer p],.bool false])
abbrev jO:=λ(x0:Qos.Ct) (x1:Option Addr) (x2:Nat)=>(.cells #[.string x0.nm,.int .i64 x0.am,.int .i64 x0.ab,.int .i64 x0.cm,.int .i64 x0.cb,.slice x1 x0.ds.length x2] 63:Obj)
abbrev jP:=λ(x0:Sv.Hd) (x1:Option Addr) (x2:Nat) (x3:Option Addr) (x4:Nat)=>(.cells #[.string x0.pod.nm,.int .i64 x0.pod.pr,.slice x1 x0.pod.cs.length x2,.slice x3 x0.gs.length x4] 57:Obj)
abbrev kC:=λ(x0:Nat) (x1:Ol.Mc)=>(.cells #[.pointer (some ⟨x0,0,none⟩),.int .u64 x1.op,.int .u8 x1.nd,.int .i64 x1.nb,.int .i64 x1.pol] 95:Obj)
abbrev iF:=λ(x0:Sv.Gv) (x1:Option Addr) (x2:Nat)=>(.cells #[.int .u64 (x0.cp:Nat),.slice x1 x0.dv.length x2] 69:Obj)
abbrev lC:=λ(x0:Ol.Mc) (x1:Nat)=>(.cells #[.int .u64 x0.op,.pointer (some ⟨x1,0,none⟩)] 98:Obj)
abbrev su:=λ(Bq:Nat) (y:Sv.Gv) (ia:Option Addr) (ic Bh:Nat) (x:Sv.Hd) (cb co cc:Nat) (z:Qos.Ct) (na:Option Addr) (nc:Nat) (w':World)=>w'.cell? ⟨Bq,0,none⟩=some (.int .u64 (y.cp:Nat))/\w'.cell? ⟨Bq,1,none⟩=some (.slice ia y.dv.length ic)/\w'.cell? ⟨Bh,0,none⟩=some (.string x.pod.nm)/\w'.cell? ⟨Bh,1,none⟩=some (.int .i64 x.pod.pr)/\w'.cell? ⟨Bh,2,none⟩=some (.slice (some ⟨cb,co,none⟩) x.pod.cs.length cc)/\w'.cell? ⟨Bq+1,0,none⟩=some (.string z.nm)/\w'.cell? ⟨Bq+1,1,none⟩=some (.int .i64 z.am)/\w'.cell? ⟨Bq+1,2,none⟩=some (.int .i64 z.ab)/\w'.cell? ⟨Bq+1,3,none⟩=some (.int .i64 z.cm)/\w'.cell? ⟨Bq+1,4,none⟩=some (.int .i64 z.cb)/\w'.cell? ⟨Bq+1,5,none⟩=some (.slice na z.ds.length nc)
theorem LD (m:Ol.Mc) (tb g o:Nat) (v vh:Value) (ds:List Dv) (hs:List Hd) (w:World) (hd:cO w v g o ds) (hH:aQ w vh hs) (hop:m.op<18446744073709551616) (hok:jN hs) (hl:hs.length<=100) :
  Calls Tryz.prog 93 #[mV m tb,v,vh] w λe w'=>m8 w w' e (Ol.left m ds hs)/\Below w.heap.size w w':=by
 unfold mV;have Jn:=qI hok;have hU:=qI (((Q0 w.heap.size w).alloc (lR) (kC tb m)).alloc (by simp) (.cells #[.int .u64 0,.pointer none] 98));have sz:((w.alloc (kC tb m)).alloc (.cells #[.int .u64 0,.pointer none] 98)).heap.size=w.heap.size+2:=by simp
 have Jg:=qI (bg (aF w (kC tb m) rfl) (.cells #[.int .u64 0,.pointer none] 98));have Je:=qI (aF (w.alloc (kC tb m)) (.cells #[.int .u64 0,.pointer none] 98) (n:=w.heap.size+1) (by simp));have hZ:cO ((w.alloc (kC tb m)).alloc (.cells #[.int .u64 0,.pointer none] 98)) v g o ds:=hd.le (az.of_below hU.out);have HY:=qI (uH v g o ds ((w.alloc (kC tb m)).alloc (.cells #[.int .u64 0,.pointer none] 98)) hZ);obtain ⟨da,dc,rfl,_⟩:=hd;obtain ⟨ao,c,rfl,H8,hr⟩:=hH;have HR:=qI hr;clear hok hZ hr H8
 go_enter Tryz.func93,Tryz.ntmps93
 go_wp2_with fail
 generalize ((w.alloc (kC tb m)).alloc (.cells #[.int .u64 0,.pointer none] 98))=U at *;generalize hB:w.heap.size=B at *;refine HY.out.mono ?_;rintro e W1 ⟨Hu,hz,HE⟩;have hF:=qI (hU.out.trans (HE.mono (by omega)));have Jw:=HE.size;have HA:=qI ((HE.block (B+1) (by omega)).trans Je.out);have h8:=qI ((HE.block B (by omega)).trans Jg.out)
 by_cases hf:Dvs.fault ds=0
 ·obtain ⟨p,rfl,pb,db,pao,pc,rfl,Hi,Jj,Hs⟩:=Hu hf;have HK:=qI (Lw hf);have hQ':Hid (Ol.left m ds hs=Ol.bP ⟨m.op,ds,λ_=>false⟩ hs hs.length):=by unfold Hid Ol.left;rw [if_pos hf]
  have HP:=qI Hi;have Jr:=Hi.lt;have Jo:Hid (0<ds.length->B<=db/\db<W1.heap.size):=λh0=>⟨by have:=Hs h0;omega,(Hi.at0 h0).2.2⟩
  have Ht:Hid (0<ds.length->U.heap.size<=db):=λh0=>Hs h0
  clear Hu hz Hi HE Hs hf HY;dsimp only;rw [show ar (((0:Nat)):Int)=.nilIface from rfl];have m1:W1.cell? ⟨B,1,none⟩=some (.int .u64 m.op):=ad h8.out 1;have Jf:=qI (HP.out.alloc (lC m pb));have Ji:=qI (aF W1 (lC m pb) rfl);have hN:=qI (bg HA.out (lC m pb));have Jt:(W1.alloc (lC m pb)).heap.size=W1.heap.size+1:=by simp
  have H6:=qI (hF.out.alloc (by omega) (lC m pb))
  go_wp2_with fail
  generalize W1.alloc (lC m pb)=W2 at *;generalize hsb:W1.heap.size=sb at *;clear m1
  go_loopw [30] (λi wr=>∃ (k:Nat) (sk:Ol.Sk),k<=hs.length/\i=.int .i64 k/\Ol.bP ⟨m.op,ds,λ_=>false⟩ hs k=some sk/\(sk.ds=ds/\sk.cp<18446744073709551616)/\wr.heap[sb]?=some (.cells #[.int .u64 sk.cp,.pointer (some ⟨pb,0,none⟩)] 98 (0,0))/\ap wr pb db pao pc sk.ds sk.us/\Apart (iE pb sb) W2 wr) (λi _=>hs.length - (intOf i).toNat)
  case atStart=>exact ⟨0,⟨m.op,ds,λ_=>false⟩,by omega,rfl,rfl,⟨rfl,hop⟩,Ji.out,Jf.out,Apart.refl _ _⟩
  case round=>
   obtain ⟨k,sk,hk,rfl,HS,HV,Hj,Hl,He⟩:=hrel;have hI:=qI HS;have hg:=qI Hj;have hM:=qI Hl;have hR:=qI He;have Hy:=qI HV;have Js:=He.size;have hx:Hid (Below w.heap.size w wr):=by
    unfold Hid;rw [hB];exact He.below H6.out (by omega) (λj hj=>by rcases hj with h|h <;> omega)
   clear HS Hj Hl He HV
   by_cases hlt:k<hs.length
   ·obtain ⟨hb,ho,cv,gvv,rfl,H3⟩:=HR.out (by omega);have hle:=az.of_below hx.out;obtain ⟨x0,x1,x2,x3⟩:=(H3.2 k hlt).1;have x0:=hle.cell _ _ _ x0;have x1:=hle.cell _ _ _ x1;have x2:=hle.cell _ _ _ x2;have x3:=hle.cell _ _ _ x3;have Hm:=(H3.2 k hlt).2.1;have HW:=(H3.2 k hlt).2.2;obtain ⟨hG,hW,hP⟩:=Jn.out (hd hs k) (by simp [hd,hlt]);have hJ:Hid (Ol.bP ⟨m.op,ds,λ_=>false⟩ hs (k+1)=Ol.dT sk (hd hs k) (hd hs k).gs.length):=by unfold Hid;rw [Ol.bP,hI.out];rfl
    obtain ⟨ca,cc,hX,H8,hY⟩:=id Hm;obtain ⟨ga,gc,hS,Jk,hV⟩:=id HW;rw [hX] at x2 Hm;rw [hS] at x3;have HH:=qI Hm;have h7:=qI hY;have Jb:=qI hV;have HG:=qI (Sv.fE hG);have Jy:=HG.out.2.2.1;have Jc:=qI hP;have hv:=qI hW;have Jp:(hd hs k).gs.length<=3:=by omega
    clear H3 Hm HW hX hS hY hV hle H8 Jk hG hP hW;generalize hd hs k=x at *;have Jv:=qI ((Q0 wr.heap.size wr).alloc (lR) (jP x ca cc ga gc));have h2:=qI (aF wr (jP x ca cc ga gc) rfl);have Ju:(wr.alloc (jP x ca cc ga gc)).heap.size=wr.heap.size+1:=by simp
    have ht:=qI (bg hg.out (jP x ca cc ga gc));have hy:=qI (hM.out.alloc (jP x ca cc ga gc));have y3:(wr.alloc (jP x ca cc ga gc)).cell? ⟨wr.heap.size,3,none⟩=some (.slice ga x.gs.length gc):=ad h2.out 3;have hm:=qI (hR.out.trans (Apart.alloc _ wr (jP x ca cc ga gc)))
    go_wp2_with fail
    generalize wr.alloc (jP x ca cc ga gc)=W3 at *;generalize hBh:wr.heap.size=Bh at *;clear x0 x1 x2 x3 y3 hx
    go_loopw [37] (λi wr=>∃ (j:Nat) (sq:Ol.Sk),j<=x.gs.length/\i=.int .i64 j/\Ol.dT sk x j=some sq/\(sq.ds=ds/\sq.cp<18446744073709551616)/\wr.heap[sb]?=some (.cells #[.int .u64 sq.cp,.pointer (some ⟨pb,0,none⟩)] 98 (0,0))/\ap wr pb db pao pc sq.ds sq.us/\Apart (iE pb sb) W3 wr) (λi _=>x.gs.length - (intOf i).toNat)
    case atStart=>exact ⟨0,sk,by omega,rfl,rfl,Hy.out,ht.out,hy.out,Apart.refl _ _⟩
    case round=>
     obtain ⟨j,sq,hj,rfl,HZ,HM,Hj,Hl,He⟩:=hrel;have hE:=qI HZ;have HL:=qI Hj;have HQ:=qI Hl;have hh:=qI He;have HB:=qI HM;have Jx:=He.size;have Hw:=qI (hm.out.trans He);have Hv:Hid (Below w.heap.size w wr):=by
      unfold Hid;rw [hB];exact Hw.out.below H6.out (by omega) (λj hj=>by rcases hj with h|h <;> omega)
     have HI:=qI ((He.block Bh (by omega) (by rintro (h|h) <;> omega)).trans h2.out);clear HZ Hj Hl He HM
     by_cases hjt:j<x.gs.length
     ·have hA:j<x.pod.cs.length:=by rw [<- hv.out];exact hjt
      obtain ⟨gb,go,dv,rfl,HN⟩:=Jb.out (by omega);obtain ⟨cb,co,cdv,rfl,Hq⟩:=h7.out (by omega);have hle:=az.of_below Hv.out;obtain ⟨⟨g0,g1,g2⟩,Hn⟩:=HN.2 j hjt;have g0:=hle.cell _ _ _ g0;have g1:=hle.cell _ _ _ g1;obtain ⟨k0,k1,k2,k3,k4,k5⟩:=Hq.at hA;have k0:=hle.cell _ _ _ k0;have k1:=hle.cell _ _ _ k1;have k2:=hle.cell _ _ _ k2;have k3:=hle.cell _ _ _ k3;have k4:=hle.cell _ _ _ k4;have k5:=hle.cell _ _ _ k5;have Hh:=(Hq.2 j hA).2;obtain ⟨ia,ic,hO,Jl,h3⟩:=id Hn;obtain ⟨na,nc,hT,Jd,h9⟩:=id Hh;rw [hO] at g1 Hn;rw [hT] at k5 Hh;have ha:=qI Hn;have HJ:=qI Hh;have hD:Hid (Ol.dT sk x (j+1)=Ol.cW sq (gv x.gs j) (aB x.pod.cs (ct x.pod.cs j).am) (ct x.pod.cs j).ds):=by unfold Hid;rw [Ol.dT,hE.out];rfl
      have HC:=qI (HG.out.2.2.2 (ct x.pod.cs j) (Ost.dY _ _ _ hA));have h5:=qI (Ol.rx (Dvs.cS Jc.out j hjt));have Ja:HI.out=HI.out:=rfl;have j1:(j:Int)<(x.gs.length:Int):=by omega
      have j2:(j:Int)<(x.pod.cs.length:Int):=by omega
      clear HN Hq Hn Hh hO hT hle Jl h3 Jd h9 Ja;generalize gv x.gs j=y at *;generalize ct x.pod.cs j=z at *;have b2:wr.cell? ⟨Bh,2,none⟩=some (.slice (some ⟨cb,co,none⟩) x.pod.cs.length cc):=ad HI.out 2;have hc:=qI (((Q0 wr.heap.size wr).alloc (lR) (iF y ia ic)).alloc (by simp) (jO z na nc));have HD:=qI (bg (aF wr (iF y ia ic) rfl) (jO z na nc));have Hc:=qI (aF (wr.alloc (iF y ia ic)) (jO z na nc) (n:=wr.heap.size+1) (by simp));have Jz:((wr.alloc (iF y ia ic)).alloc (jO z na nc)).heap.size=wr.heap.size+2:=by simp
      have b3:(wr.alloc (iF y ia ic)).cell? ⟨Bh,2,none⟩=some (.slice (some ⟨cb,co,none⟩) x.pod.cs.length cc):=ad (bg HI.out _) 2;have Hg:=(Q0 wr.heap.size wr).alloc (lR) (iF y ia ic);have Hz:cb<wr.heap.size:=Q3 _ ⟨cb,co+j*6,none⟩ k0;have k0':=(Hg.cell (p:=⟨cb,co+j*6,none⟩) Hz).trans k0;have k1':=(Hg.cell (p:=⟨cb,co+j*6+1,none⟩) Hz).trans k1;have k2':=(Hg.cell (p:=⟨cb,co+j*6+2,none⟩) Hz).trans k2;have k3':=(Hg.cell (p:=⟨cb,co+j*6+3,none⟩) Hz).trans k3;have k4':=(Hg.cell (p:=⟨cb,co+j*6+4,none⟩) Hz).trans k4;have k5':=(Hg.cell (p:=⟨cb,co+j*6+5,none⟩) Hz).trans k5;clear Hg
      go_wp2_with fail
      generalize hBq:wr.heap.size=Bq at *;have h4:Hid (ap ((wr.alloc (iF y ia ic)).alloc (jO z na nc)) pb db pao pc sq.ds sq.us):=(HQ.out.alloc _).alloc _;have hw:=qI (bg (bg HL.out (iF y ia ic)) (jO z na nc));have Hf:=qI (bg (bg HI.out (iF y ia ic)) (jO z na nc));have H0:=qI (Hv.out.trans (hc.out.mono (by have:=Hv.out.size;omega)));generalize ((wr.alloc (iF y ia ic)).alloc (jO z na nc))=X at *;clear g0 g1 k0 k1 k2 k3 k4 k5 b2 b3 k0' k1' k2' k3' k4' k5';have H2:Hid (∀ W,Below X.heap.size X W->(su Bq y ia ic Bh x cb co cc z na nc) W):=λW hb=>⟨ad ((hb.block (Bq) (by omega)).trans HD.out) 0,ad ((hb.block (Bq) (by omega)).trans HD.out) 1,ad ((hb.block (Bh) (by omega)).trans Hf.out) 0,ad ((hb.block (Bh) (by omega)).trans Hf.out) 1,ad ((hb.block (Bh) (by omega)).trans Hf.out) 2,ad ((hb.block (Bq+1) (by omega)).trans Hc.out) 0,ad ((hb.block (Bq+1) (by omega)).trans Hc.out) 1,ad ((hb.block (Bq+1) (by omega)).trans Hc.out) 2,ad ((hb.block (Bq+1) (by omega)).trans Hc.out) 3,ad ((hb.block (Bq+1) (by omega)).trans Hc.out) 4,ad ((hb.block (Bq+1) (by omega)).trans Hc.out) 5⟩
      have Hp:Hid (Below X.heap.size X X.drew):=a6 (Q0 _ _);have H4:Hid (∀ W,Below X.heap.size X W->Below w.heap.size w W):=λW hb=>H0.out.trans (hb.mono (by have:=H0.out.size;omega))
      have Hr:=qI (λ(W:World) (hb:Below X.heap.size X W)=>LA sb pb db pao pc sq y (aB x.pod.cs z.am) (.slice ia y.dv.length ic) (.slice na z.ds.length nc) z.ds W ((hb.block sb (by omega)).trans hw.out) (h4.out.below hb) (by rw [HB.out.1];exact HK.out) HB.out.2 g2 (ha.out.le (mv (H4.out W hb) rfl (λj hj=>by rcases hj with h|h <;> omega))) (HJ.out.le (mv (H4.out W hb) rfl (λj hj=>by rcases hj with h|h <;> omega))) (by have:=h5.out;omega) (by have:=HC.out.2.2.2.2.2.1;omega) (λq hq=>by
       have hn:=HC.out.2.2.2.2.2.2 (nd z.ds q) (Ost.dY _ _ _ hq)
       have:=(Sv.ip hn.1).2
       have e:(nd z.ds q).kind.data.toList.length=(nd z.ds q).kind.size:=by simp
       have:=hn.2
       omega) (λh0=>by have:=Jo.out (by rw [<- HB.out.1];exact h0);omega))
      obtain ⟨oc,hu⟩:∃ oc,oc=Ol.cW sq y (aB x.pod.cs z.am) z.ds:=⟨_,rfl⟩;rw [<- hu] at Hr;have hC:=qI hu;clear hu;cases oc with
      | none=>
       refine Qo (by kernel_rfl) (H2.out _ Hp.out) (λhQ=>?_);generalize X.drew=V at *;refine tk 0 ?_;refine tk 1 ?_;refine tk 2 ?_;refine tk 3 ?_;refine tk 5 ?_;refine tk 6 ?_;refine rd 4 (λK hK=>?_);go_simp
       go_wp2_with fail
       refine (mh x.pod (.slice (some ⟨cb,co,none⟩) x.pod.cs.length cc) z na z.ds.length nc V (HH.out.le (az.of_below (H4.out _ Hp.out))) HC.out.2.1.1 HC.out.2.1.2).mono ?_;rintro e W5 ⟨rfl,HF⟩;have Hb:=qI (Hp.out.trans (HF.mono Hp.out.size));clear HF
       go_wp2
       refine hK.out _ _ (H2.out _ Hb.out) (λhQ=>?_);clear hK K;refine rd 7 (λK hK=>?_);go_simp
       go_wp2_with fail
       refine (Hr.out W5 Hb.out).mono ?_;rintro e W6 ⟨HX,Ha⟩;have Hx:=qI Ha;have HX:e=.returned (.bool false):=HX;subst HX;have H5:Hid ((su Bq y ia ic Bh x cb co cc z na nc) W6):=⟨ad ((Ha.block (Bq) (by have:=Hb.out.size;omega) (by rintro (h|h) <;> omega)).trans ((Hb.out.block (Bq) (by omega)).trans HD.out)) 0,ad ((Ha.block (Bq) (by have:=Hb.out.size;omega) (by rintro (h|h) <;> omega)).trans ((Hb.out.block (Bq) (by omega)).trans HD.out)) 1,ad ((Ha.block (Bh) (by have:=Hb.out.size;omega) (by rintro (h|h) <;> omega)).trans ((Hb.out.block (Bh) (by omega)).trans Hf.out)) 0,ad ((Ha.block (Bh) (by have:=Hb.out.size;omega) (by rintro (h|h) <;> omega)).trans ((Hb.out.block (Bh) (by omega)).trans Hf.out)) 1,ad ((Ha.block (Bh) (by have:=Hb.out.size;omega) (by rintro (h|h) <;> omega)).trans ((Hb.out.block (Bh) (by omega)).trans Hf.out)) 2,ad ((Ha.block (Bq+1) (by have:=Hb.out.size;omega) (by rintro (h|h) <;> omega)).trans ((Hb.out.block (Bq+1) (by omega)).trans Hc.out)) 0,ad ((Ha.block (Bq+1) (by have:=Hb.out.size;omega) (by rintro (h|h) <;> omega)).trans ((Hb.out.block (Bq+1) (by omega)).trans Hc.out)) 1,ad ((Ha.block (Bq+1) (by have:=Hb.out.size;omega) (by rintro (h|h) <;> omega)).trans ((Hb.out.block (Bq+1) (by omega)).trans Hc.out)) 2,ad ((Ha.block (Bq+1) (by have:=Hb.out.size;omega) (by rintro (h|h) <;> omega)).trans ((Hb.out.block (Bq+1) (by omega)).trans Hc.out)) 3,ad ((Ha.block (Bq+1) (by have:=Hb.out.size;omega) (by rintro (h|h) <;> omega)).trans ((Hb.out.block (Bq+1) (by omega)).trans Hc.out)) 4,ad ((Ha.block (Bq+1) (by have:=Hb.out.size;omega) (by rintro (h|h) <;> omega)).trans ((Hb.out.block (Bq+1) (by omega)).trans Hc.out)) 5⟩;clear Ha
       go_wp2
       refine hK.out _ _ H5.out (λhQ=>?_);clear hK K;refine tk 8 ?_;refine Qn (by kernel_rfl) ?_ _;clear hQ;have H1:=qI ((Hw.out.trans (Apart.of_below (show Below wr.heap.size wr X by rw [hBq];exact hc.out))).trans ((Apart.of_below Hb.out).trans Hx.out));have Hk:=qI ((H1.out.block (B+1) (by omega) (by rintro (h|h) <;> omega)).trans hN.out);have Jh:Hid (Below w.heap.size w W6):=by
        unfold Hid;rw [hB];exact H1.out.below H6.out (by omega) (λj hj=>by rcases hj with h|h <;> omega)
       have hi:Hid (Ol.left m ds hs=none):=by
        unfold Hid;rw [hQ'.out];refine LC (k:=k+1) ?_ _ (by omega);rw [hJ.out];exact LB (j:=j+1) (by rw [hD.out,hC.out]) _ (by omega)
       have z0:W6.cell? ⟨B+1,0,none⟩=some (.int .u64 0):=ad Hk.out 0;have z1:W6.cell? ⟨B+1,1,none⟩=some (.pointer none):=ad Hk.out 1;have f0:=aq Hk.out 0;have f1:=aq Hk.out 1;have Ho:=qI (aj (aj Hk.out 0 (.int .u64 0)) 1 (.pointer none));have HO:=qI ((Jh.out.setCell (p:=⟨B+1,0,none⟩) (by rw [hB];exact Nat.le_succ _) (.int .u64 0)).setCell (p:=⟨B+1,1,none⟩) (by rw [hB];exact Nat.le_succ _) (.pointer none))
       go_wp2_with fail
       generalize ((W6.setCell ⟨B+1,0,none⟩ (.int .u64 0)).setCell ⟨B+1,1,none⟩ (.pointer none))=WZ at *;(try simp only [Exit.inBlock,Exit.then]);refine bodyPost_ret (v:=.tuple #[.agg #[.int .u64 0,.pointer none],.bool false]) ?_ rfl ⟨by rw [hi.out];exact ⟨0,none,rfl⟩,hB ▸ HO.out⟩;have r0:WZ.cell? ⟨B+1,0,none⟩=some (.int .u64 0):=ad Ho.out 0;have r1:WZ.cell? ⟨B+1,1,none⟩=some (.pointer none):=ad Ho.out 1;rw [iD rfl];clear z0 z1 f0 f1;go_simp
      | some sq2=>
       refine Qo (by kernel_rfl) (H2.out _ Hp.out) (λhQ=>?_);generalize X.drew=V at *;refine tk 0 ?_;refine tk 1 ?_;refine tk 2 ?_;refine tk 3 ?_;refine tk 5 ?_;refine tk 6 ?_;refine rd 4 (λK hK=>?_);go_simp
       go_wp2_with fail
       refine (mh x.pod (.slice (some ⟨cb,co,none⟩) x.pod.cs.length cc) z na z.ds.length nc V (HH.out.le (az.of_below (H4.out _ Hp.out))) HC.out.2.1.1 HC.out.2.1.2).mono ?_;rintro e W5 ⟨rfl,HF⟩;have Hb:=qI (Hp.out.trans (HF.mono Hp.out.size));clear HF
       go_wp2
       refine hK.out _ _ (H2.out _ Hb.out) (λhQ=>?_);clear hK K;refine rd 7 (λK hK=>?_);go_simp
       go_wp2_with fail
       refine (Hr.out W5 Hb.out).mono ?_;rintro e W6 ⟨HX,Ha⟩;have Hx:=qI Ha;obtain ⟨rfl,HU,HT⟩:=HX;have hp:=qI HU;have H7:=qI HT;clear HU HT;have H5:Hid ((su Bq y ia ic Bh x cb co cc z na nc) W6):=⟨ad ((Ha.block (Bq) (by have:=Hb.out.size;omega) (by rintro (h|h) <;> omega)).trans ((Hb.out.block (Bq) (by omega)).trans HD.out)) 0,ad ((Ha.block (Bq) (by have:=Hb.out.size;omega) (by rintro (h|h) <;> omega)).trans ((Hb.out.block (Bq) (by omega)).trans HD.out)) 1,ad ((Ha.block (Bh) (by have:=Hb.out.size;omega) (by rintro (h|h) <;> omega)).trans ((Hb.out.block (Bh) (by omega)).trans Hf.out)) 0,ad ((Ha.block (Bh) (by have:=Hb.out.size;omega) (by rintro (h|h) <;> omega)).trans ((Hb.out.block (Bh) (by omega)).trans Hf.out)) 1,ad ((Ha.block (Bh) (by have:=Hb.out.size;omega) (by rintro (h|h) <;> omega)).trans ((Hb.out.block (Bh) (by omega)).trans Hf.out)) 2,ad ((Ha.block (Bq+1) (by have:=Hb.out.size;omega) (by rintro (h|h) <;> omega)).trans ((Hb.out.block (Bq+1) (by omega)).trans Hc.out)) 0,ad ((Ha.block (Bq+1) (by have:=Hb.out.size;omega) (by rintro (h|h) <;> omega)).trans ((Hb.out.block (Bq+1) (by omega)).trans Hc.out)) 1,ad ((Ha.block (Bq+1) (by have:=Hb.out.size;omega) (by rintro (h|h) <;> omega)).trans ((Hb.out.block (Bq+1) (by omega)).trans Hc.out)) 2,ad ((Ha.block (Bq+1) (by have:=Hb.out.size;omega) (by rintro (h|h) <;> omega)).trans ((Hb.out.block (Bq+1) (by omega)).trans Hc.out)) 3,ad ((Ha.block (Bq+1) (by have:=Hb.out.size;omega) (by rintro (h|h) <;> omega)).trans ((Hb.out.block (Bq+1) (by omega)).trans Hc.out)) 4,ad ((Ha.block (Bq+1) (by have:=Hb.out.size;omega) (by rintro (h|h) <;> omega)).trans ((Hb.out.block (Bq+1) (by omega)).trans Hc.out)) 5⟩;clear Ha
       go_wp2
       refine hK.out _ _ H5.out (λhQ=>?_);clear hK K;refine tk 8 ?_;refine Qn (by kernel_rfl) ?_ _;clear hQ;have hL:=qI (oE hC.out.symm);have H1:=qI ((hh.out.trans (Apart.of_below (show Below wr.heap.size wr X by rw [hBq];exact hc.out))).trans ((Apart.of_below Hb.out).trans Hx.out))
       go_wp2
       go_roundw
       case rel=>exact ⟨j+1,sq2,by omega,by go_num,by rw [hD.out,hC.out],⟨hL.out.1.trans HB.out.1,hL.out.2 HB.out.2⟩,hp.out,H7.out,H1.out⟩
       case measure=>simp [intOf];omega
     ·have Jm:j=x.gs.length:=by omega
      subst Jm
      go_wp2
      go_roundw
      case rel=>exact ⟨k+1,sq,by omega,by go_num,by rw [hJ.out,hE.out],HB.out,HL.out,HQ.out,Hw.out⟩
      case measure=>simp [intOf];omega
   ·have h6:k=hs.length:=by omega
    subst h6;have H9:Hid (Ol.left m ds hs=some sk):=by unfold Hid;rw [hQ'.out,hI.out]
    have Hk:=qI ((hR.out.block (B+1) (by omega) (by rintro (h|h) <;> omega)).trans hN.out);have z0:wr.cell? ⟨B+1,0,none⟩=some (.int .u64 0):=ad Hk.out 0;have z1:wr.cell? ⟨B+1,1,none⟩=some (.pointer none):=ad Hk.out 1;have f0:=aq Hk.out 0;have f1:=aq Hk.out 1;have q0:wr.cell? ⟨sb,0,none⟩=some (.int .u64 sk.cp):=ad hg.out 0;have q1:wr.cell? ⟨sb,1,none⟩=some (.pointer (some ⟨pb,0,none⟩)):=ad hg.out 1;have Ho:=qI (aj (aj Hk.out 0 (.int .u64 sk.cp)) 1 (.pointer (some ⟨pb,0,none⟩)));have HO:=qI ((hx.out.setCell (p:=⟨B+1,0,none⟩) (by rw [hB];exact Nat.le_succ _) (.int .u64 sk.cp)).setCell (p:=⟨B+1,1,none⟩) (by rw [hB];exact Nat.le_succ _) (.pointer (some ⟨pb,0,none⟩)));have Jq:Hid (ap ((wr.setCell ⟨B+1,0,none⟩ (.int .u64 sk.cp)).setCell ⟨B+1,1,none⟩ (.pointer (some ⟨pb,0,none⟩))) pb db pao pc sk.ds sk.us):=(hM.out.kept (bN _ ⟨B+1,0,none⟩ _) (λe=>by injection e with e;have e:pb=B+1:=e;omega) (λh1 e=>by injection e with e;have e:db=B+1:=e;have:=Ht.out (by rw [<- Hy.out.1];exact h1);omega)).kept (bN _ ⟨B+1,1,none⟩ _) (λe=>by injection e with e;have e:pb=B+1:=e;omega) (λh1 e=>by injection e with e;have e:db=B+1:=e;have:=Ht.out (by rw [<- Hy.out.1];exact h1);omega)
    go_wp2_with fail
    generalize ((wr.setCell ⟨B+1,0,none⟩ (.int .u64 sk.cp)).setCell ⟨B+1,1,none⟩ (.pointer (some ⟨pb,0,none⟩)))=WZ at *;(try simp only [Exit.inBlock,Exit.then]);refine bodyPost_ret (v:=.tuple #[.agg #[.int .u64 sk.cp,.pointer (some ⟨pb,0,none⟩)],.bool true]) ?_ rfl ⟨by rw [H9.out];exact ⟨pb,db,pao,pc,rfl,⟨Jq.out,by rw [Hy.out.1];exact HK.out.1,Hy.out.2⟩,by omega,λh0=>by have:=Ht.out (by rw [<- Hy.out.1];exact h0);omega⟩,hB ▸ HO.out⟩;have r0:WZ.cell? ⟨B+1,0,none⟩=some (.int .u64 sk.cp):=ad Ho.out 0;have r1:WZ.cell? ⟨B+1,1,none⟩=some (.pointer (some ⟨pb,0,none⟩)):=ad Ho.out 1;rw [iD rfl];clear z0 z1 f0 f1 q0 q1;go_simp
 ·have he:=hz hf;subst he;have hi:Hid (Ol.left m ds hs=none):=by unfold Hid Ol.left;rw [if_neg hf]
  dsimp only;rw [ei hf];have z0:W1.cell? ⟨B+1,0,none⟩=some (.int .u64 0):=ad HA.out 0;have z1:W1.cell? ⟨B+1,1,none⟩=some (.pointer none):=ad HA.out 1;have f0:=aq HA.out 0;have f1:=aq HA.out 1;have Ho:=qI (aj (aj HA.out 0 (.int .u64 0)) 1 (.pointer none));have HO:=qI ((hF.out.setCell (p:=⟨B+1,0,none⟩) (Nat.le_succ _) (.int .u64 0)).setCell (p:=⟨B+1,1,none⟩) (Nat.le_succ _) (.pointer none));clear Hu hz hf HE;generalize Dvs.fault ds=ff at *
  go_wp2_with fail
  generalize ((W1.setCell ⟨B+1,0,none⟩ (.int .u64 0)).setCell ⟨B+1,1,none⟩ (.pointer none))=WZ at *;(try simp only [Exit.inBlock,Exit.then]);refine bodyPost_ret (v:=.tuple #[.agg #[.int .u64 0,.pointer none],.bool false]) ?_ rfl ⟨by rw [hi.out];exact ⟨0,none,rfl⟩,by rw [hB];exact HO.out⟩;have r0:WZ.cell? ⟨B+1,0,none⟩=some (.int .u64 0):=ad Ho.out 0;have r1:WZ.cell? ⟨B+1,1,none⟩=some (.pointer none):=ad Ho.out 1;rw [iD rfl];clear z0 z1 f0 f1;go_simp
end
