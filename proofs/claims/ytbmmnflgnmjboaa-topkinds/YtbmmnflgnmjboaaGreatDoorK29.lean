import Derived.Test.YtbmmnflgnmjboaaGreatDoorK28
set_option maxRecDepth 100000
set_option maxHeartbeats 16000000
namespace Go.Proofs.YtbmmnflgnmjboaaGreatDoor
section
open RowKit Shelf
open Qos (Nd Ct Pd nd ct pd ah aH)
open Sv (Gv Hd gv hd gsF OkC OkG)
open Ost (dif cnt)
open Dvs (Dv dv aT)
attribute [local go_sem] Oper.semAt_some
theorem JP {s:Ol.Sk} {h:Hd} {j:Nat} (hn:Ol.gu s h j=none):∀ i,j<=i->Ol.gu s h i=none:=by
 intro i hi
 induction i with
 | zero=>rw [show j=0 by omega] at hn;exact hn
 | succ i ih=>
  by_cases e:j=i+1
  ·rw [<- e];exact hn
  ·rw [Ol.gu,ih (by omega)];rfl
theorem JQ {s:Ol.Sk} {hs:List Hd} {k:Nat} (hn:Ol.cE s hs k=none):∀ i,k<=i->Ol.cE s hs i=none:=by
 intro i hi
 induction i with
 | zero=>rw [show k=0 by omega] at hn;exact hn
 | succ i ih=>
  by_cases e:k=i+1
  ·rw [<- e];exact hn
  ·rw [Ol.cE,ih (by omega)];rfl
theorem mI {s s':Ol.Sk} {g:Gv} {own:Int} {ns:List Nd} (h:Ol.cS s g own ns=some s'):s'.ds=s.ds/\(s.cp<18446744073709551616->s'.cp<18446744073709551616):=by
 unfold Ol.cS at h
 split at h
 ·split at h
  ·injection h with h
   subst h;exact ⟨rfl,λhs=>Ost.iP _ hs⟩
  ·cases h
 ·cases h
theorem bS.le {W W':World} {v:Value} {g o:Nat} {ds:List Dv} (h:bS W v g o ds) (l:aB W W'):bS W' v g o ds:=by
 obtain ⟨ao,c,hv,hr⟩:=h;refine ⟨ao,c,hv,λh0=>?_⟩;obtain ⟨ha,hlt,hc⟩:=hr h0;exact ⟨ha,Q1 hlt l.size,λk hk=>⟨l.cell _ _ _ (hc k hk).1,l.cell _ _ _ (hc k hk).2.1,l.cell _ _ _ (hc k hk).2.2⟩⟩
def i8 (hs:List Hd):Prop:=∀ x∈hs,ah x.pod=0/\x.gs.length=x.pod.cs.length/\gsF x.gs=0
def lI (w w':World) (e:Ending):Option Ol.Sk->Prop
 | some s'=>∃ pb db ao c,e=.returned (.tuple #[sV s' pb,.bool true])/\de w' pb db ao c s'/\w.heap.size<=pb/\(0<s'.ds.length->w.heap.size<=db)
 | none=>∃ cp p,e=.returned (.tuple #[.agg #[.int .u64 cp,.pointer p],.bool false])
abbrev qd:=λ(Bq:Nat) (y:Sv.Gv) (ia:Option Addr) (ic Bh:Nat) (x:Sv.Hd) (cb co cc:Nat) (z:Qos.Ct) (na:Option Addr) (nc:Nat) (w':World)=>w'.cell? ⟨Bq,0,none⟩=some (.int .u64 (y.cp:Nat))/\w'.cell? ⟨Bq,1,none⟩=some (.slice ia y.dv.length ic)/\w'.cell? ⟨Bh,0,none⟩=some (.string x.pod.nm)/\w'.cell? ⟨Bh,1,none⟩=some (.int .i64 x.pod.pr)/\w'.cell? ⟨Bh,2,none⟩=some (.slice (some ⟨cb,co,none⟩) x.pod.cs.length cc)/\w'.cell? ⟨Bq+1,0,none⟩=some (.string z.nm)/\w'.cell? ⟨Bq+1,1,none⟩=some (.int .i64 z.am)/\w'.cell? ⟨Bq+1,2,none⟩=some (.int .i64 z.ab)/\w'.cell? ⟨Bq+1,3,none⟩=some (.int .i64 z.cm)/\w'.cell? ⟨Bq+1,4,none⟩=some (.int .i64 z.cb)/\w'.cell? ⟨Bq+1,5,none⟩=some (.slice na z.ds.length nc)
theorem JR (m:Ol.Mc) (tb g o:Nat) (v vh:Value) (ds:List Dv) (hs:List Hd) (w:World) (hd:bS w v g o ds) (hH:aM w vh hs) (hop:m.op<18446744073709551616) (hok:i8 hs) (hl:hs.length<=100) :
  Calls Tryz.prog 93 #[mV m tb,v,vh] w λe w'=>lI w w' e (Ol.left m ds hs)/\Below w.heap.size w w':=by
 unfold mV;have HOK:=qI hok;have HBU:=qI (((Q0 w.heap.size w).alloc (lR) (.cells #[.pointer (some ⟨tb,0,none⟩),.int .u64 m.op,.int .u8 m.nd,.int .i64 m.nb,.int .i64 m.pol] 95)).alloc (by simp) (.cells #[.int .u64 0,.pointer none] 98));have sz:((w.alloc (.cells #[.pointer (some ⟨tb,0,none⟩),.int .u64 m.op,.int .u8 m.nd,.int .i64 m.nb,.int .i64 m.pol] 95)).alloc (.cells #[.int .u64 0,.pointer none] 98)).heap.size=w.heap.size+2:=by simp
 have HU0:=qI (bx (aG w (.cells #[.pointer (some ⟨tb,0,none⟩),.int .u64 m.op,.int .u8 m.nd,.int .i64 m.nb,.int .i64 m.pol] 95) rfl) (.cells #[.int .u64 0,.pointer none] 98));have HU1:=qI (aG (w.alloc (.cells #[.pointer (some ⟨tb,0,none⟩),.int .u64 m.op,.int .u8 m.nd,.int .i64 m.nb,.int .i64 m.pol] 95)) (.cells #[.int .u64 0,.pointer none] 98) (n:=w.heap.size+1) (by simp));have hd2:bS ((w.alloc (.cells #[.pointer (some ⟨tb,0,none⟩),.int .u64 m.op,.int .u8 m.nd,.int .i64 m.nb,.int .i64 m.pol] 95)).alloc (.cells #[.int .u64 0,.pointer none] 98)) v g o ds:=hd.le (aB.of_below HBU.out);have HNEW:=qI (rY v g o ds ((w.alloc (.cells #[.pointer (some ⟨tb,0,none⟩),.int .u64 m.op,.int .u8 m.nd,.int .i64 m.nb,.int .i64 m.pol] 95)).alloc (.cells #[.int .u64 0,.pointer none] 98)) hd2);obtain ⟨da,dc,rfl,_⟩:=hd;obtain ⟨ao,c,rfl,hcm,hr⟩:=hH;have HR:=qI hr;clear hok hd2 hr hcm
 go_enter Tryz.func93,Tryz.ntmps93
 go_wp2_with fail
 generalize ((w.alloc (.cells #[.pointer (some ⟨tb,0,none⟩),.int .u64 m.op,.int .u8 m.nd,.int .i64 m.nb,.int .i64 m.pol] 95)).alloc (.cells #[.int .u64 0,.pointer none] 98))=U at *;generalize hB:w.heap.size=B at *;refine HNEW.out.mono ?_;rintro e W1 ⟨hyes,hno,hb1⟩;have HB1:=qI (HBU.out.trans (hb1.mono (by omega)));have hs1:=hb1.size;have HZ1:=qI ((hb1.block (B+1) (by omega)).trans HU1.out);have HM1:=qI ((hb1.block B (by omega)).trans HU0.out)
 by_cases hf:Dvs.fault ds=0
 ·obtain ⟨p,rfl,pb,db,pao,pc,rfl,hpool,hpbl,hdbl⟩:=hyes hf;have HK:=qI (JK hf);have HLF:Hid (Ol.left m ds hs=Ol.cE ⟨m.op,ds,λ_=>false⟩ hs hs.length):=by unfold Hid Ol.left;rw [if_pos hf]
  have HPOOL:=qI hpool;have hpl:=hpool.lt;have HDB:Hid (0<ds.length->B<=db/\db<W1.heap.size):=λh0=>⟨by have:=hdbl h0;omega,(hpool.at0 h0).2.2⟩
  have HDB2:Hid (0<ds.length->U.heap.size<=db):=λh0=>hdbl h0
  clear hyes hno hpool hb1 hdbl hf HNEW;dsimp only;rw [show ak (((0:Nat)):Int)=.nilIface from rfl];have m1:W1.cell? ⟨B,1,none⟩=some (.int .u64 m.op):=ad HM1.out 1;have HP2:=qI (HPOOL.out.alloc (.cells #[.int .u64 m.op,.pointer (some ⟨pb,0,none⟩)] 98));have HT2:=qI (aG W1 (.cells #[.int .u64 m.op,.pointer (some ⟨pb,0,none⟩)] 98) rfl);have HZ2:=qI (bx HZ1.out (.cells #[.int .u64 m.op,.pointer (some ⟨pb,0,none⟩)] 98));have hs2:(W1.alloc (.cells #[.int .u64 m.op,.pointer (some ⟨pb,0,none⟩)] 98)).heap.size=W1.heap.size+1:=by simp
  have HB2:=qI (HB1.out.alloc (by omega) (.cells #[.int .u64 m.op,.pointer (some ⟨pb,0,none⟩)] 98))
  go_wp2_with fail
  generalize W1.alloc (.cells #[.int .u64 m.op,.pointer (some ⟨pb,0,none⟩)] 98)=W2 at *;generalize hsb:W1.heap.size=sb at *;clear m1
  go_loopw [30] (λi wr=>∃ (k:Nat) (sk:Ol.Sk),k<=hs.length/\i=.int .i64 k/\Ol.cE ⟨m.op,ds,λ_=>false⟩ hs k=some sk/\(sk.ds=ds/\sk.cp<18446744073709551616)/\wr.heap[sb]?=some (.cells #[.int .u64 sk.cp,.pointer (some ⟨pb,0,none⟩)] 98 (0,0))/\ap wr pb db pao pc sk.ds sk.us/\Apart (gZ pb sb) W2 wr) (λi _=>hs.length - (intOf i).toNat)
  case atStart=>exact ⟨0,⟨m.op,ds,λ_=>false⟩,by omega,rfl,rfl,⟨rfl,hop⟩,HT2.out,HP2.out,Apart.refl _ _⟩
  case round=>
   obtain ⟨k,sk,hk,rfl,hlt0,hds0,hst0,hpo0,hap0⟩:=hrel;have HLT:=qI hlt0;have HST:=qI hst0;have HPO:=qI hpo0;have HAP:=qI hap0;have HDS:=qI hds0;have hsr:=hap0.size;have HBR:Hid (Below w.heap.size w wr):=by
    unfold Hid;rw [hB];exact hap0.below HB2.out (by omega) (λj hj=>by rcases hj with h|h <;> omega)
   clear hlt0 hst0 hpo0 hap0 hds0
   by_cases hlt:k<hs.length
   ·obtain ⟨hb,ho,cv,gvv,rfl,hin⟩:=HR.out (by omega);have hle:=aB.of_below HBR.out;obtain ⟨x0,x1,x2,x3⟩:=(hin.2 k hlt).1;have x0:=hle.cell _ _ _ x0;have x1:=hle.cell _ _ _ x1;have x2:=hle.cell _ _ _ x2;have x3:=hle.cell _ _ _ x3;have hcon:=(hin.2 k hlt).2.1;have hgiv:=(hin.2 k hlt).2.2;obtain ⟨hpF,hgl,hgF⟩:=HOK.out (hd hs k) (by simp [hd,hlt]);have HLX:Hid (Ol.cE ⟨m.op,ds,λ_=>false⟩ hs (k+1)=Ol.gu sk (hd hs k) (hd hs k).gs.length):=by unfold Hid;rw [Ol.cE,HLT.out];rfl
    obtain ⟨ca,cc,hcv,hcm,hcr⟩:=id hcon;obtain ⟨ga,gc,hgv,hgm,hgr⟩:=id hgiv;rw [hcv] at x2 hcon;rw [hgv] at x3;have HCON:=qI hcon;have HCR:=qI hcr;have HGR:=qI hgr;have HOKP:=qI (Sv.fm hpF);have hx3:=HOKP.out.2.2.1;have HGF:=qI hgF;have HGLQ:=qI hgl;have hgl3:(hd hs k).gs.length<=3:=by omega
    clear hin hcon hgiv hcv hgv hcr hgr hle hcm hgm hpF hgF hgl;generalize hd hs k=x at *;have HBH:=qI ((Q0 wr.heap.size wr).alloc (lR) (.cells #[.string x.pod.nm,.int .i64 x.pod.pr,.slice ca x.pod.cs.length cc,.slice ga x.gs.length gc] 57));have HHX:=qI (aG wr (.cells #[.string x.pod.nm,.int .i64 x.pod.pr,.slice ca x.pod.cs.length cc,.slice ga x.gs.length gc] 57) rfl);have hsH:(wr.alloc (.cells #[.string x.pod.nm,.int .i64 x.pod.pr,.slice ca x.pod.cs.length cc,.slice ga x.gs.length gc] 57)).heap.size=wr.heap.size+1:=by simp
    have HSTH:=qI (bx HST.out (.cells #[.string x.pod.nm,.int .i64 x.pod.pr,.slice ca x.pod.cs.length cc,.slice ga x.gs.length gc] 57));have HPOH:=qI (HPO.out.alloc (.cells #[.string x.pod.nm,.int .i64 x.pod.pr,.slice ca x.pod.cs.length cc,.slice ga x.gs.length gc] 57));have y3:(wr.alloc (.cells #[.string x.pod.nm,.int .i64 x.pod.pr,.slice ca x.pod.cs.length cc,.slice ga x.gs.length gc] 57)).cell? ⟨wr.heap.size,3,none⟩=some (.slice ga x.gs.length gc):=ad HHX.out 3;have HAPH:=qI (HAP.out.trans (Apart.alloc _ wr (.cells #[.string x.pod.nm,.int .i64 x.pod.pr,.slice ca x.pod.cs.length cc,.slice ga x.gs.length gc] 57)))
    go_wp2_with fail
    generalize wr.alloc (.cells #[.string x.pod.nm,.int .i64 x.pod.pr,.slice ca x.pod.cs.length cc,.slice ga x.gs.length gc] 57)=W3 at *;generalize hBh:wr.heap.size=Bh at *;clear x0 x1 x2 x3 y3 HBR
    go_loopw [37] (λi wr=>∃ (j:Nat) (sq:Ol.Sk),j<=x.gs.length/\i=.int .i64 j/\Ol.gu sk x j=some sq/\(sq.ds=ds/\sq.cp<18446744073709551616)/\wr.heap[sb]?=some (.cells #[.int .u64 sq.cp,.pointer (some ⟨pb,0,none⟩)] 98 (0,0))/\ap wr pb db pao pc sq.ds sq.us/\Apart (gZ pb sb) W3 wr) (λi _=>x.gs.length - (intOf i).toNat)
    case atStart=>exact ⟨0,sk,by omega,rfl,rfl,HDS.out,HSTH.out,HPOH.out,Apart.refl _ _⟩
    case round=>
     obtain ⟨j,sq,hj,rfl,hct0,hdq0,hst0,hpo0,hap0⟩:=hrel;have HCT:=qI hct0;have HSTQ:=qI hst0;have HPOQ:=qI hpo0;have HAPQ:=qI hap0;have HDQ:=qI hdq0;have hsq:=hap0.size;have HAPW:=qI (HAPH.out.trans hap0);have HBRQ:Hid (Below w.heap.size w wr):=by
      unfold Hid;rw [hB];exact HAPW.out.below HB2.out (by omega) (λj hj=>by rcases hj with h|h <;> omega)
     have HHQ:=qI ((hap0.block Bh (by omega) (by rintro (h|h) <;> omega)).trans HHX.out);clear hct0 hst0 hpo0 hap0 hdq0
     by_cases hjt:j<x.gs.length
     ·have hjc:j<x.pod.cs.length:=by rw [<- HGLQ.out];exact hjt
      obtain ⟨gb,go,dv,rfl,hgin⟩:=HGR.out (by omega);obtain ⟨cb,co,cdv,rfl,hcin⟩:=HCR.out (by omega);have hle:=aB.of_below HBRQ.out;obtain ⟨⟨g0,g1,g2⟩,hint⟩:=hgin.2 j hjt;have g0:=hle.cell _ _ _ g0;have g1:=hle.cell _ _ _ g1;obtain ⟨k0,k1,k2,k3,k4,k5⟩:=hcin.at hjc;have k0:=hle.cell _ _ _ k0;have k1:=hle.cell _ _ _ k1;have k2:=hle.cell _ _ _ k2;have k3:=hle.cell _ _ _ k3;have k4:=hle.cell _ _ _ k4;have k5:=hle.cell _ _ _ k5;have hneed:=(hcin.2 j hjc).2;obtain ⟨ia,ic,hiv,hi1,hi2⟩:=id hint;obtain ⟨na,nc,hnv,hn1,hn2⟩:=id hneed;rw [hiv] at g1 hint;rw [hnv] at k5 hneed;have HINT:=qI hint;have HNEED:=qI hneed;have HCX:Hid (Ol.gu sk x (j+1)=Ol.cS sq (gv x.gs j) (aH x.pod.cs (ct x.pod.cs j).am) (ct x.pod.cs j).ds):=by unfold Hid;rw [Ol.gu,HCT.out];rfl
      have HZO:=qI (HOKP.out.2.2.2 (ct x.pod.cs j) (Ost.dO _ _ _ hjc));have HYL:=qI (Ol.pD (Dvs.cO HGF.out j hjt));have hz2:HHQ.out=HHQ.out:=rfl;have j1:(j:Int)<(x.gs.length:Int):=by omega
      have j2:(j:Int)<(x.pod.cs.length:Int):=by omega
      clear hgin hcin hint hneed hiv hnv hle hi1 hi2 hn1 hn2 hz2;generalize gv x.gs j=y at *;generalize ct x.pod.cs j=z at *;have b2:wr.cell? ⟨Bh,2,none⟩=some (.slice (some ⟨cb,co,none⟩) x.pod.cs.length cc):=ad HHQ.out 2;have HBX:=qI (((Q0 wr.heap.size wr).alloc (lR) (.cells #[.int .u64 (y.cp:Nat),.slice ia y.dv.length ic] 69)).alloc (by simp) (.cells #[.string z.nm,.int .i64 z.am,.int .i64 z.ab,.int .i64 z.cm,.int .i64 z.cb,.slice na z.ds.length nc] 63));have HGX:=qI (bx (aG wr (.cells #[.int .u64 (y.cp:Nat),.slice ia y.dv.length ic] 69) rfl) (.cells #[.string z.nm,.int .i64 z.am,.int .i64 z.ab,.int .i64 z.cm,.int .i64 z.cb,.slice na z.ds.length nc] 63));have HCXX:=qI (aG (wr.alloc (.cells #[.int .u64 (y.cp:Nat),.slice ia y.dv.length ic] 69)) (.cells #[.string z.nm,.int .i64 z.am,.int .i64 z.ab,.int .i64 z.cm,.int .i64 z.cb,.slice na z.ds.length nc] 63) (n:=wr.heap.size+1) (by simp));have hsX:((wr.alloc (.cells #[.int .u64 (y.cp:Nat),.slice ia y.dv.length ic] 69)).alloc (.cells #[.string z.nm,.int .i64 z.am,.int .i64 z.ab,.int .i64 z.cm,.int .i64 z.cb,.slice na z.ds.length nc] 63)).heap.size=wr.heap.size+2:=by simp
      have b3:(wr.alloc (.cells #[.int .u64 (y.cp:Nat),.slice ia y.dv.length ic] 69)).cell? ⟨Bh,2,none⟩=some (.slice (some ⟨cb,co,none⟩) x.pod.cs.length cc):=ad (bx HHQ.out _) 2;have hle2:=(Q0 wr.heap.size wr).alloc (lR) (.cells #[.int .u64 (y.cp:Nat),.slice ia y.dv.length ic] 69);have hcl:cb<wr.heap.size:=Q3 _ ⟨cb,co+j*6,none⟩ k0;have k0':=(hle2.cell (p:=⟨cb,co+j*6,none⟩) hcl).trans k0;have k1':=(hle2.cell (p:=⟨cb,co+j*6+1,none⟩) hcl).trans k1;have k2':=(hle2.cell (p:=⟨cb,co+j*6+2,none⟩) hcl).trans k2;have k3':=(hle2.cell (p:=⟨cb,co+j*6+3,none⟩) hcl).trans k3;have k4':=(hle2.cell (p:=⟨cb,co+j*6+4,none⟩) hcl).trans k4;have k5':=(hle2.cell (p:=⟨cb,co+j*6+5,none⟩) hcl).trans k5;clear hle2
      go_wp2_with fail
      generalize hBq:wr.heap.size=Bq at *;have HPX:Hid (ap ((wr.alloc (.cells #[.int .u64 (y.cp:Nat),.slice ia y.dv.length ic] 69)).alloc (.cells #[.string z.nm,.int .i64 z.am,.int .i64 z.ab,.int .i64 z.cm,.int .i64 z.cb,.slice na z.ds.length nc] 63)) pb db pao pc sq.ds sq.us):=(HPOQ.out.alloc _).alloc _;have HSTX:=qI (bx (bx HSTQ.out (.cells #[.int .u64 (y.cp:Nat),.slice ia y.dv.length ic] 69)) (.cells #[.string z.nm,.int .i64 z.am,.int .i64 z.ab,.int .i64 z.cm,.int .i64 z.cb,.slice na z.ds.length nc] 63));have HHX2:=qI (bx (bx HHQ.out (.cells #[.int .u64 (y.cp:Nat),.slice ia y.dv.length ic] 69)) (.cells #[.string z.nm,.int .i64 z.am,.int .i64 z.ab,.int .i64 z.cm,.int .i64 z.cb,.slice na z.ds.length nc] 63));have HBWX:=qI (HBRQ.out.trans (HBX.out.mono (by have:=HBRQ.out.size;omega)));generalize ((wr.alloc (.cells #[.int .u64 (y.cp:Nat),.slice ia y.dv.length ic] 69)).alloc (.cells #[.string z.nm,.int .i64 z.am,.int .i64 z.ab,.int .i64 z.cm,.int .i64 z.cb,.slice na z.ds.length nc] 63))=X at *;clear g0 g1 k0 k1 k2 k3 k4 k5 b2 b3 k0' k1' k2' k3' k4' k5';have HSB:Hid (∀ W,Below X.heap.size X W->(qd Bq y ia ic Bh x cb co cc z na nc) W):=λW hb=>⟨ad ((hb.block (Bq) (by omega)).trans HGX.out) 0,ad ((hb.block (Bq) (by omega)).trans HGX.out) 1,ad ((hb.block (Bh) (by omega)).trans HHX2.out) 0,ad ((hb.block (Bh) (by omega)).trans HHX2.out) 1,ad ((hb.block (Bh) (by omega)).trans HHX2.out) 2,ad ((hb.block (Bq+1) (by omega)).trans HCXX.out) 0,ad ((hb.block (Bq+1) (by omega)).trans HCXX.out) 1,ad ((hb.block (Bq+1) (by omega)).trans HCXX.out) 2,ad ((hb.block (Bq+1) (by omega)).trans HCXX.out) 3,ad ((hb.block (Bq+1) (by omega)).trans HCXX.out) 4,ad ((hb.block (Bq+1) (by omega)).trans HCXX.out) 5⟩
      have HBd:Hid (Below X.heap.size X X.drew):=bf (Q0 _ _);have HWX:Hid (∀ W,Below X.heap.size X W->Below w.heap.size w W):=λW hb=>HBWX.out.trans (hb.mono (by have:=HBWX.out.size;omega))
      have HCLM:=qI (λ(W:World) (hb:Below X.heap.size X W)=>JO sb pb db pao pc sq y (aH x.pod.cs z.am) (.slice ia y.dv.length ic) (.slice na z.ds.length nc) z.ds W ((hb.block sb (by omega)).trans HSTX.out) (HPX.out.below hb) (by rw [HDQ.out.1];exact HK.out) HDQ.out.2 g2 (HINT.out.le (kY (HWX.out W hb) rfl (λj hj=>by rcases hj with h|h <;> omega))) (HNEED.out.le (kY (HWX.out W hb) rfl (λj hj=>by rcases hj with h|h <;> omega))) (by have:=HYL.out;omega) (by have:=HZO.out.2.2.2.2.2.1;omega) (λq hq=>by
       have hn:=HZO.out.2.2.2.2.2.2 (nd z.ds q) (Ost.dO _ _ _ hq)
       have:=(Sv.gN hn.1).2
       have e:(nd z.ds q).kind.data.toList.length=(nd z.ds q).kind.size:=by simp
       have:=hn.2
       omega) (λh0=>by have:=HDB.out (by rw [<- HDQ.out.1];exact h0);omega))
      obtain ⟨oc,hoc⟩:∃ oc,oc=Ol.cS sq y (aH x.pod.cs z.am) z.ds:=⟨_,rfl⟩;rw [<- hoc] at HCLM;have HOC:=qI hoc;clear hoc;cases oc with
      | none=>
       refine Qo (by kernel_rfl) (HSB.out _ HBd.out) (λhHeld=>?_);generalize X.drew=V at *;refine tk 0 ?_;refine tk 1 ?_;refine tk 2 ?_;refine tk 3 ?_;refine tk 5 ?_;refine tk 6 ?_;refine rd 4 (λK hK=>?_);go_simp
       go_wp2_with fail
       refine (mz x.pod (.slice (some ⟨cb,co,none⟩) x.pod.cs.length cc) z na z.ds.length nc V (HCON.out.le (aB.of_below (HWX.out _ HBd.out))) HZO.out.2.1.1 HZO.out.2.1.2).mono ?_;rintro e W5 ⟨rfl,hb5⟩;have HB5:=qI (HBd.out.trans (hb5.mono HBd.out.size));clear hb5
       go_wp2
       refine hK.out _ _ (HSB.out _ HB5.out) (λhHeld=>?_);clear hK K;refine rd 7 (λK hK=>?_);go_simp
       go_wp2_with fail
       refine (HCLM.out W5 HB5.out).mono ?_;rintro e W6 ⟨hco,hap6⟩;have HAP6:=qI hap6;have hco:e=.returned (.bool false):=hco;subst hco;have HS6:Hid ((qd Bq y ia ic Bh x cb co cc z na nc) W6):=⟨ad ((hap6.block (Bq) (by have:=HB5.out.size;omega) (by rintro (h|h) <;> omega)).trans ((HB5.out.block (Bq) (by omega)).trans HGX.out)) 0,ad ((hap6.block (Bq) (by have:=HB5.out.size;omega) (by rintro (h|h) <;> omega)).trans ((HB5.out.block (Bq) (by omega)).trans HGX.out)) 1,ad ((hap6.block (Bh) (by have:=HB5.out.size;omega) (by rintro (h|h) <;> omega)).trans ((HB5.out.block (Bh) (by omega)).trans HHX2.out)) 0,ad ((hap6.block (Bh) (by have:=HB5.out.size;omega) (by rintro (h|h) <;> omega)).trans ((HB5.out.block (Bh) (by omega)).trans HHX2.out)) 1,ad ((hap6.block (Bh) (by have:=HB5.out.size;omega) (by rintro (h|h) <;> omega)).trans ((HB5.out.block (Bh) (by omega)).trans HHX2.out)) 2,ad ((hap6.block (Bq+1) (by have:=HB5.out.size;omega) (by rintro (h|h) <;> omega)).trans ((HB5.out.block (Bq+1) (by omega)).trans HCXX.out)) 0,ad ((hap6.block (Bq+1) (by have:=HB5.out.size;omega) (by rintro (h|h) <;> omega)).trans ((HB5.out.block (Bq+1) (by omega)).trans HCXX.out)) 1,ad ((hap6.block (Bq+1) (by have:=HB5.out.size;omega) (by rintro (h|h) <;> omega)).trans ((HB5.out.block (Bq+1) (by omega)).trans HCXX.out)) 2,ad ((hap6.block (Bq+1) (by have:=HB5.out.size;omega) (by rintro (h|h) <;> omega)).trans ((HB5.out.block (Bq+1) (by omega)).trans HCXX.out)) 3,ad ((hap6.block (Bq+1) (by have:=HB5.out.size;omega) (by rintro (h|h) <;> omega)).trans ((HB5.out.block (Bq+1) (by omega)).trans HCXX.out)) 4,ad ((hap6.block (Bq+1) (by have:=HB5.out.size;omega) (by rintro (h|h) <;> omega)).trans ((HB5.out.block (Bq+1) (by omega)).trans HCXX.out)) 5⟩;clear hap6
       go_wp2
       refine hK.out _ _ HS6.out (λhHeld=>?_);clear hK K;refine tk 8 ?_;refine Qn (by kernel_rfl) ?_ _;clear hHeld;have HA6:=qI ((HAPW.out.trans (Apart.of_below (show Below wr.heap.size wr X by rw [hBq];exact HBX.out))).trans ((Apart.of_below HB5.out).trans HAP6.out));have HZ6:=qI ((HA6.out.block (B+1) (by omega) (by rintro (h|h) <;> omega)).trans HZ2.out);have HB6:Hid (Below w.heap.size w W6):=by
        unfold Hid;rw [hB];exact HA6.out.below HB2.out (by omega) (λj hj=>by rcases hj with h|h <;> omega)
       have HNO:Hid (Ol.left m ds hs=none):=by
        unfold Hid;rw [HLF.out];refine JQ (k:=k+1) ?_ _ (by omega);rw [HLX.out];exact JP (j:=j+1) (by rw [HCX.out,HOC.out]) _ (by omega)
       have z0:W6.cell? ⟨B+1,0,none⟩=some (.int .u64 0):=ad HZ6.out 0;have z1:W6.cell? ⟨B+1,1,none⟩=some (.pointer none):=ad HZ6.out 1;have f0:=aq HZ6.out 0;have f1:=aq HZ6.out 1;have HZZ:=qI (aj (aj HZ6.out 0 (.int .u64 0)) 1 (.pointer none));have HBZ:=qI ((HB6.out.setCell (p:=⟨B+1,0,none⟩) (by rw [hB];exact Nat.le_succ _) (.int .u64 0)).setCell (p:=⟨B+1,1,none⟩) (by rw [hB];exact Nat.le_succ _) (.pointer none))
       go_wp2_with fail
       generalize ((W6.setCell ⟨B+1,0,none⟩ (.int .u64 0)).setCell ⟨B+1,1,none⟩ (.pointer none))=WZ at *;(try simp only [Exit.inBlock,Exit.then]);refine bodyPost_ret (v:=.tuple #[.agg #[.int .u64 0,.pointer none],.bool false]) ?_ rfl ⟨by rw [HNO.out];exact ⟨0,none,rfl⟩,hB ▸ HBZ.out⟩;have r0:WZ.cell? ⟨B+1,0,none⟩=some (.int .u64 0):=ad HZZ.out 0;have r1:WZ.cell? ⟨B+1,1,none⟩=some (.pointer none):=ad HZZ.out 1;rw [gY rfl];clear z0 z1 f0 f1;go_simp
      | some sq2=>
       refine Qo (by kernel_rfl) (HSB.out _ HBd.out) (λhHeld=>?_);generalize X.drew=V at *;refine tk 0 ?_;refine tk 1 ?_;refine tk 2 ?_;refine tk 3 ?_;refine tk 5 ?_;refine tk 6 ?_;refine rd 4 (λK hK=>?_);go_simp
       go_wp2_with fail
       refine (mz x.pod (.slice (some ⟨cb,co,none⟩) x.pod.cs.length cc) z na z.ds.length nc V (HCON.out.le (aB.of_below (HWX.out _ HBd.out))) HZO.out.2.1.1 HZO.out.2.1.2).mono ?_;rintro e W5 ⟨rfl,hb5⟩;have HB5:=qI (HBd.out.trans (hb5.mono HBd.out.size));clear hb5
       go_wp2
       refine hK.out _ _ (HSB.out _ HB5.out) (λhHeld=>?_);clear hK K;refine rd 7 (λK hK=>?_);go_simp
       go_wp2_with fail
       refine (HCLM.out W5 HB5.out).mono ?_;rintro e W6 ⟨hco,hap6⟩;have HAP6:=qI hap6;obtain ⟨rfl,hst6,hpo6⟩:=hco;have HST6:=qI hst6;have HPO6:=qI hpo6;clear hst6 hpo6;have HS6:Hid ((qd Bq y ia ic Bh x cb co cc z na nc) W6):=⟨ad ((hap6.block (Bq) (by have:=HB5.out.size;omega) (by rintro (h|h) <;> omega)).trans ((HB5.out.block (Bq) (by omega)).trans HGX.out)) 0,ad ((hap6.block (Bq) (by have:=HB5.out.size;omega) (by rintro (h|h) <;> omega)).trans ((HB5.out.block (Bq) (by omega)).trans HGX.out)) 1,ad ((hap6.block (Bh) (by have:=HB5.out.size;omega) (by rintro (h|h) <;> omega)).trans ((HB5.out.block (Bh) (by omega)).trans HHX2.out)) 0,ad ((hap6.block (Bh) (by have:=HB5.out.size;omega) (by rintro (h|h) <;> omega)).trans ((HB5.out.block (Bh) (by omega)).trans HHX2.out)) 1,ad ((hap6.block (Bh) (by have:=HB5.out.size;omega) (by rintro (h|h) <;> omega)).trans ((HB5.out.block (Bh) (by omega)).trans HHX2.out)) 2,ad ((hap6.block (Bq+1) (by have:=HB5.out.size;omega) (by rintro (h|h) <;> omega)).trans ((HB5.out.block (Bq+1) (by omega)).trans HCXX.out)) 0,ad ((hap6.block (Bq+1) (by have:=HB5.out.size;omega) (by rintro (h|h) <;> omega)).trans ((HB5.out.block (Bq+1) (by omega)).trans HCXX.out)) 1,ad ((hap6.block (Bq+1) (by have:=HB5.out.size;omega) (by rintro (h|h) <;> omega)).trans ((HB5.out.block (Bq+1) (by omega)).trans HCXX.out)) 2,ad ((hap6.block (Bq+1) (by have:=HB5.out.size;omega) (by rintro (h|h) <;> omega)).trans ((HB5.out.block (Bq+1) (by omega)).trans HCXX.out)) 3,ad ((hap6.block (Bq+1) (by have:=HB5.out.size;omega) (by rintro (h|h) <;> omega)).trans ((HB5.out.block (Bq+1) (by omega)).trans HCXX.out)) 4,ad ((hap6.block (Bq+1) (by have:=HB5.out.size;omega) (by rintro (h|h) <;> omega)).trans ((HB5.out.block (Bq+1) (by omega)).trans HCXX.out)) 5⟩;clear hap6
       go_wp2
       refine hK.out _ _ HS6.out (λhHeld=>?_);clear hK K;refine tk 8 ?_;refine Qn (by kernel_rfl) ?_ _;clear hHeld;have HC2:=qI (mI HOC.out.symm);have HA6:=qI ((HAPQ.out.trans (Apart.of_below (show Below wr.heap.size wr X by rw [hBq];exact HBX.out))).trans ((Apart.of_below HB5.out).trans HAP6.out))
       go_wp2
       go_roundw
       case rel=>exact ⟨j+1,sq2,by omega,by go_num,by rw [HCX.out,HOC.out],⟨HC2.out.1.trans HDQ.out.1,HC2.out.2 HDQ.out.2⟩,HST6.out,HPO6.out,HA6.out⟩
       case measure=>simp [intOf];omega
     ·have hje:j=x.gs.length:=by omega
      subst hje
      go_wp2
      go_roundw
      case rel=>exact ⟨k+1,sq,by omega,by go_num,by rw [HLX.out,HCT.out],HDQ.out,HSTQ.out,HPOQ.out,HAPW.out⟩
      case measure=>simp [intOf];omega
   ·have hke:k=hs.length:=by omega
    subst hke;have HYES:Hid (Ol.left m ds hs=some sk):=by unfold Hid;rw [HLF.out,HLT.out]
    have HZ6:=qI ((HAP.out.block (B+1) (by omega) (by rintro (h|h) <;> omega)).trans HZ2.out);have z0:wr.cell? ⟨B+1,0,none⟩=some (.int .u64 0):=ad HZ6.out 0;have z1:wr.cell? ⟨B+1,1,none⟩=some (.pointer none):=ad HZ6.out 1;have f0:=aq HZ6.out 0;have f1:=aq HZ6.out 1;have q0:wr.cell? ⟨sb,0,none⟩=some (.int .u64 sk.cp):=ad HST.out 0;have q1:wr.cell? ⟨sb,1,none⟩=some (.pointer (some ⟨pb,0,none⟩)):=ad HST.out 1;have HZZ:=qI (aj (aj HZ6.out 0 (.int .u64 sk.cp)) 1 (.pointer (some ⟨pb,0,none⟩)));have HBZ:=qI ((HBR.out.setCell (p:=⟨B+1,0,none⟩) (by rw [hB];exact Nat.le_succ _) (.int .u64 sk.cp)).setCell (p:=⟨B+1,1,none⟩) (by rw [hB];exact Nat.le_succ _) (.pointer (some ⟨pb,0,none⟩)));have HPZ:Hid (ap ((wr.setCell ⟨B+1,0,none⟩ (.int .u64 sk.cp)).setCell ⟨B+1,1,none⟩ (.pointer (some ⟨pb,0,none⟩))) pb db pao pc sk.ds sk.us):=(HPO.out.kept (bL _ ⟨B+1,0,none⟩ _) (λe=>by injection e with e;have e:pb=B+1:=e;omega) (λh1 e=>by injection e with e;have e:db=B+1:=e;have:=HDB2.out (by rw [<- HDS.out.1];exact h1);omega)).kept (bL _ ⟨B+1,1,none⟩ _) (λe=>by injection e with e;have e:pb=B+1:=e;omega) (λh1 e=>by injection e with e;have e:db=B+1:=e;have:=HDB2.out (by rw [<- HDS.out.1];exact h1);omega)
    go_wp2_with fail
    generalize ((wr.setCell ⟨B+1,0,none⟩ (.int .u64 sk.cp)).setCell ⟨B+1,1,none⟩ (.pointer (some ⟨pb,0,none⟩)))=WZ at *;(try simp only [Exit.inBlock,Exit.then]);refine bodyPost_ret (v:=.tuple #[.agg #[.int .u64 sk.cp,.pointer (some ⟨pb,0,none⟩)],.bool true]) ?_ rfl ⟨by rw [HYES.out];exact ⟨pb,db,pao,pc,rfl,⟨HPZ.out,by rw [HDS.out.1];exact HK.out.1,HDS.out.2⟩,by omega,λh0=>by have:=HDB2.out (by rw [<- HDS.out.1];exact h0);omega⟩,hB ▸ HBZ.out⟩;have r0:WZ.cell? ⟨B+1,0,none⟩=some (.int .u64 sk.cp):=ad HZZ.out 0;have r1:WZ.cell? ⟨B+1,1,none⟩=some (.pointer (some ⟨pb,0,none⟩)):=ad HZZ.out 1;rw [gY rfl];clear z0 z1 f0 f1 q0 q1;go_simp
 ·have he:=hno hf;subst he;have HNO:Hid (Ol.left m ds hs=none):=by unfold Hid Ol.left;rw [if_neg hf]
  dsimp only;rw [dI hf];have z0:W1.cell? ⟨B+1,0,none⟩=some (.int .u64 0):=ad HZ1.out 0;have z1:W1.cell? ⟨B+1,1,none⟩=some (.pointer none):=ad HZ1.out 1;have f0:=aq HZ1.out 0;have f1:=aq HZ1.out 1;have HZZ:=qI (aj (aj HZ1.out 0 (.int .u64 0)) 1 (.pointer none));have HBZ:=qI ((HB1.out.setCell (p:=⟨B+1,0,none⟩) (Nat.le_succ _) (.int .u64 0)).setCell (p:=⟨B+1,1,none⟩) (Nat.le_succ _) (.pointer none));clear hyes hno hf hb1;generalize Dvs.fault ds=ff at *
  go_wp2_with fail
  generalize ((W1.setCell ⟨B+1,0,none⟩ (.int .u64 0)).setCell ⟨B+1,1,none⟩ (.pointer none))=WZ at *;(try simp only [Exit.inBlock,Exit.then]);refine bodyPost_ret (v:=.tuple #[.agg #[.int .u64 0,.pointer none],.bool false]) ?_ rfl ⟨by rw [HNO.out];exact ⟨0,none,rfl⟩,by rw [hB];exact HBZ.out⟩;have r0:WZ.cell? ⟨B+1,0,none⟩=some (.int .u64 0):=ad HZZ.out 0;have r1:WZ.cell? ⟨B+1,1,none⟩=some (.pointer none):=ad HZZ.out 1;rw [gY rfl];clear z0 z1 f0 f1;go_simp
end
