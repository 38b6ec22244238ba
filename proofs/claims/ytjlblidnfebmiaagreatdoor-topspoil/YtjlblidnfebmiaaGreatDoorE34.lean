import Derived.Test.YtjlblidnfebmiaaGreatDoorE33
set_option maxRecDepth 100000
set_option maxHeartbeats 16000000
open Go Go.RowKit Go.Shelf
attribute [local go_sem] Oper.semAt_some
namespace Go.Proofs.YtjlblidnfebmiaaGreatDoor
theorem Tl {s:aB} {h:ad} {j:Nat} (a:fw s h j=none):∀ i,j<=i->fw s h i=none:=by
 intro i hi
 induction i with
 | zero=>rw [show j=0 by omega] at a;exact a
 | succ i ih=>
  by_cases e:j=i+1
  ·rw [<- e];exact a
  ·rw [fw,ih (by omega)];rfl
theorem Tm {s:aB} {hs:List ad} {k:Nat} (a:eI s hs k=none):∀ i,k<=i->eI s hs i=none:=by
 intro i hi
 induction i with
 | zero=>rw [show k=0 by omega] at a;exact a
 | succ i ih=>
  by_cases e:k=i+1
  ·rw [<- e];exact a
  ·rw [eI,ih (by omega)];rfl
theorem Tn {s a:aB} {g:aP} {own:Int} {ns:List ai} (h:ev s g own ns=some a):a.ds=s.ds/\(s.cp<18446744073709551616->a.cp<18446744073709551616):=by grind [ev,kh]
theorem dW.le {W W':World} {v:Value} {g o:Nat} {ds:List ah} (h:dW W v g o ds) (l:aM W W'):dW W' v g o ds:=by
 obtain ⟨j,c,e,m⟩:=h;refine ⟨j,c,e,λi=>?_⟩;obtain ⟨f,a,d⟩:=m i;exact ⟨f,Q1 a l.size,λk b=>⟨l.cell _ _ _ (d k b).1,l.cell _ _ _ (d k b).2.1,l.cell _ _ _ (d k b).2.2⟩⟩
def kM (hs:List ad):Prop:=∀ x∈hs,br x.pod=0/\x.gs.length=x.pod.cs.length/\ql x.gs=0
def rf (w w':World) (e:Ending):Option aB->Prop
 | some s'=>∃ pb db ao c,e=.returned (.tuple #[sV s' pb,.bool true])/\ee w' pb db ao c s'/\w.heap.size<=pb/\(0<s'.ds.length->w.heap.size<=db)
 | none=>∃ cp p,e=.returned (.tuple #[.agg #[.int .u64 cp,.pointer p],.bool false])
abbrev mP:=λ(x0:aA) (x1:Option Addr) (x2:Nat)=>(.cells #[x0.nm,(x0.am:Int),(x0.ab:Int),(x0.cm:Int),(x0.cb:Int),.slice x1 x0.ds.length x2] 65:Obj)
abbrev mQ:=λ(x0:ad) (x1:Option Addr) (x2:Nat) (x3:Option Addr) (x4:Nat)=>(.cells #[x0.pod.nm,(x0.pod.pr:Int),.slice x1 x0.pod.cs.length x2,.slice x3 x0.gs.length x4] 101:Obj)
abbrev oq:=λ(x0:Nat) (x1:aF)=>(.cells #[x0,.int .u64 x1.op,.int .u8 x1.nd,(x1.nb:Int),(x1.pol:Int)] 84:Obj)
abbrev kN:=λ(x0:aP) (x1:Option Addr) (x2:Nat)=>(.cells #[.int .u64 (x0.cp:Nat),.slice x1 x0.dv.length x2] 123:Obj)
abbrev pC:=λ(x0:aF) (x1:Nat)=>(.cells #[.int .u64 x0.op,x1] 87:Obj)
abbrev rh:=λ(Bq:Nat) (y:aP) (ia:Option Addr) (ic Bh:Nat) (x:ad) (cb co cc:Nat) (z:aA) (na:Option Addr) (nc:Nat) (w':World)=>cl w' Bq (0) (.int .u64 (y.cp:Nat))/\cl w' Bq (1) (.slice ia y.dv.length ic)/\cl w' Bh (0) x.pod.nm/\cl w' Bh (1) (x.pod.pr:Int)/\cl w' Bh (2) (.slice (some ⟨cb,co,none⟩) x.pod.cs.length cc)/\cl w' (Bq+1) (0) z.nm/\cl w' (Bq+1) (1) (z.am:Int)/\cl w' (Bq+1) (2) (z.ab:Int)/\cl w' (Bq+1) (3) (z.cm:Int)/\cl w' (Bq+1) (4) (z.cb:Int)/\cl w' (Bq+1) (5) (.slice na z.ds.length nc)
theorem To (m:aF) (L g o:Nat) (v vh:Value) (ds:List ah) (hs:List ad) (w:World) (af:dW w v g o ds) (hH:aX w vh hs) (j4:m.op<18446744073709551616) (j0:kM hs) (hl:hs.length<=100) :
  Calls Tryz.prog 91 #[mV m L,v,vh] w λe w'=>rf w w' e (aW m ds hs)/\Below w w w':=by
 unfold mV;have Jj:=qI j0;have hR:=qI (((Q0 w w).alloc (lR) (oq L m)).alloc (by simp) (.cells #[.int .u64 0,.pointer none] 87));have sz:((w.alloc (oq L m)).alloc (.cells #[.int .u64 0,.pointer none] 87)).heap.size=w.heap.size+2:=by simp
 have Ji:=qI (b6 (aU w (oq L m) rfl) (.cells #[.int .u64 0,.pointer none] 87));have Jp:=qI (aU (w.alloc (oq L m)) (.cells #[.int .u64 0,.pointer none] 87) (n:=w.heap.size+1) (by simp));have hY:dW ((w.alloc (oq L m)).alloc (.cells #[.int .u64 0,.pointer none] 87)) v g o ds:=af.le (aM.of_below hR.o);have HJ:=qI (zR v g o ds ((w.alloc (oq L m)).alloc (.cells #[.int .u64 0,.pointer none] 87)) hY);obtain ⟨da,dc,rfl,_⟩:=af;obtain ⟨ao,c,rfl,hg,hr⟩:=hH;have HR:=qI hr;clear j0 hY hr hg
 go_enter Tryz.func91,Tryz.ntmps91
 go_wp2_with fail
 generalize ((w.alloc (oq L m)).alloc (.cells #[.int .u64 0,.pointer none] 87))=U at *;generalize hB:w.heap.size=B at *;refine HJ.o.mono ?_;rintro e E ⟨Hv,hc,Q⟩;have hT:=qI (hR.o.trans (Q.mono (by omega)));have Ju:=Q.size;have Hz:=qI ((Q.block (B+1) (by omega)).trans Jp.o);have h6:=qI ((Q.block B (by omega)).trans Ji.o)
 by_cases hf:dQ ds=0
 ·obtain ⟨p,rfl,b,db,A,pc,rfl,Hi,Jc,Hr⟩:=Hv hf;have HK:=qI (Th hf);have hM:Hu (aW m ds hs=eI ⟨m.op,ds,λ_=>false⟩ hs hs.length):=by unfold Hu aW;rw [if_pos hf]
  have HP:=qI Hi;have Jt:=Hi.lt;have Jo:Hu (0<ds.length->B<=db/\db<E.heap.size):=λI=>⟨by have:=Hr I;omega,(Hi.at0 I).2.2⟩
  have Hx:Hu (0<ds.length->U.heap.size<=db):=λI=>Hr I
  clear Hv hc Hi Q Hr hf HJ;dsimp only;rw [show aL (((0:Nat)):Int)=.nilIface from rfl];have m1:E.cell? ⟨B,1,none⟩=some (.int .u64 m.op):=aa h6.o 1;have Jh:=qI (HP.o.alloc (pC m b));have Jq:=qI (aU E (pC m b) rfl);have hI:=qI (b6 Hz.o (pC m b));have Jz:(E.alloc (pC m b)).heap.size=E.heap.size+1:=by simp
  have H6:=qI (hT.o.alloc (by omega) (pC m b))
  go_wp2_with fail
  generalize E.alloc (pC m b)=W2 at *;generalize hsb:E.heap.size=J at *;clear m1
  go_loopw [30] (λi wr=>∃ (k:Nat) (f:aB),k<=hs.length/\i=.int .i64 k/\eI ⟨m.op,ds,λ_=>false⟩ hs k=some f/\(f.ds=ds/\f.cp<18446744073709551616)/\wr.heap[J]?=some (.cells #[.int .u64 f.cp,b] 87 (0,0))/\aJ wr b db A pc f.ds f.us/\Apart (kL b J) W2 wr) (λi _=>hs.length - (intOf i).toNat)
  case atStart=>exact ⟨0,⟨m.op,ds,λ_=>false⟩,by omega,rfl,rfl,⟨rfl,j4⟩,Jq.o,Jh.o,Apart.refl _ _⟩
  case round=>
   obtain ⟨k,f,hk,rfl,HS,HT,Hj,Hk,He⟩:=hrel;have hS:=qI HS;have ha:=qI Hj;have hL:=qI Hk;have h2:=qI He;have Z:=qI HT;have Jw:=He.size;have hx:Hu (Below w w wr):=by
    unfold Hu;rw [hB];exact He.below H6.o (by omega) (λj F=>by rcases F with h|h <;> omega)
   clear HS Hj Hk He HT
   by_cases G:k<hs.length
   ·obtain ⟨l,ho,cv,Zb,rfl,H5⟩:=HR.o (by omega);have hle:=aM.of_below hx.o;obtain ⟨x0,x1,x2,x3⟩:=(H5.2 k G).1;have x0:=hle.cell _ _ _ x0;have x1:=hle.cell _ _ _ x1;have x2:=hle.cell _ _ _ x2;have x3:=hle.cell _ _ _ x3;have Hm:=(H5.2 k G).2.1;have HI:=(H5.2 k G).2.2;obtain ⟨hG,hE,hX⟩:=Jj.o (af hs k) (by simp [af,G]);have hV:Hu (eI ⟨m.op,ds,λ_=>false⟩ hs (k+1)=fw f (af hs k) (af hs k).gs.length):=by unfold Hu;rw [eI,hS.o];rfl
    obtain ⟨ca,cc,hP,hg,hN⟩:=id Hm;obtain ⟨ga,gc,hJ,Jn,hF⟩:=id HI;rw [hP] at x2 Hm;rw [hJ] at x3;have HU:=qI Hm;have Jl:=qI hN;have Je:=qI hF;have HH:=qI (jk hG);have JA:=HH.o.2.2.1;have h5:=qI hX;have hw:=qI hE;have Jk:(af hs k).gs.length<=3:=by omega
    clear H5 Hm HI hP hJ hN hF hle hg Jn hG hX hE;generalize af hs k=x at *;have Jy:=qI ((Q0 wr wr).alloc (lR) (mQ x ca cc ga gc));have hO:=qI (aU wr (mQ x ca cc ga gc) rfl);have JB:(wr.alloc (mQ x ca cc ga gc)).heap.size=wr.heap.size+1:=by simp
    have hp:=qI (b6 ha.o (mQ x ca cc ga gc));have H8:=qI (hL.o.alloc (mQ x ca cc ga gc));have y3:(wr.alloc (mQ x ca cc ga gc)).cell? ⟨wr,3,none⟩=some (.slice ga x.gs.length gc):=aa hO.o 3;have H9:=qI (h2.o.trans (Apart.alloc _ wr (mQ x ca cc ga gc)))
    go_wp2_with fail
    generalize wr.alloc (mQ x ca cc ga gc)=W3 at *;generalize hBh:wr.heap.size=d at *;clear x0 x1 x2 x3 y3 hx
    go_loopw [37] (λi wr=>∃ (j:Nat) (C:aB),j<=x.gs.length/\i=.int .i64 j/\fw f x j=some C/\(C.ds=ds/\C.cp<18446744073709551616)/\wr.heap[J]?=some (.cells #[.int .u64 C.cp,b] 87 (0,0))/\aJ wr b db A pc C.ds C.us/\Apart (kL b J) W3 wr) (λi _=>x.gs.length - (intOf i).toNat)
    case atStart=>exact ⟨0,f,by omega,rfl,rfl,Z.o,hp.o,H8.o,Apart.refl _ _⟩
    case round=>
     obtain ⟨j,C,F,rfl,HG,HV,Hj,Hk,He⟩:=hrel;have hW:=qI HG;have HO:=qI Hj;have HW:=qI Hk;have hi:=qI He;have R:=qI HV;have Jx:=He.size;have Ht:=qI (H9.o.trans He);have Hs:Hu (Below w w wr):=by
      unfold Hu;rw [hB];exact Ht.o.below H6.o (by omega) (λj F=>by rcases F with h|h <;> omega)
     have HQ:=qI ((He.block d (by omega) (by rintro (h|h) <;> omega)).trans hO.o);clear HG Hj Hk He HV
     by_cases O:j<x.gs.length
     ·have hv:j<x.pod.cs.length:=by rw [<- hw.o];exact O
      obtain ⟨gb,go,aC,rfl,HY⟩:=Je.o (by omega);obtain ⟨cb,r,Zc,rfl,Hw⟩:=Jl.o (by omega);have hle:=aM.of_below Hs.o;obtain ⟨⟨g0,g1,g2⟩,Hn⟩:=HY.2 j O;have g0:=hle.cell _ _ _ g0;have g1:=hle.cell _ _ _ g1;obtain ⟨k0,k1,k2,k3,k4,k5⟩:=Hw.at hv;have k0:=hle.cell _ _ _ k0;have k1:=hle.cell _ _ _ k1;have k2:=hle.cell _ _ _ k2;have k3:=hle.cell _ _ _ k3;have k4:=hle.cell _ _ _ k4;have k5:=hle.cell _ _ _ k5;have Hh:=(Hw.2 j hv).2;obtain ⟨s,t,h4,Jb,Js⟩:=id Hn;obtain ⟨u,nc,h3,Jd,h8⟩:=id Hh;rw [h4] at g1 Hn;rw [h3] at k5 Hh;have hD:=qI Hn;have HM:=qI Hh;have hZ:Hu (fw f x (j+1)=ev C (aq x.gs j) (bL x.pod.cs (ae x.pod.cs j).am) (ae x.pod.cs j).ds):=by unfold Hu;rw [fw,hW.o];rfl
      have Y:=qI (HH.o.2.2.2 (ae x.pod.cs j) (fF _ _ _ hv));have Ja:=qI (wA (eR h5.o j O));have Jf:HQ.o=HQ.o:=rfl;have j1:(j:Int)<(x.gs.length:Int):=by omega
      have j2:(j:Int)<(x.pod.cs.length:Int):=by omega
      clear HY Hw Hn Hh h4 h3 hle Jb Js Jd h8 Jf;generalize aq x.gs j=y at *;generalize ae x.pod.cs j=z at *;have b2:wr.cell? ⟨d,2,none⟩=some (.slice (some ⟨cb,r,none⟩) x.pod.cs.length cc):=aa HQ.o 2;have hm:=qI (((Q0 wr wr).alloc (lR) (kN y s t)).alloc (by simp) (mP z u nc));have P:=qI (b6 (aU wr (kN y s t) rfl) (mP z u nc));have Hc:=qI (aU (wr.alloc (kN y s t)) (mP z u nc) (n:=wr.heap.size+1) (by simp));have Jv:((wr.alloc (kN y s t)).alloc (mP z u nc)).heap.size=wr.heap.size+2:=by simp
      have b3:(wr.alloc (kN y s t)).cell? ⟨d,2,none⟩=some (.slice (some ⟨cb,r,none⟩) x.pod.cs.length cc):=aa (b6 HQ.o _) 2;have Hg:=(Q0 wr wr).alloc (lR) (kN y s t);have T:cb<wr.heap.size:=Q3 _ ⟨cb,r+j*6,none⟩ k0;have In:=(Hg.cell (p:=⟨cb,r+j*6,none⟩) T).trans k0;have j6:=(Hg.cell (p:=⟨cb,r+j*6+1,none⟩) T).trans k1;have j3:=(Hg.cell (p:=⟨cb,r+j*6+2,none⟩) T).trans k2;have j5:=(Hg.cell (p:=⟨cb,r+j*6+3,none⟩) T).trans k3;have Za:=(Hg.cell (p:=⟨cb,r+j*6+4,none⟩) T).trans k4;have Ix:=(Hg.cell (p:=⟨cb,r+j*6+5,none⟩) T).trans k5;clear Hg
      go_wp2_with fail
      generalize hBq:wr.heap.size=a at *;have h9:Hu (aJ ((wr.alloc (kN y s t)).alloc (mP z u nc)) b db A pc C.ds C.us):=(HW.o.alloc _).alloc _;have hz:=qI (b6 (b6 HO.o (kN y s t)) (mP z u nc));have Hf:=qI (b6 (b6 HQ.o (kN y s t)) (mP z u nc));have HN:=qI (Hs.o.trans (hm.o.mono (by have:=Hs.o.size;omega)));generalize ((wr.alloc (kN y s t)).alloc (mP z u nc))=X at *;clear g0 g1 k0 k1 k2 k3 k4 k5 b2 b3 In j6 j3 j5 Za Ix;have H2:Hu (∀ W,Below X X W->(rh a y s t d x cb r cc z u nc) W):=λW l=>⟨aa ((l.block (a) (by omega)).trans P.o) 0,aa ((l.block (a) (by omega)).trans P.o) 1,aa ((l.block (d) (by omega)).trans Hf.o) 0,aa ((l.block (d) (by omega)).trans Hf.o) 1,aa ((l.block (d) (by omega)).trans Hf.o) 2,aa ((l.block (a+1) (by omega)).trans Hc.o) 0,aa ((l.block (a+1) (by omega)).trans Hc.o) 1,aa ((l.block (a+1) (by omega)).trans Hc.o) 2,aa ((l.block (a+1) (by omega)).trans Hc.o) 3,aa ((l.block (a+1) (by omega)).trans Hc.o) 4,aa ((l.block (a+1) (by omega)).trans Hc.o) 5⟩
      have Ho:Hu (Below X X X.drew):=bF (Q0 _ _);have H4:Hu (∀ W,Below X X W->Below w w W):=λW l=>HN.o.trans (l.mono (by have:=HN.o.size;omega))
      have Hy:=qI (λ(W:World) (l:Below X X W)=>Tk J b db A pc C y (bL x.pod.cs z.am) (.slice s y.dv.length t) (.slice u z.ds.length nc) z.ds W ((l.block J (by omega)).trans hz.o) (h9.o.below l) (by rw [R.o.1];exact HK.o) R.o.2 g2 (hD.o.le (qw (H4.o W l) rfl (λj F=>by rcases F with h|h <;> omega))) (HM.o.le (qw (H4.o W l) rfl (λj F=>by rcases F with h|h <;> omega))) (by have:=Ja.o;omega) (by have:=Y.o.2.2.2.2.2.1;omega) (λq hq=>by
       have hn:=Y.o.2.2.2.2.2.2 (ak z.ds q) (fF _ _ _ hq)
       have:=(lj hn.1).2
       have e:(ak z.ds q).kind.data.toList.length=(ak z.ds q).kind.size:=by simp
       have:=hn.2
       omega) (λI=>by have:=Jo.o (by rw [<- R.o.1];exact I);omega))
      obtain ⟨oc,hA⟩:∃ oc,oc=ev C y (bL x.pod.cs z.am) z.ds:=⟨_,rfl⟩;rw [<- hA] at Hy;have ht:=qI hA;clear hA;cases oc with
      | none=>
       refine wp_region_held_drew (S:=rh a y s t d x cb r cc z u nc) (by kernel_rfl) (H2.o _ Ho.o) λN=>?_;generalize X.drew=V at *;refine tk 0 ?_;refine tk 1 ?_;refine tk 2 ?_;refine tk 3 ?_;refine tk 5 ?_;refine tk 6 ?_;refine rd 4 λK D=>?_;go_simp
       go_wp2_with fail
       refine (qk x.pod (.slice (some ⟨cb,r,none⟩) x.pod.cs.length cc) z u z.ds.length nc V (HU.o.le (aM.of_below (H4.o _ Ho.o))) Y.o.2.1.1 Y.o.2.1.2).mono ?_;rintro e W5 ⟨rfl,HL⟩;have Hb:=qI (Ho.o.trans (HL.mono Ho.o.size));clear HL
       go_wp2_with fail
       refine D.o _ _ (H2.o _ Hb.o) λN=>?_;clear D K;refine rd 7 λK D=>?_;go_simp
       go_wp2_with fail
       refine (Hy.o W5 Hb.o).mono ?_;rintro e M ⟨H1,Ha⟩;have Hq:=qI Ha;have H1:e=.returned false:=H1;subst H1;have hC:Hu ((rh a y s t d x cb r cc z u nc) M):=⟨aa ((Ha.block (a) (by have:=Hb.o.size;omega) (by rintro (h|h) <;> omega)).trans ((Hb.o.block (a) (by omega)).trans P.o)) 0,aa ((Ha.block (a) (by have:=Hb.o.size;omega) (by rintro (h|h) <;> omega)).trans ((Hb.o.block (a) (by omega)).trans P.o)) 1,aa ((Ha.block (d) (by have:=Hb.o.size;omega) (by rintro (h|h) <;> omega)).trans ((Hb.o.block (d) (by omega)).trans Hf.o)) 0,aa ((Ha.block (d) (by have:=Hb.o.size;omega) (by rintro (h|h) <;> omega)).trans ((Hb.o.block (d) (by omega)).trans Hf.o)) 1,aa ((Ha.block (d) (by have:=Hb.o.size;omega) (by rintro (h|h) <;> omega)).trans ((Hb.o.block (d) (by omega)).trans Hf.o)) 2,aa ((Ha.block (a+1) (by have:=Hb.o.size;omega) (by rintro (h|h) <;> omega)).trans ((Hb.o.block (a+1) (by omega)).trans Hc.o)) 0,aa ((Ha.block (a+1) (by have:=Hb.o.size;omega) (by rintro (h|h) <;> omega)).trans ((Hb.o.block (a+1) (by omega)).trans Hc.o)) 1,aa ((Ha.block (a+1) (by have:=Hb.o.size;omega) (by rintro (h|h) <;> omega)).trans ((Hb.o.block (a+1) (by omega)).trans Hc.o)) 2,aa ((Ha.block (a+1) (by have:=Hb.o.size;omega) (by rintro (h|h) <;> omega)).trans ((Hb.o.block (a+1) (by omega)).trans Hc.o)) 3,aa ((Ha.block (a+1) (by have:=Hb.o.size;omega) (by rintro (h|h) <;> omega)).trans ((Hb.o.block (a+1) (by omega)).trans Hc.o)) 4,aa ((Ha.block (a+1) (by have:=Hb.o.size;omega) (by rintro (h|h) <;> omega)).trans ((Hb.o.block (a+1) (by omega)).trans Hc.o)) 5⟩;clear Ha
       go_wp2_with fail
       refine D.o _ _ hC.o λN=>?_;clear D K;refine tk 8 ?_;refine Qn (by kernel_rfl) ?_ _;clear N;have H3:=qI ((Ht.o.trans (Apart.of_below (show Below wr wr X by rw [hBq];exact hm.o))).trans ((Apart.of_below Hb.o).trans Hq.o));have Hl:=qI ((H3.o.block (B+1) (by omega) (by rintro (h|h) <;> omega)).trans hI.o);have Jm:Hu (Below w w M):=by
        unfold Hu;rw [hB];exact H3.o.below H6.o (by omega) (λj F=>by rcases F with h|h <;> omega)
       have H7:Hu (aW m ds hs=none):=by
        unfold Hu;rw [hM.o];refine Tm (k:=k+1) ?_ _ (by omega);rw [hV.o];exact Tl (j:=j+1) (by rw [hZ.o,ht.o]) _ (by omega)
       have z0:M.cell? (B+1:Nat)=some (.int .u64 0):=aa Hl.o 0;have z1:M.cell? ⟨B+1,1,none⟩=some (.pointer none):=aa Hl.o 1;have f0:=bw Hl.o 0;have f1:=bw Hl.o 1;have Hp:=qI (aO (aO Hl.o 0 (.int .u64 0)) 1 (.pointer none));have HZ:=qI ((Jm.o.setCell (p:=⟨B+1,0,none⟩) (by rw [hB];exact Nat.le_succ _) (.int .u64 0)).setCell (p:=⟨B+1,1,none⟩) (by rw [hB];exact Nat.le_succ _) (.pointer none))
       go_wp2_with fail
       generalize ((M.setCell (B+1:Nat) (.int .u64 0)).setCell ⟨B+1,1,none⟩ (.pointer none))=H at *;(try simp only [Exit.inBlock,Exit.then]);refine bodyPost_ret (v:=.tuple #[.agg #[.int .u64 0,.pointer none],false]) ?_ rfl ⟨by rw [H7.o];exact ⟨0,none,rfl⟩,hB ▸ HZ.o⟩;have r0:H.cell? (B+1:Nat)=some (.int .u64 0):=aa Hp.o 0;have r1:H.cell? ⟨B+1,1,none⟩=some (.pointer none):=aa Hp.o 1;rw [kK rfl];clear z0 z1 f0 f1;go_simp
      | some sq2=>
       refine wp_region_held_drew (S:=rh a y s t d x cb r cc z u nc) (by kernel_rfl) (H2.o _ Ho.o) λN=>?_;generalize X.drew=V at *;refine tk 0 ?_;refine tk 1 ?_;refine tk 2 ?_;refine tk 3 ?_;refine tk 5 ?_;refine tk 6 ?_;refine rd 4 λK D=>?_;go_simp
       go_wp2_with fail
       refine (qk x.pod (.slice (some ⟨cb,r,none⟩) x.pod.cs.length cc) z u z.ds.length nc V (HU.o.le (aM.of_below (H4.o _ Ho.o))) Y.o.2.1.1 Y.o.2.1.2).mono ?_;rintro e W5 ⟨rfl,HL⟩;have Hb:=qI (Ho.o.trans (HL.mono Ho.o.size));clear HL
       go_wp2_with fail
       refine D.o _ _ (H2.o _ Hb.o) λN=>?_;clear D K;refine rd 7 λK D=>?_;go_simp
       go_wp2_with fail
       refine (Hy.o W5 Hb.o).mono ?_;rintro e M ⟨H1,Ha⟩;have Hq:=qI Ha;obtain ⟨rfl,H0,HX⟩:=H1;have hy:=qI H0;have hh:=qI HX;clear H0 HX;have hC:Hu ((rh a y s t d x cb r cc z u nc) M):=⟨aa ((Ha.block (a) (by have:=Hb.o.size;omega) (by rintro (h|h) <;> omega)).trans ((Hb.o.block (a) (by omega)).trans P.o)) 0,aa ((Ha.block (a) (by have:=Hb.o.size;omega) (by rintro (h|h) <;> omega)).trans ((Hb.o.block (a) (by omega)).trans P.o)) 1,aa ((Ha.block (d) (by have:=Hb.o.size;omega) (by rintro (h|h) <;> omega)).trans ((Hb.o.block (d) (by omega)).trans Hf.o)) 0,aa ((Ha.block (d) (by have:=Hb.o.size;omega) (by rintro (h|h) <;> omega)).trans ((Hb.o.block (d) (by omega)).trans Hf.o)) 1,aa ((Ha.block (d) (by have:=Hb.o.size;omega) (by rintro (h|h) <;> omega)).trans ((Hb.o.block (d) (by omega)).trans Hf.o)) 2,aa ((Ha.block (a+1) (by have:=Hb.o.size;omega) (by rintro (h|h) <;> omega)).trans ((Hb.o.block (a+1) (by omega)).trans Hc.o)) 0,aa ((Ha.block (a+1) (by have:=Hb.o.size;omega) (by rintro (h|h) <;> omega)).trans ((Hb.o.block (a+1) (by omega)).trans Hc.o)) 1,aa ((Ha.block (a+1) (by have:=Hb.o.size;omega) (by rintro (h|h) <;> omega)).trans ((Hb.o.block (a+1) (by omega)).trans Hc.o)) 2,aa ((Ha.block (a+1) (by have:=Hb.o.size;omega) (by rintro (h|h) <;> omega)).trans ((Hb.o.block (a+1) (by omega)).trans Hc.o)) 3,aa ((Ha.block (a+1) (by have:=Hb.o.size;omega) (by rintro (h|h) <;> omega)).trans ((Hb.o.block (a+1) (by omega)).trans Hc.o)) 4,aa ((Ha.block (a+1) (by have:=Hb.o.size;omega) (by rintro (h|h) <;> omega)).trans ((Hb.o.block (a+1) (by omega)).trans Hc.o)) 5⟩;clear Ha
       go_wp2_with fail
       refine D.o _ _ hC.o λN=>?_;clear D K;refine tk 8 ?_;refine Qn (by kernel_rfl) ?_ _;clear N;have hU:=qI (Tn ht.o.symm);have H3:=qI ((hi.o.trans (Apart.of_below (show Below wr wr X by rw [hBq];exact hm.o))).trans ((Apart.of_below Hb.o).trans Hq.o))
       go_wp2
       go_roundw
       case rel=>exact ⟨j+1,sq2,by omega,by go_num,by rw [hZ.o,ht.o],⟨hU.o.1.trans R.o.1,hU.o.2 R.o.2⟩,hy.o,hh.o,H3.o⟩
       case measure=>simp [intOf];omega
     ·have h7:j=x.gs.length:=by omega
      subst h7
      go_wp2
      go_roundw
      case rel=>exact ⟨k+1,C,by omega,by go_num,by rw [hV.o,hW.o],R.o,HO.o,HW.o,Ht.o⟩
      case measure=>simp [intOf];omega
   ·have Jr:k=hs.length:=by omega
    subst Jr;have hu:Hu (aW m ds hs=some f):=by unfold Hu;rw [hM.o,hS.o]
    have Hl:=qI ((h2.o.block (B+1) (by omega) (by rintro (h|h) <;> omega)).trans hI.o);have z0:wr.cell? (B+1:Nat)=some (.int .u64 0):=aa Hl.o 0;have z1:wr.cell? ⟨B+1,1,none⟩=some (.pointer none):=aa Hl.o 1;have f0:=bw Hl.o 0;have f1:=bw Hl.o 1;have q0:wr.cell? J=some (.int .u64 f.cp):=aa ha.o 0;have q1:wr.cell? ⟨J,1,none⟩=some (.pointer (some ⟨b,0,none⟩)):=aa ha.o 1;have Hp:=qI (aO (aO Hl.o 0 (.int .u64 f.cp)) 1 b);have HZ:=qI ((hx.o.setCell (p:=⟨B+1,0,none⟩) (by rw [hB];exact Nat.le_succ _) (.int .u64 f.cp)).setCell (p:=⟨B+1,1,none⟩) (by rw [hB];exact Nat.le_succ _) b);have Jg:Hu (aJ ((wr.setCell (B+1:Nat) (.int .u64 f.cp)).setCell ⟨B+1,1,none⟩ b) b db A pc f.ds f.us):=(hL.o.kept (cK _ (B+1:Nat) _) (λe=>by injection e with e;have e:b=B+1:=e;omega) (λh1 e=>by injection e with e;have e:db=B+1:=e;have:=Hx.o (by rw [<- Z.o.1];exact h1);omega)).kept (cK _ ⟨B+1,1,none⟩ _) (λe=>by injection e with e;have e:b=B+1:=e;omega) (λh1 e=>by injection e with e;have e:db=B+1:=e;have:=Hx.o (by rw [<- Z.o.1];exact h1);omega)
    go_wp2_with fail
    generalize ((wr.setCell (B+1:Nat) (.int .u64 f.cp)).setCell ⟨B+1,1,none⟩ b)=H at *;(try simp only [Exit.inBlock,Exit.then]);refine bodyPost_ret (v:=.tuple #[.agg #[.int .u64 f.cp,b],true]) ?_ rfl ⟨by rw [hu.o];exact ⟨b,db,A,pc,rfl,⟨Jg.o,by rw [Z.o.1];exact HK.o.1,Z.o.2⟩,by omega,λI=>by have:=Hx.o (by rw [<- Z.o.1];exact I);omega⟩,hB ▸ HZ.o⟩;have r0:H.cell? (B+1:Nat)=some (.int .u64 f.cp):=aa Hp.o 0;have r1:H.cell? ⟨B+1,1,none⟩=some (.pointer (some ⟨b,0,none⟩)):=aa Hp.o 1;rw [kK rfl];clear z0 z1 f0 f1 q0 q1;go_simp
 ·have he:=hc hf;subst he;have H7:Hu (aW m ds hs=none):=by unfold Hu aW;rw [if_neg hf]
  dsimp only;rw [eV hf];have z0:E.cell? (B+1:Nat)=some (.int .u64 0):=aa Hz.o 0;have z1:E.cell? ⟨B+1,1,none⟩=some (.pointer none):=aa Hz.o 1;have f0:=bw Hz.o 0;have f1:=bw Hz.o 1;have Hp:=qI (aO (aO Hz.o 0 (.int .u64 0)) 1 (.pointer none));have HZ:=qI ((hT.o.setCell (p:=⟨B+1,0,none⟩) (Nat.le_succ _) (.int .u64 0)).setCell (p:=⟨B+1,1,none⟩) (Nat.le_succ _) (.pointer none));clear Hv hc hf Q;generalize dQ ds=ff at *
  go_wp2_with fail
  generalize ((E.setCell (B+1:Nat) (.int .u64 0)).setCell ⟨B+1,1,none⟩ (.pointer none))=H at *;(try simp only [Exit.inBlock,Exit.then]);refine bodyPost_ret (v:=.tuple #[.agg #[.int .u64 0,.pointer none],false]) ?_ rfl ⟨by rw [H7.o];exact ⟨0,none,rfl⟩,by rw [hB];exact HZ.o⟩;have r0:H.cell? (B+1:Nat)=some (.int .u64 0):=aa Hp.o 0;have r1:H.cell? ⟨B+1,1,none⟩=some (.pointer none):=aa Hp.o 1;rw [kK rfl];clear z0 z1 f0 f1;go_simp
