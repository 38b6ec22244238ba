import Derived.Test.YtjlblidnfebmiaaGreatDoorF35
set_option maxRecDepth 100000
set_option maxHeartbeats 16000000
open Go Go.RowKit Go.Shelf
attribute [local go_sem] Oper.semAt_some
namespace Go.Proofs.YtjlblidnfebmiaaGreatDoor
theorem UW{s:aE}{h:af}{j:Nat}(a:ka s h j=none):∀i,j<=i->ka s h i=none:=by
 intro i hi
 induction i with
 | zero=>rw[show j=0 by omega] at a;exact a
 | succ i ih=>
  by_cases e:j=i+1
  ·rw[<- e];exact a
  ·rw[ka,ih (by omega)];rfl
theorem UX{s:aE}{hs:List af}{k:Nat}(a:kb s hs k=none):∀i,k<=i->kb s hs i=none:=by
 intro i hi
 induction i with
 | zero=>rw[show k=0 by omega] at a;exact a
 | succ i ih=>
  by_cases e:k=i+1
  ·rw[<- e];exact a
  ·rw[kb,ih (by omega)];rfl
theorem UY{s a:aE}{g:aR}{own:Int}{ns:List ap}(h:ex s g own ns=some a):a.ds=s.ds/\(s.cp<18446744073709551616->a.cp<18446744073709551616):=by grind[ex,mw]
theorem et.le{W W':World}{v:Value}{g o:Nat}{ds:List ak}(h:et W v g o ds)(l:aZ W W'):et W' v g o ds:=by
 obtain⟨i,c,f,m⟩:=h;refine⟨i,c,f,λe=>?_⟩;obtain⟨j,a,b⟩:=m e;exact⟨j,Q1 a l.size,λk d=>⟨l.cell _ _ _ (b k d).1,l.cell _ _ _ (b k d).2.1,l.cell _ _ _ (b k d).2.2⟩⟩
def lf (hs:List af):Prop:=∀x∈hs,bu x.pod=0/\x.gs.length=x.pod.cs.length/\qH x.gs=0
def rO (w w':World) (e:Ending):Option aE->Prop
 | some s'=>∃pb db ao c,e=.returned (.tuple #[sV s' pb,.bool true])/\ek w' pb db ao c s'/\w.heap.size<=pb/\(0<s'.ds.length->w.heap.size<=db)
 | none=>∃cp p,e=.returned (.tuple #[.agg #[.int .u64 cp,.pointer p],.bool false])
abbrev m8:=λ(x0:aB) (x1:Option Addr) (x2:Nat)=>(.cells #[x0.nm,(x0.am:Int),(x0.ab:Int),(x0.cm:Int),(x0.cb:Int),.slice x1 x0.ds.length x2] 65:Obj)
abbrev m9:=λ(x0:af) (x1:Option Addr) (x2:Nat) (x3:Option Addr) (x4:Nat)=>(.cells #[x0.pod.nm,(x0.pod.pr:Int),.slice x1 x0.pod.cs.length x2,.slice x3 x0.gs.length x4] 101:Obj)
abbrev oI:=λ(x0:Nat) (x1:aL)=>(.cells #[x0,.int .u64 x1.op,.int .u8 x1.nd,(x1.nb:Int),(x1.pol:Int)] 84:Obj)
abbrev lg:=λ(x0:aR) (x1:Option Addr) (x2:Nat)=>(.cells #[.int .u64 (x0.cp:Nat),.slice x1 x0.dv.length x2] 123:Obj)
abbrev pV:=λ(x0:aL) (x1:Nat)=>(.cells #[.int .u64 x0.op,x1] 87:Obj)
abbrev rP:=λ(Bq:Nat) (y:aR) (ia:Option Addr) (ic Bh:Nat) (x:af) (cb co cc:Nat) (z:aB) (na:Option Addr) (nc:Nat) (w':World)=>cl w' Bq (0) (.int .u64 (y.cp:Nat))/\cl w' Bq (1) (.slice ia y.dv.length ic)/\cl w' Bh (0) x.pod.nm/\cl w' Bh (1) (x.pod.pr:Int)/\cl w' Bh (2) (.slice (some ⟨cb,co,none⟩) x.pod.cs.length cc)/\cl w' (Bq+1) (0) z.nm/\cl w' (Bq+1) (1) (z.am:Int)/\cl w' (Bq+1) (2) (z.ab:Int)/\cl w' (Bq+1) (3) (z.cm:Int)/\cl w' (Bq+1) (4) (z.cb:Int)/\cl w' (Bq+1) (5) (.slice na z.ds.length nc)
theorem UZ(m:aL)(J g o:Nat)(v vh:Value)(ds:List ak)(hs:List af)(w:World)(ag:et w v g o ds)(hH:aY w vh hs)(j4:m.op<18446744073709551616)(j0:lf hs)(hl:hs.length<=100) :
  Calls Tryz.prog 91 #[mV m J,v,vh] w λe w'=>rO w w' e (be m ds hs)/\Below w w w':=by
 unfold mV;have Jf:=qI j0;have hG:=qI (((Q0 w w).alloc (lR) (oI J m)).alloc (by simp) (.cells #[.int .u64 0,.pointer none] 87));have sz:((w.alloc (oI J m)).alloc (.cells #[.int .u64 0,.pointer none] 87)).heap.size=w.heap.size+2:=by simp
 have Jh:=qI (cC (bd w (oI J m) rfl) (.cells #[.int .u64 0,.pointer none] 87));have h9:=qI (bd (w.alloc (oI J m)) (.cells #[.int .u64 0,.pointer none] 87) (n:=w.heap.size+1) (by simp));have hZ:et ((w.alloc (oI J m)).alloc (.cells #[.int .u64 0,.pointer none] 87)) v g o ds:=ag.le (aZ.of_below hG.o);have HY:=qI (Ao v g o ds ((w.alloc (oI J m)).alloc (.cells #[.int .u64 0,.pointer none] 87)) hZ);obtain⟨da,dc,rfl,_⟩:=ag;obtain⟨ao,c,rfl,hp,hr⟩:=hH;have HR:=qI hr;clear j0 hZ hr hp
 go_enter Tryz.func91,Tryz.ntmps91
 go_wp2_with fail
 generalize ((w.alloc (oI J m)).alloc (.cells #[.int .u64 0,.pointer none] 87))=U at *;generalize hB:w.heap.size=B at *;refine HY.o.mono ?_;rintro e F ⟨Hy,hx,Q⟩;have hO:=qI (hG.o.trans (Q.mono (by omega)));have JB:=Q.size;have Y:=qI ((Q.block (B+1) (by omega)).trans h9.o);have Ja:=qI ((Q.block B (by omega)).trans Jh.o)
 by_cases hf:dI ds=0
 ·obtain⟨p,rfl,b,db,C,T,rfl,Hh,Jm,Ht⟩:=Hy hf;have HK:=qI (UR hf);have h2:Hu (be m ds hs=kb ⟨m.op,ds,λ_=>false⟩ hs hs.length):=by unfold Hu be;rw[if_pos hf]
  have HU:=qI Hh;have Jv:=Hh.lt;have h8:Hu (0<ds.length->B<=db/\db<F.heap.size):=λL=>⟨by have:=Ht L;omega,(Hh.at0 L).2.2⟩
  have Hv:Hu (0<ds.length->U.heap.size<=db):=λL=>Ht L
  clear Hy hx Hh Q Ht hf HY;dsimp only;rw[show aJ (((0:Nat)):Int)=.nilIface from rfl];have m1:F.cell? ⟨B,1,none⟩=some (.int .u64 m.op):=ad Ja.o 1;have Jr:=qI (HU.o.alloc (pV m b));have Jg:=qI (bd F (pV m b) rfl);have hP:=qI (cC Y.o (pV m b));have Jt:(F.alloc (pV m b)).heap.size=F.heap.size+1:=by simp
  have H6:=qI (hO.o.alloc (by omega) (pV m b))
  go_wp2_with fail
  generalize F.alloc (pV m b)=W2 at *;generalize hsb:F.heap.size=I at *;clear m1
  go_loopw [30] (λi wr=>∃(k:Nat) (f:aE),k<=hs.length/\i=.int .i64 k/\kb ⟨m.op,ds,λ_=>false⟩ hs k=some f/\(f.ds=ds/\f.cp<18446744073709551616)/\wr.heap[I]?=some (.cells #[.int .u64 f.cp,b] 87 (0,0))/\aF wr b db C T f.ds f.us/\Apart (ld b I) W2 wr) (λi _=>hs.length - (intOf i).toNat)
  case atStart=>exact⟨0,⟨m.op,ds,λ_=>false⟩,by omega,rfl,rfl,⟨rfl,j4⟩,Jg.o,Jr.o,Apart.refl _ _⟩
  case round=>
   obtain⟨k,f,hk,rfl,HJ,HX,Hj,Hl,He⟩:=hrel;have h3:=qI HJ;have hD:=qI Hj;have hW:=qI Hl;have hN:=qI He;have Z:=qI HX;have Jx:=He.size;have hv:Hu (Below w w wr):=by
    unfold Hu;rw[hB];exact He.below H6.o (by omega) (λj E=>by rcases E with h|h <;> omega)
   clear HJ Hj Hl He HX
   by_cases G:k<hs.length
   ·obtain⟨l,ho,cv,Zc,rfl,H3⟩:=HR.o (by omega);have hle:=aZ.of_below hv.o;obtain⟨x0,x1,x2,x3⟩:=(H3.2 k G).1;have x0:=hle.cell _ _ _ x0;have x1:=hle.cell _ _ _ x1;have x2:=hle.cell _ _ _ x2;have x3:=hle.cell _ _ _ x3;have Hn:=(H3.2 k G).2.1;have HW:=(H3.2 k G).2.2;obtain⟨hL,hV,hY⟩:=Jf.o (ag hs k) (by simp[ag,G]);have hJ:Hu (kb ⟨m.op,ds,λ_=>false⟩ hs (k+1)=ka f (ag hs k) (ag hs k).gs.length):=by unfold Hu;rw[kb,h3.o];rfl
    obtain⟨ca,cc,hE,hp,hT⟩:=id Hn;obtain⟨ga,gc,hR,h5,hS⟩:=id HW;rw[hE] at x2 Hn;rw[hR] at x3;have H1:=qI Hn;have Jn:=qI hT;have Jk:=qI hS;have HL:=qI (jv hL);have Jy:=HL.o.2.2.1;have Jp:=qI hY;have hg:=qI hV;have Jj:(ag hs k).gs.length<=3:=by omega
    clear H3 Hn HW hE hR hT hS hle hp h5 hL hY hV;generalize ag hs k=x at *;have Jw:=qI ((Q0 wr wr).alloc (lR) (m9 x ca cc ga gc));have h4:=qI (bd wr (m9 x ca cc ga gc) rfl);have JA:(wr.alloc (m9 x ca cc ga gc)).heap.size=wr.heap.size+1:=by simp
    have hy:=qI (cC hD.o (m9 x ca cc ga gc));have hi:=qI (hW.o.alloc (m9 x ca cc ga gc));have y3:(wr.alloc (m9 x ca cc ga gc)).cell? ⟨wr,3,none⟩=some (.slice ga x.gs.length gc):=ad h4.o 3;have hA:=qI (hN.o.trans (Apart.alloc _ wr (m9 x ca cc ga gc)))
    go_wp2_with fail
    generalize wr.alloc (m9 x ca cc ga gc)=W3 at *;generalize hBh:wr.heap.size=d at *;clear x0 x1 x2 x3 y3 hv
    go_loopw [37] (λi wr=>∃(j:Nat) (A:aE),j<=x.gs.length/\i=.int .i64 j/\ka f x j=some A/\(A.ds=ds/\A.cp<18446744073709551616)/\wr.heap[I]?=some (.cells #[.int .u64 A.cp,b] 87 (0,0))/\aF wr b db C T A.ds A.us/\Apart (ld b I) W3 wr) (λi _=>x.gs.length - (intOf i).toNat)
    case atStart=>exact⟨0,f,by omega,rfl,rfl,Z.o,hy.o,hi.o,Apart.refl _ _⟩
    case round=>
     obtain⟨j,A,E,rfl,HQ,HO,Hj,Hl,He⟩:=hrel;have hX:=qI HQ;have HV:=qI Hj;have HN:=qI Hl;have hh:=qI He;have P:=qI HO;have Ju:=He.size;have Hw:=qI (hA.o.trans He);have Hx:Hu (Below w w wr):=by
      unfold Hu;rw[hB];exact Hw.o.below H6.o (by omega) (λj E=>by rcases E with h|h <;> omega)
     have HH:=qI ((He.block d (by omega) (by rintro (h|h) <;> omega)).trans h4.o);clear HQ Hj Hl He HO
     by_cases M:j<x.gs.length
     ·have hm:j<x.pod.cs.length:=by rw[<- hg.o];exact M
      obtain⟨gb,go,aC,rfl,HM⟩:=Jk.o (by omega);obtain⟨cb,r,Zb,rfl,Hs⟩:=Jn.o (by omega);have hle:=aZ.of_below Hx.o;obtain⟨⟨g0,g1,g2⟩,Hm⟩:=HM.2 j M;have g0:=hle.cell _ _ _ g0;have g1:=hle.cell _ _ _ g1;obtain⟨k0,k1,k2,k3,k4,k5⟩:=Hs.at hm;have k0:=hle.cell _ _ _ k0;have k1:=hle.cell _ _ _ k1;have k2:=hle.cell _ _ _ k2;have k3:=hle.cell _ _ _ k3;have k4:=hle.cell _ _ _ k4;have k5:=hle.cell _ _ _ k5;have Hi:=(Hs.2 j hm).2;obtain⟨u,s,hI,h7,Jl⟩:=id Hm;obtain⟨t,nc,hU,Je,Jo⟩:=id Hi;rw[hI] at g1 Hm;rw[hU] at k5 Hi;have hu:=qI Hm;have HT:=qI Hi;have hM:Hu (ka f x (j+1)=ex A (aD x.gs j) (cI x.pod.cs (ae x.pod.cs j).am) (ae x.pod.cs j).ds):=by unfold Hu;rw[ka,hX.o];rfl
      have Hz:=qI (HL.o.2.2.2 (ae x.pod.cs j) (fP _ _ _ hm));have h6:=qI (wV (fA Jp.o j M));have Ji:HH.o=HH.o:=rfl;have j1:(j:Int)<(x.gs.length:Int):=by omega
      have j2:(j:Int)<(x.pod.cs.length:Int):=by omega
      clear HM Hs Hm Hi hI hU hle h7 Jl Je Jo Ji;generalize aD x.gs j=y at *;generalize ae x.pod.cs j=z at *;have b2:wr.cell? ⟨d,2,none⟩=some (.slice (some ⟨cb,r,none⟩) x.pod.cs.length cc):=ad HH.o 2;have hw:=qI (((Q0 wr wr).alloc (lR) (lg y u s)).alloc (by simp) (m8 z t nc));have HB:=qI (cC (bd wr (lg y u s) rfl) (m8 z t nc));have Hc:=qI (bd (wr.alloc (lg y u s)) (m8 z t nc) (n:=wr.heap.size+1) (by simp));have Jz:((wr.alloc (lg y u s)).alloc (m8 z t nc)).heap.size=wr.heap.size+2:=by simp
      have b3:(wr.alloc (lg y u s)).cell? ⟨d,2,none⟩=some (.slice (some ⟨cb,r,none⟩) x.pod.cs.length cc):=ad (cC HH.o _) 2;have Hg:=(Q0 wr wr).alloc (lR) (lg y u s);have R:cb<wr.heap.size:=Q3 _ ⟨cb,r+j*6,none⟩ k0;have Ix:=(Hg.cell (p:=⟨cb,r+j*6,none⟩) R).trans k0;have In:=(Hg.cell (p:=⟨cb,r+j*6+1,none⟩) R).trans k1;have Za:=(Hg.cell (p:=⟨cb,r+j*6+2,none⟩) R).trans k2;have j3:=(Hg.cell (p:=⟨cb,r+j*6+3,none⟩) R).trans k3;have j6:=(Hg.cell (p:=⟨cb,r+j*6+4,none⟩) R).trans k4;have j5:=(Hg.cell (p:=⟨cb,r+j*6+5,none⟩) R).trans k5;clear Hg
      go_wp2_with fail
      generalize hBq:wr.heap.size=a at *;have Jb:Hu (aF ((wr.alloc (lg y u s)).alloc (m8 z t nc)) b db C T A.ds A.us):=(HN.o.alloc _).alloc _;have ha:=qI (cC (cC HV.o (lg y u s)) (m8 z t nc));have Hf:=qI (cC (cC HH.o (lg y u s)) (m8 z t nc));have HI:=qI (Hx.o.trans (hw.o.mono (by have:=Hx.o.size;omega)));generalize ((wr.alloc (lg y u s)).alloc (m8 z t nc))=X at *;clear g0 g1 k0 k1 k2 k3 k4 k5 b2 b3 Ix In Za j3 j6 j5;have H5:Hu (∀W,Below X X W->(rP a y u s d x cb r cc z t nc) W):=λW l=>⟨ad ((l.block (a) (by omega)).trans HB.o) 0,ad ((l.block (a) (by omega)).trans HB.o) 1,ad ((l.block (d) (by omega)).trans Hf.o) 0,ad ((l.block (d) (by omega)).trans Hf.o) 1,ad ((l.block (d) (by omega)).trans Hf.o) 2,ad ((l.block (a+1) (by omega)).trans Hc.o) 0,ad ((l.block (a+1) (by omega)).trans Hc.o) 1,ad ((l.block (a+1) (by omega)).trans Hc.o) 2,ad ((l.block (a+1) (by omega)).trans Hc.o) 3,ad ((l.block (a+1) (by omega)).trans Hc.o) 4,ad ((l.block (a+1) (by omega)).trans Hc.o) 5⟩
      have Hp:Hu (Below X X X.drew):=bB (Q0 _ _);have H2:Hu (∀W,Below X X W->Below w w W):=λW l=>HI.o.trans (l.mono (by have:=HI.o.size;omega))
      have Hq:=qI (λ(W:World) (l:Below X X W)=>UV I b db C T A y (cI x.pod.cs z.am) (.slice u y.dv.length s) (.slice t z.ds.length nc) z.ds W ((l.block I (by omega)).trans ha.o) (Jb.o.below l) (by rw[P.o.1];exact HK.o) P.o.2 g2 (hu.o.le (mK (H2.o W l) rfl (λj E=>by rcases E with h|h <;> omega))) (HT.o.le (mK (H2.o W l) rfl (λj E=>by rcases E with h|h <;> omega))) (by have:=h6.o;omega) (by have:=Hz.o.2.2.2.2.2.1;omega) (λq hq=>by
       have hn:=Hz.o.2.2.2.2.2.2 (aq z.ds q) (fP _ _ _ hq)
       have:=(kG hn.1).2
       have e:(aq z.ds q).kind.data.toList.length=(aq z.ds q).kind.size:=by simp
       have:=hn.2
       omega) (λL=>by have:=h8.o (by rw[<- P.o.1];exact L);omega))
      obtain⟨oc,H8⟩:∃oc,oc=ex A y (cI x.pod.cs z.am) z.ds:=⟨_,rfl⟩;rw[<- H8] at Hq;have H9:=qI H8;clear H8;cases oc with
      | none=>
       refine wp_region_held_drew (S:=rP a y u s d x cb r cc z t nc) (by kernel_rfl) (H5.o _ Hp.o) λN=>?_;generalize X.drew=V at *;refine tk 0 ?_;refine tk 1 ?_;refine tk 2 ?_;refine tk 3 ?_;refine tk 5 ?_;refine tk 6 ?_;refine rd 4 λK D=>?_;go_simp
       go_wp2_with fail
       refine (tu x.pod (.slice (some ⟨cb,r,none⟩) x.pod.cs.length cc) z t z.ds.length nc V (H1.o.le (aZ.of_below (H2.o _ Hp.o))) Hz.o.2.1.1 Hz.o.2.1.2).mono ?_;rintro e W5 ⟨rfl,HG⟩;have Hb:=qI (Hp.o.trans (HG.mono Hp.o.size));clear HG
       go_wp2_with fail
       refine D.o _ _ (H5.o _ Hb.o) λN=>?_;clear D K;refine rd 7 λK D=>?_;go_simp
       go_wp2_with fail
       refine (Hq.o W5 Hb.o).mono ?_;rintro e O ⟨H0,Ha⟩;have Hr:=qI Ha;have H0:e=.returned false:=H0;subst H0;have H7:Hu ((rP a y u s d x cb r cc z t nc) O):=⟨ad ((Ha.block (a) (by have:=Hb.o.size;omega) (by rintro (h|h) <;> omega)).trans ((Hb.o.block (a) (by omega)).trans HB.o)) 0,ad ((Ha.block (a) (by have:=Hb.o.size;omega) (by rintro (h|h) <;> omega)).trans ((Hb.o.block (a) (by omega)).trans HB.o)) 1,ad ((Ha.block (d) (by have:=Hb.o.size;omega) (by rintro (h|h) <;> omega)).trans ((Hb.o.block (d) (by omega)).trans Hf.o)) 0,ad ((Ha.block (d) (by have:=Hb.o.size;omega) (by rintro (h|h) <;> omega)).trans ((Hb.o.block (d) (by omega)).trans Hf.o)) 1,ad ((Ha.block (d) (by have:=Hb.o.size;omega) (by rintro (h|h) <;> omega)).trans ((Hb.o.block (d) (by omega)).trans Hf.o)) 2,ad ((Ha.block (a+1) (by have:=Hb.o.size;omega) (by rintro (h|h) <;> omega)).trans ((Hb.o.block (a+1) (by omega)).trans Hc.o)) 0,ad ((Ha.block (a+1) (by have:=Hb.o.size;omega) (by rintro (h|h) <;> omega)).trans ((Hb.o.block (a+1) (by omega)).trans Hc.o)) 1,ad ((Ha.block (a+1) (by have:=Hb.o.size;omega) (by rintro (h|h) <;> omega)).trans ((Hb.o.block (a+1) (by omega)).trans Hc.o)) 2,ad ((Ha.block (a+1) (by have:=Hb.o.size;omega) (by rintro (h|h) <;> omega)).trans ((Hb.o.block (a+1) (by omega)).trans Hc.o)) 3,ad ((Ha.block (a+1) (by have:=Hb.o.size;omega) (by rintro (h|h) <;> omega)).trans ((Hb.o.block (a+1) (by omega)).trans Hc.o)) 4,ad ((Ha.block (a+1) (by have:=Hb.o.size;omega) (by rintro (h|h) <;> omega)).trans ((Hb.o.block (a+1) (by omega)).trans Hc.o)) 5⟩;clear Ha
       go_wp2_with fail
       refine D.o _ _ H7.o λN=>?_;clear D K;refine tk 8 ?_;refine Qn (by kernel_rfl) ?_ _;clear N;have H4:=qI ((Hw.o.trans (Apart.of_below (show Below wr wr X by rw[hBq];exact hw.o))).trans ((Apart.of_below Hb.o).trans Hr.o));have Hk:=qI ((H4.o.block (B+1) (by omega) (by rintro (h|h) <;> omega)).trans hP.o);have Jq:Hu (Below w w O):=by
        unfold Hu;rw[hB];exact H4.o.below H6.o (by omega) (λj E=>by rcases E with h|h <;> omega)
       have hC:Hu (be m ds hs=none):=by
        unfold Hu;rw[h2.o];refine UX (k:=k+1) ?_ _ (by omega);rw[hJ.o];exact UW (j:=j+1) (by rw[hM.o,H9.o]) _ (by omega)
       have z0:O.cell? (B+1:Nat)=some (.int .u64 0):=ad Hk.o 0;have z1:O.cell? ⟨B+1,1,none⟩=some (.pointer none):=ad Hk.o 1;have f0:=bQ Hk.o 0;have f1:=bQ Hk.o 1;have Ho:=qI (aV (aV Hk.o 0 (.int .u64 0)) 1 (.pointer none));have HZ:=qI ((Jq.o.setCell (p:=⟨B+1,0,none⟩) (by rw[hB];exact Nat.le_succ _) (.int .u64 0)).setCell (p:=⟨B+1,1,none⟩) (by rw[hB];exact Nat.le_succ _) (.pointer none))
       go_wp2_with fail
       generalize ((O.setCell (B+1:Nat) (.int .u64 0)).setCell ⟨B+1,1,none⟩ (.pointer none))=H at *;(try simp only[Exit.inBlock,Exit.then]);refine bodyPost_ret (v:=.tuple #[.agg #[.int .u64 0,.pointer none],false]) ?_ rfl ⟨by rw[hC.o];exact⟨0,none,rfl⟩,hB ▸ HZ.o⟩;have r0:H.cell? (B+1:Nat)=some (.int .u64 0):=ad Ho.o 0;have r1:H.cell? ⟨B+1,1,none⟩=some (.pointer none):=ad Ho.o 1;rw[k9 rfl];clear z0 z1 f0 f1;go_simp
      | some sq2=>
       refine wp_region_held_drew (S:=rP a y u s d x cb r cc z t nc) (by kernel_rfl) (H5.o _ Hp.o) λN=>?_;generalize X.drew=V at *;refine tk 0 ?_;refine tk 1 ?_;refine tk 2 ?_;refine tk 3 ?_;refine tk 5 ?_;refine tk 6 ?_;refine rd 4 λK D=>?_;go_simp
       go_wp2_with fail
       refine (tu x.pod (.slice (some ⟨cb,r,none⟩) x.pod.cs.length cc) z t z.ds.length nc V (H1.o.le (aZ.of_below (H2.o _ Hp.o))) Hz.o.2.1.1 Hz.o.2.1.2).mono ?_;rintro e W5 ⟨rfl,HG⟩;have Hb:=qI (Hp.o.trans (HG.mono Hp.o.size));clear HG
       go_wp2_with fail
       refine D.o _ _ (H5.o _ Hb.o) λN=>?_;clear D K;refine rd 7 λK D=>?_;go_simp
       go_wp2_with fail
       refine (Hq.o W5 Hb.o).mono ?_;rintro e O ⟨H0,Ha⟩;have Hr:=qI Ha;obtain⟨rfl,HP,HS⟩:=H0;have ht:=qI HP;have hc:=qI HS;clear HP HS;have H7:Hu ((rP a y u s d x cb r cc z t nc) O):=⟨ad ((Ha.block (a) (by have:=Hb.o.size;omega) (by rintro (h|h) <;> omega)).trans ((Hb.o.block (a) (by omega)).trans HB.o)) 0,ad ((Ha.block (a) (by have:=Hb.o.size;omega) (by rintro (h|h) <;> omega)).trans ((Hb.o.block (a) (by omega)).trans HB.o)) 1,ad ((Ha.block (d) (by have:=Hb.o.size;omega) (by rintro (h|h) <;> omega)).trans ((Hb.o.block (d) (by omega)).trans Hf.o)) 0,ad ((Ha.block (d) (by have:=Hb.o.size;omega) (by rintro (h|h) <;> omega)).trans ((Hb.o.block (d) (by omega)).trans Hf.o)) 1,ad ((Ha.block (d) (by have:=Hb.o.size;omega) (by rintro (h|h) <;> omega)).trans ((Hb.o.block (d) (by omega)).trans Hf.o)) 2,ad ((Ha.block (a+1) (by have:=Hb.o.size;omega) (by rintro (h|h) <;> omega)).trans ((Hb.o.block (a+1) (by omega)).trans Hc.o)) 0,ad ((Ha.block (a+1) (by have:=Hb.o.size;omega) (by rintro (h|h) <;> omega)).trans ((Hb.o.block (a+1) (by omega)).trans Hc.o)) 1,ad ((Ha.block (a+1) (by have:=Hb.o.size;omega) (by rintro (h|h) <;> omega)).trans ((Hb.o.block (a+1) (by omega)).trans Hc.o)) 2,ad ((Ha.block (a+1) (by have:=Hb.o.size;omega) (by rintro (h|h) <;> omega)).trans ((Hb.o.block (a+1) (by omega)).trans Hc.o)) 3,ad ((Ha.block (a+1) (by have:=Hb.o.size;omega) (by rintro (h|h) <;> omega)).trans ((Hb.o.block (a+1) (by omega)).trans Hc.o)) 4,ad ((Ha.block (a+1) (by have:=Hb.o.size;omega) (by rintro (h|h) <;> omega)).trans ((Hb.o.block (a+1) (by omega)).trans Hc.o)) 5⟩;clear Ha
       go_wp2_with fail
       refine D.o _ _ H7.o λN=>?_;clear D K;refine tk 8 ?_;refine Qn (by kernel_rfl) ?_ _;clear N;have hF:=qI (UY H9.o.symm);have H4:=qI ((hh.o.trans (Apart.of_below (show Below wr wr X by rw[hBq];exact hw.o))).trans ((Apart.of_below Hb.o).trans Hr.o))
       go_wp2
       go_roundw
       case rel=>exact⟨j+1,sq2,by omega,by go_num,by rw[hM.o,H9.o],⟨hF.o.1.trans P.o.1,hF.o.2 P.o.2⟩,ht.o,hc.o,H4.o⟩
       case measure=>simp[intOf];omega
     ·have Jd:j=x.gs.length:=by omega
      subst Jd
      go_wp2
      go_roundw
      case rel=>exact⟨k+1,A,by omega,by go_num,by rw[hJ.o,hX.o],P.o,HV.o,HN.o,Hw.o⟩
      case measure=>simp[intOf];omega
   ·have Jc:k=hs.length:=by omega
    subst Jc;have hz:Hu (be m ds hs=some f):=by unfold Hu;rw[h2.o,h3.o]
    have Hk:=qI ((hN.o.block (B+1) (by omega) (by rintro (h|h) <;> omega)).trans hP.o);have z0:wr.cell? (B+1:Nat)=some (.int .u64 0):=ad Hk.o 0;have z1:wr.cell? ⟨B+1,1,none⟩=some (.pointer none):=ad Hk.o 1;have f0:=bQ Hk.o 0;have f1:=bQ Hk.o 1;have q0:wr.cell? I=some (.int .u64 f.cp):=ad hD.o 0;have q1:wr.cell? ⟨I,1,none⟩=some (.pointer (some ⟨b,0,none⟩)):=ad hD.o 1;have Ho:=qI (aV (aV Hk.o 0 (.int .u64 f.cp)) 1 b);have HZ:=qI ((hv.o.setCell (p:=⟨B+1,0,none⟩) (by rw[hB];exact Nat.le_succ _) (.int .u64 f.cp)).setCell (p:=⟨B+1,1,none⟩) (by rw[hB];exact Nat.le_succ _) b);have Js:Hu (aF ((wr.setCell (B+1:Nat) (.int .u64 f.cp)).setCell ⟨B+1,1,none⟩ b) b db C T f.ds f.us):=(hW.o.kept (cM _ (B+1:Nat) _) (λe=>by injection e with e;have e:b=B+1:=e;omega) (λh1 e=>by injection e with e;have e:db=B+1:=e;have:=Hv.o (by rw[<- Z.o.1];exact h1);omega)).kept (cM _ ⟨B+1,1,none⟩ _) (λe=>by injection e with e;have e:b=B+1:=e;omega) (λh1 e=>by injection e with e;have e:db=B+1:=e;have:=Hv.o (by rw[<- Z.o.1];exact h1);omega)
    go_wp2_with fail
    generalize ((wr.setCell (B+1:Nat) (.int .u64 f.cp)).setCell ⟨B+1,1,none⟩ b)=H at *;(try simp only[Exit.inBlock,Exit.then]);refine bodyPost_ret (v:=.tuple #[.agg #[.int .u64 f.cp,b],true]) ?_ rfl ⟨by rw[hz.o];exact⟨b,db,C,T,rfl,⟨Js.o,by rw[Z.o.1];exact HK.o.1,Z.o.2⟩,by omega,λL=>by have:=Hv.o (by rw[<- Z.o.1];exact L);omega⟩,hB ▸ HZ.o⟩;have r0:H.cell? (B+1:Nat)=some (.int .u64 f.cp):=ad Ho.o 0;have r1:H.cell? ⟨B+1,1,none⟩=some (.pointer (some ⟨b,0,none⟩)):=ad Ho.o 1;rw[k9 rfl];clear z0 z1 f0 f1 q0 q1;go_simp
 ·have he:=hx hf;subst he;have hC:Hu (be m ds hs=none):=by unfold Hu be;rw[if_neg hf]
  dsimp only;rw[eP hf];have z0:F.cell? (B+1:Nat)=some (.int .u64 0):=ad Y.o 0;have z1:F.cell? ⟨B+1,1,none⟩=some (.pointer none):=ad Y.o 1;have f0:=bQ Y.o 0;have f1:=bQ Y.o 1;have Ho:=qI (aV (aV Y.o 0 (.int .u64 0)) 1 (.pointer none));have HZ:=qI ((hO.o.setCell (p:=⟨B+1,0,none⟩) (Nat.le_succ _) (.int .u64 0)).setCell (p:=⟨B+1,1,none⟩) (Nat.le_succ _) (.pointer none));clear Hy hx hf Q;generalize dI ds=ff at *
  go_wp2_with fail
  generalize ((F.setCell (B+1:Nat) (.int .u64 0)).setCell ⟨B+1,1,none⟩ (.pointer none))=H at *;(try simp only[Exit.inBlock,Exit.then]);refine bodyPost_ret (v:=.tuple #[.agg #[.int .u64 0,.pointer none],false]) ?_ rfl ⟨by rw[hC.o];exact⟨0,none,rfl⟩,by rw[hB];exact HZ.o⟩;have r0:H.cell? (B+1:Nat)=some (.int .u64 0):=ad Ho.o 0;have r1:H.cell? ⟨B+1,1,none⟩=some (.pointer none):=ad Ho.o 1;rw[k9 rfl];clear z0 z1 f0 f1;go_simp
