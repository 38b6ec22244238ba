import Derived.Test.YtjlblidnfebmiaaGreatDoorY38
set_option maxRecDepth 100000
set_option maxHeartbeats 16000000
open Go Go.RowKit Go.Shelf
attribute [local go_sem] Oper.semAt_some
namespace Go.Proofs.YtjlblidnfebmiaaGreatDoor
theorem XB{s:aC}{h:ae}{j:Nat}(a:gj s h j=none):∀i,j<=i->gj s h i=none:=by
 intro i hi
 induction i with
 | zero=>rw[show j=0 by omega] at a;exact a
 | succ i ih=>
  by_cases e:j=i+1
  ·rw[<- e];exact a
  ·grind[gj]
theorem XC{s:aC}{hs:List ae}{k:Nat}(a:fP s hs k=none):∀i,k<=i->fP s hs i=none:=by
 intro i hi
 induction i with
 | zero=>rw[show k=0 by omega] at a;exact a
 | succ i ih=>
  by_cases e:k=i+1
  ·rw[<- e];exact a
  ·grind[fP]
theorem XD{s a:aC}{g:aX}{own:Int}{ns:List ak}(h:eM s g own ns=some a):a.ds=s.ds/\(s.cp<18446744073709551616->a.cp<18446744073709551616):=by
 grind[eM,lK]
theorem et.le{W W':World}{v:Value}{g o:Nat}{ds:List aq}(h:et W v g o ds)(l:aR W W'):et W' v g o ds:=by
 obtain⟨f,c,e,m⟩:=h;refine⟨f,c,e,λi=>?_⟩;obtain⟨j,d,a⟩:=m i;exact⟨j,Q1 d l.size,λk b=>⟨l.cell _ _ _ (a k b).1,l.cell _ _ _ (a k b).2.1,l.cell _ _ _ (a k b).2.2⟩⟩
def mW (hs:List ae):Prop:=∀x∈hs,br x.pod=0/\x.gs.length=x.pod.cs.length/\se x.gs=0
def tI (w w':World) (e:Ending):Option aC->Prop
 | some s'=>∃pb db ao c,e=.returned (.tuple #[sV s' pb,.bool true])/\eS w' pb db ao c s'/\w.heap.size<=pb/\(0<s'.ds.length->w.heap.size<=db)
 | none=>∃cp p,e=.returned (.tuple #[.agg #[.int .u64 cp,.pointer p],.bool false])
abbrev oC:=λ(x0:aF) (x1:Option Addr) (x2:Nat)=>(.cells #[x0.nm,(x0.am:Int),(x0.ab:Int),(x0.cm:Int),(x0.cb:Int),.slice x1 x0.ds.length x2] 65:Obj)
abbrev oD:=λ(x0:ae) (x1:Option Addr) (x2:Nat) (x3:Option Addr) (x4:Nat)=>(.cells #[x0.pod.nm,(x0.pod.pr:Int),.slice x1 x0.pod.cs.length x2,.slice x3 x0.gs.length x4] 101:Obj)
abbrev l6:=λ(x0:aX) (x1:Option Addr) (x2:Nat)=>(.cells #[.int .u64 (x0.cp:Nat),.slice x1 x0.dv.length x2] 123:Obj)
abbrev rt:=λ(x0:Nat) (x1:aJ)=>(.cells #[x0,.int .u64 x1.op,.int .u8 x1.nd,(x1.nb:Int),(x1.pol:Int)] 84:Obj)
abbrev ru:=λ(x0:aJ) (x1:Nat)=>(.cells #[.int .u64 x0.op,x1] 87:Obj)
abbrev tJ:=λ(Bq:Nat) (y:aX) (ia:Option Addr) (ic Bh:Nat) (x:ae) (cb co cc:Nat) (z:aF) (na:Option Addr) (nc:Nat) (w':World)=>cl w' Bq (0) (.int .u64 (y.cp:Nat))/\cl w' Bq (1) (.slice ia y.dv.length ic)/\cl w' Bh (0) x.pod.nm/\cl w' Bh (1) (x.pod.pr:Int)/\cl w' Bh (2) (.slice (some ⟨cb,co,none⟩) x.pod.cs.length cc)/\cl w' (Bq+1) (0) z.nm/\cl w' (Bq+1) (1) (z.am:Int)/\cl w' (Bq+1) (2) (z.ab:Int)/\cl w' (Bq+1) (3) (z.cm:Int)/\cl w' (Bq+1) (4) (z.cb:Int)/\cl w' (Bq+1) (5) (.slice na z.ds.length nc)
theorem XE(m:aJ)(J:Nat){g o:Nat}{v vh:Value}{ds:List aq}{hs:List ae}{w:World}(ah:et w v g o ds)(hH:bf w vh hs)(j6:m.op<18446744073709551616)(Y:mW hs)(hl:hs.length<=100) :
  Calls Tryz.prog 91 #[mV m J,v,vh] w λe w'=>tI w w' e (bi m ds hs)/\Below w w w':=by
 unfold mV;have Jr:=qI Y;have hT:=qI (((Q0 w w).alloc (lR) (rt J m)).alloc (by simp) (.cells #[.int .u64 0,.pointer none] 87));have sz:((w.alloc (rt J m)).alloc (.cells #[.int .u64 0,.pointer none] 87)).heap.size=w.heap.size+2:=by simp
 have h2:=qI (bQ (aY w (rt J m) rfl) (.cells #[.int .u64 0,.pointer none] 87));have h8:=qI (aY (w.alloc (rt J m)) (.cells #[.int .u64 0,.pointer none] 87) (n:=w.heap.size+1) (by simp));have hF:=ah.le (aR.of_below hT.o);have HI:=qI (Dd (v:=v) (b:=g) (o:=o) (ds:=ds) (w:=(w.alloc (rt J m)).alloc (.cells #[.int .u64 0,.pointer none] 87)) hF);obtain⟨da,dc,rfl,_⟩:=ah;obtain⟨ao,c,rfl,hu,hr⟩:=hH;have HR:=qI hr;clear Y hF hr hu
 go_enter Tryz.func91,Tryz.ntmps91
 go_wp2_with fail
 generalize ((w.alloc (rt J m)).alloc (.cells #[.int .u64 0,.pointer none] 87))=U at *;generalize hB:w.heap.size=B at *;refine HI.o.mono ?_;rintro e D ⟨Hw,hh,O⟩;have hN:=qI (hT.o.trans (O.mono (by omega)));have JB:=O.size;have P:=qI ((O.block (B+1) (by omega)).trans h8.o);have h3:=qI ((O.block B (by omega)).trans h2.o)
 by_cases hf:dV ds=0
 ·obtain⟨p,rfl,b,db,u,R,rfl,Hi,Jo,Hx⟩:=Hw hf;have HK:=qI (Xx hf);have Jk:Hu (bi m ds hs=fP ⟨m.op,ds,λ_=>false⟩ hs hs.length):=by grind[Hu,bi]
  have HJ:=qI Hi;have JA:=Hi.lt;have h4:Hu (0<ds.length->B<=db/\db<D.heap.size):=λG=>⟨by have:=Hx G;omega,(Hi.at0 G).2.2⟩
  have Ht:Hu (0<ds.length->U.heap.size<=db):=λG=>Hx G
  clear Hw hh Hi O Hx hf HI;dsimp only;rw[show aD (((0:Nat)):Int)=.nilIface from rfl];have m1:D.cell? ⟨B,1,none⟩=some (.int .u64 m.op):=ad h3.o 1;have Jn:=qI (HJ.o.alloc (ru m b));have Jh:=qI (aY D (ru m b) rfl);have hL:=qI (bQ P.o (ru m b));have Jt:(D.alloc (ru m b)).heap.size=D.heap.size+1:=by simp
  have hg:=qI (hN.o.alloc (by omega) (ru m b))
  go_wp2_with fail
  generalize D.alloc (ru m b)=W2 at *;generalize hsb:D.heap.size=F at *;clear m1
  go_loopw [30] (λi wr=>∃(k:Nat) (f:aC),k<=hs.length/\i=.int .i64 k/\fP ⟨m.op,ds,λ_=>false⟩ hs k=some f/\(f.ds=ds/\f.cp<18446744073709551616)/\wr.heap[F]?=some (.cells #[.int .u64 f.cp,b] 87 (0,0))/\aM wr b db u R f.ds f.us/\Apart (lZ b F) W2 wr) (λi _=>hs.length - (intOf i).toNat)
  case atStart=>exact⟨0,⟨m.op,ds,λ_=>false⟩,by omega,rfl,rfl,⟨rfl,j6⟩,Jh.o,Jn.o,Apart.refl _ _⟩
  case round=>
   obtain⟨k,f,hk,rfl,HL,HO,Hk,Hj,He⟩:=hrel;have Jz:=qI HL;have hD:=qI Hk;have hZ:=qI Hj;have hG:=qI He;have T:=qI HO;have Jv:=He.size;have hc:Hu (Below w w wr):=by
    unfold Hu;rw[hB];exact He.below hg.o (by omega) (λj hj=>by omega)
   clear HL Hk Hj He HO
   by_cases E:k<hs.length
   ·obtain⟨h,ho,cv,Z1,rfl,H4⟩:=HR.o (by omega);have hle:=aR.of_below hc.o;obtain⟨x0,x1,x2,x3⟩:=(H4.2 k E).1;have x0:=hle.cell _ _ _ x0;have x1:=hle.cell _ _ _ x1;have x2:=hle.cell _ _ _ x2;have x3:=hle.cell _ _ _ x3;have Hn:=(H4.2 k E).2.1;have HP:=(H4.2 k E).2.2;obtain⟨hV,hI,hE⟩:=Jr.o (ah hs k) (by simp[ah,E]);have hM:Hu (fP ⟨m.op,ds,λ_=>false⟩ hs (k+1)=gj f (ah hs k) (ah hs k).gs.length):=by grind[Hu,fP]
    obtain⟨ca,cc,hU,hu,hJ⟩:=id Hn;obtain⟨ga,gc,hS,Jg,hP⟩:=id HP;rw[hU] at x2 Hn;rw[hS] at x3;have HT:=qI Hn;have h9:=qI hJ;have Jd:=qI hP;have HQ:=qI (jo hV);have Js:=HQ.o.2.2.1;have Jc:=qI hE;have H5:=qI hI;have Jq:(ah hs k).gs.length<=3:=by omega
    clear H4 Hn HP hU hS hJ hP hle hu Jg hV hE hI;generalize ah hs k=x at *;have Jw:=qI ((Q0 wr wr).alloc (lR) (oD x ca cc ga gc));have hW:=qI (aY wr (oD x ca cc ga gc) rfl);have Jy:(wr.alloc (oD x ca cc ga gc)).heap.size=wr.heap.size+1:=by simp
    have hw:=qI (bQ hD.o (oD x ca cc ga gc));have hy:=qI (hZ.o.alloc (oD x ca cc ga gc));have y3:(wr.alloc (oD x ca cc ga gc)).cell? ⟨wr,3,none⟩=some (.slice ga x.gs.length gc):=ad hW.o 3;have hv:=qI (hG.o.trans (Apart.alloc _ wr (oD x ca cc ga gc)))
    go_wp2_with fail
    generalize wr.alloc (oD x ca cc ga gc)=W3 at *;generalize hBh:wr.heap.size=d at *;clear x0 x1 x2 x3 y3 hc
    go_loopw [37] (λi wr=>∃(j:Nat) (A:aC),j<=x.gs.length/\i=.int .i64 j/\gj f x j=some A/\(A.ds=ds/\A.cp<18446744073709551616)/\wr.heap[F]?=some (.cells #[.int .u64 A.cp,b] 87 (0,0))/\aM wr b db u R A.ds A.us/\Apart (lZ b F) W3 wr) (λi _=>x.gs.length - (intOf i).toNat)
    case atStart=>exact⟨0,f,by omega,rfl,rfl,T.o,hw.o,hy.o,Apart.refl _ _⟩
    case round=>
     obtain⟨j,A,hj,rfl,HW,HF,Hk,Hj,He⟩:=hrel;have Jm:=qI HW;have HU:=qI Hk;have HH:=qI Hj;have hA:=qI He;have Hz:=qI HF;have Ju:=He.size;have Hq:=qI (hv.o.trans He);have HZ:Hu (Below w w wr):=by
      unfold Hu;rw[hB];exact Hq.o.below hg.o (by omega) (λj hj=>by omega)
     have HV:=qI ((He.block d (by omega) (by omega)).trans hW.o);clear HW Hk Hj He HF
     by_cases I:j<x.gs.length
     ·have H7:j<x.pod.cs.length:=by rw[<- H5.o];exact I
      obtain⟨gb,go,aH,rfl,HX⟩:=Jd.o (by omega);obtain⟨cb,s,ZQ,rfl,Hv⟩:=h9.o (by omega);have hle:=aR.of_below HZ.o;obtain⟨⟨g0,g1,g2⟩,Hm⟩:=HX.2 j I;have g0:=hle.cell _ _ _ g0;have g1:=hle.cell _ _ _ g1;obtain⟨k0,k1,k2,k3,k4,Z⟩:=Hv.at H7;have k0:=hle.cell _ _ _ k0;have k1:=hle.cell _ _ _ k1;have k2:=hle.cell _ _ _ k2;have k3:=hle.cell _ _ _ k3;have k4:=hle.cell _ _ _ k4;have Z:=hle.cell _ _ _ Z;have Hh:=(Hv.2 j H7).2;obtain⟨r,l,hR,Ji,Ja⟩:=id Hm;obtain⟨t,nc,hX,Jj,Jl⟩:=id Hh;rw[hR] at g1 Hm;rw[hX] at Z Hh;have ha:=qI Hm;have HG:=qI Hh;have hY:Hu (gj f x (j+1)=eM A (aG x.gs j) (bR x.pod.cs (af x.pod.cs j).am) (af x.pod.cs j).ds):=by grind[Hu,gj]
      have Hy:=qI (HQ.o.2.2.2 (af x.pod.cs j) (iM _ _ _ H7));have Je:=qI (zC (fy Jc.o j I));have h7:HV.o=HV.o:=rfl;have j1:(j:Int)<(x.gs.length:Int):=by omega
      have j2:(j:Int)<(x.pod.cs.length:Int):=by omega
      clear HX Hv Hm Hh hR hX hle Ji Ja Jj Jl h7;generalize aG x.gs j=y at *;generalize af x.pod.cs j=z at *;have b2:wr.cell? ⟨d,2,none⟩=some (.slice (some ⟨cb,s,none⟩) x.pod.cs.length cc):=ad HV.o 2;have hx:=qI (((Q0 wr wr).alloc (lR) (l6 y r l)).alloc (by simp) (oC z t nc));have N:=qI (bQ (aY wr (l6 y r l) rfl) (oC z t nc));have Hc:=qI (aY (wr.alloc (l6 y r l)) (oC z t nc) (n:=wr.heap.size+1) (by simp));have Jx:((wr.alloc (l6 y r l)).alloc (oC z t nc)).heap.size=wr.heap.size+2:=by simp
      have b3:(wr.alloc (l6 y r l)).cell? ⟨d,2,none⟩=some (.slice (some ⟨cb,s,none⟩) x.pod.cs.length cc):=ad (bQ HV.o _) 2;have Hg:=(Q0 wr wr).alloc (lR) (l6 y r l);have Q:cb<wr.heap.size:=Q3 _ ⟨cb,s+j*6,none⟩ k0;have j0:=(Hg.cell (p:=⟨cb,s+j*6,none⟩) Q).trans k0;have In:=(Hg.cell (p:=⟨cb,s+j*6+1,none⟩) Q).trans k1;have Ix:=(Hg.cell (p:=⟨cb,s+j*6+2,none⟩) Q).trans k2;have j5:=(Hg.cell (p:=⟨cb,s+j*6+3,none⟩) Q).trans k3;have j3:=(Hg.cell (p:=⟨cb,s+j*6+4,none⟩) Q).trans k4;have j4:=(Hg.cell (p:=⟨cb,s+j*6+5,none⟩) Q).trans Z;clear Hg
      go_wp2_with fail
      generalize hBq:wr.heap.size=a at *;have Jp:Hu (aM ((wr.alloc (l6 y r l)).alloc (oC z t nc)) b db u R A.ds A.us):=(HH.o.alloc _).alloc _;have H8:=qI (bQ (bQ HU.o (l6 y r l)) (oC z t nc));have Hf:=qI (bQ (bQ HV.o (l6 y r l)) (oC z t nc));have ht:=qI (HZ.o.trans (hx.o.mono (by omega)));generalize ((wr.alloc (l6 y r l)).alloc (oC z t nc))=X at *;clear g0 g1 k0 k1 k2 k3 k4 Z b2 b3 j0 In Ix j5 j3 j4;have H3:Hu (∀W,Below X X W->(tJ a y r l d x cb s cc z t nc) W):=λW h=>⟨ad ((h.block (a) (by omega)).trans N.o) 0,ad ((h.block (a) (by omega)).trans N.o) 1,ad ((h.block (d) (by omega)).trans Hf.o) 0,ad ((h.block (d) (by omega)).trans Hf.o) 1,ad ((h.block (d) (by omega)).trans Hf.o) 2,ad ((h.block (a+1) (by omega)).trans Hc.o) 0,ad ((h.block (a+1) (by omega)).trans Hc.o) 1,ad ((h.block (a+1) (by omega)).trans Hc.o) 2,ad ((h.block (a+1) (by omega)).trans Hc.o) 3,ad ((h.block (a+1) (by omega)).trans Hc.o) 4,ad ((h.block (a+1) (by omega)).trans Hc.o) 5⟩
      have Hp:Hu (Below X X X.drew):=bO (Q0 _ _);have H1:Hu (∀W,Below X X W->Below w w W):=λW h=>ht.o.trans (h.mono (by omega))
      have Hr:=qI (λ(W:World) (h:Below X X W)=>XA (a:=F) (c:=b) (db:=db) (y:=u) (q:=R) A y (bR x.pod.cs z.am) (v:=.slice r y.dv.length l) (u:=.slice t z.ds.length nc) (ns:=z.ds) (w:=W) ((h.block F (by omega)).trans H8.o) (Jp.o.below h) (by rw[Hz.o.1];exact HK.o) Hz.o.2 g2 (ha.o.le (sw (H1.o W h) rfl (λj hj=>by omega))) (HG.o.le (sw (H1.o W h) rfl (λj hj=>by omega))) (by have:=Je.o;omega) (by have:=Hy.o.2.2.2.2.2.1;omega) (λq hq=>by
       have hn:=Hy.o.2.2.2.2.2.2 (ar z.ds q) (iM _ _ _ hq)
       have:=(mx hn.1).2
       have e:(ar z.ds q).kind.data.toList.length=(ar z.ds q).kind.size:=by simp
       have:=hn.2
       omega) (λG=>by have:=h4.o (by rw[<- Hz.o.1];exact G);omega))
      obtain⟨oc,hz⟩:∃oc,oc=eM A y (bR x.pod.cs z.am) z.ds:=⟨_,rfl⟩;rw[<- hz] at Hr;have hm:=qI hz;clear hz;cases oc with
      | none=>
       refine wp_region_held_drew (S:=tJ a y r l d x cb s cc z t nc) (by kernel_rfl) (H3.o _ Hp.o) λL=>?_;generalize X.drew=V at *;refine tk 0 ?_;refine tk 1 ?_;refine tk 2 ?_;refine tk 3 ?_;refine tk 5 ?_;refine tk 6 ?_;refine rd 4 λK C=>?_;go_simp
       go_wp2_with fail
       refine (sL x.pod (cv:=.slice (some ⟨cb,s,none⟩) x.pod.cs.length cc) z t z.ds.length nc (w:=V) (HT.o.le (aR.of_below (H1.o _ Hp.o))) Hy.o.2.1.1 Hy.o.2.1.2).mono ?_;rintro e W5 ⟨rfl,HM⟩;have Hb:=qI (Hp.o.trans (HM.mono Hp.o.size));clear HM
       go_wp2_with fail
       refine C.o _ _ (H3.o _ Hb.o) λL=>?_;clear C K;refine rd 7 λK C=>?_;go_simp
       go_wp2_with fail
       refine (Hr.o W5 Hb.o).mono ?_;rintro e M ⟨HN,Ha⟩;have Hs:=qI Ha;have HN:e=.returned false:=HN;subst HN;have hi:Hu ((tJ a y r l d x cb s cc z t nc) M):=⟨ad ((Ha.block (a) (by have:=Hb.o.size;omega) (by omega)).trans ((Hb.o.block (a) (by omega)).trans N.o)) 0,ad ((Ha.block (a) (by have:=Hb.o.size;omega) (by omega)).trans ((Hb.o.block (a) (by omega)).trans N.o)) 1,ad ((Ha.block (d) (by have:=Hb.o.size;omega) (by omega)).trans ((Hb.o.block (d) (by omega)).trans Hf.o)) 0,ad ((Ha.block (d) (by have:=Hb.o.size;omega) (by omega)).trans ((Hb.o.block (d) (by omega)).trans Hf.o)) 1,ad ((Ha.block (d) (by have:=Hb.o.size;omega) (by omega)).trans ((Hb.o.block (d) (by omega)).trans Hf.o)) 2,ad ((Ha.block (a+1) (by have:=Hb.o.size;omega) (by omega)).trans ((Hb.o.block (a+1) (by omega)).trans Hc.o)) 0,ad ((Ha.block (a+1) (by have:=Hb.o.size;omega) (by omega)).trans ((Hb.o.block (a+1) (by omega)).trans Hc.o)) 1,ad ((Ha.block (a+1) (by have:=Hb.o.size;omega) (by omega)).trans ((Hb.o.block (a+1) (by omega)).trans Hc.o)) 2,ad ((Ha.block (a+1) (by have:=Hb.o.size;omega) (by omega)).trans ((Hb.o.block (a+1) (by omega)).trans Hc.o)) 3,ad ((Ha.block (a+1) (by have:=Hb.o.size;omega) (by omega)).trans ((Hb.o.block (a+1) (by omega)).trans Hc.o)) 4,ad ((Ha.block (a+1) (by have:=Hb.o.size;omega) (by omega)).trans ((Hb.o.block (a+1) (by omega)).trans Hc.o)) 5⟩;clear Ha
       go_wp2_with fail
       refine C.o _ _ hi.o λL=>?_;clear C K;refine tk 8 ?_;refine Qn (by kernel_rfl) ?_ _;clear L;have H2:=qI ((Hq.o.trans (Apart.of_below (show Below wr wr X by rw[hBq];exact hx.o))).trans ((Apart.of_below Hb.o).trans Hs.o));have Hl:=qI ((H2.o.block (B+1) (by omega) (by omega)).trans hL.o);have h5:Hu (Below w w M):=by
        unfold Hu;rw[hB];exact H2.o.below hg.o (by omega) (λj hj=>by omega)
       have H6:Hu (bi m ds hs=none):=by
        unfold Hu;rw[Jk.o];refine XC (k:=k+1) ?_ _ (by omega);rw[hM.o];exact XB (j:=j+1) (by rw[hY.o,hm.o]) _ (by omega)
       have z0:M.cell? (B+1:Nat)=some (.int .u64 0):=ad Hl.o 0;have z1:M.cell? ⟨B+1,1,none⟩=some (.pointer none):=ad Hl.o 1;have f0:=bZ Hl.o 0;have f1:=bZ Hl.o 1;have Ho:=qI (bd (bd Hl.o 0 (.int .u64 0)) 1 (.pointer none));have HS:=qI ((h5.o.setCell (p:=⟨B+1,0,none⟩) (by simp_all) (.int .u64 0)).setCell (p:=⟨B+1,1,none⟩) (by simp_all) (.pointer none))
       go_wp2_with fail
       generalize ((M.setCell (B+1:Nat) (.int .u64 0)).setCell ⟨B+1,1,none⟩ (.pointer none))=H at *;(try simp only[Exit.inBlock,Exit.then]);refine bodyPost_ret (v:=.tuple #[.agg #[.int .u64 0,.pointer none],false]) ?_ rfl ⟨by rw[H6.o];exact⟨0,none,rfl⟩,hB ▸ HS.o⟩;have r0:H.cell? (B+1:Nat)=some (.int .u64 0):=ad Ho.o 0;have r1:H.cell? ⟨B+1,1,none⟩=some (.pointer none):=ad Ho.o 1;rw[lY rfl];clear z0 z1 f0 f1;go_simp
      | some sq2=>
       refine wp_region_held_drew (S:=tJ a y r l d x cb s cc z t nc) (by kernel_rfl) (H3.o _ Hp.o) λL=>?_;generalize X.drew=V at *;refine tk 0 ?_;refine tk 1 ?_;refine tk 2 ?_;refine tk 3 ?_;refine tk 5 ?_;refine tk 6 ?_;refine rd 4 λK C=>?_;go_simp
       go_wp2_with fail
       refine (sL x.pod (cv:=.slice (some ⟨cb,s,none⟩) x.pod.cs.length cc) z t z.ds.length nc (w:=V) (HT.o.le (aR.of_below (H1.o _ Hp.o))) Hy.o.2.1.1 Hy.o.2.1.2).mono ?_;rintro e W5 ⟨rfl,HM⟩;have Hb:=qI (Hp.o.trans (HM.mono Hp.o.size));clear HM
       go_wp2_with fail
       refine C.o _ _ (H3.o _ Hb.o) λL=>?_;clear C K;refine rd 7 λK C=>?_;go_simp
       go_wp2_with fail
       refine (Hr.o W5 Hb.o).mono ?_;rintro e M ⟨HN,Ha⟩;have Hs:=qI Ha;obtain⟨rfl,HY,H0⟩:=HN;have hC:=qI HY;have hp:=qI H0;clear HY H0;have hi:Hu ((tJ a y r l d x cb s cc z t nc) M):=⟨ad ((Ha.block (a) (by have:=Hb.o.size;omega) (by omega)).trans ((Hb.o.block (a) (by omega)).trans N.o)) 0,ad ((Ha.block (a) (by have:=Hb.o.size;omega) (by omega)).trans ((Hb.o.block (a) (by omega)).trans N.o)) 1,ad ((Ha.block (d) (by have:=Hb.o.size;omega) (by omega)).trans ((Hb.o.block (d) (by omega)).trans Hf.o)) 0,ad ((Ha.block (d) (by have:=Hb.o.size;omega) (by omega)).trans ((Hb.o.block (d) (by omega)).trans Hf.o)) 1,ad ((Ha.block (d) (by have:=Hb.o.size;omega) (by omega)).trans ((Hb.o.block (d) (by omega)).trans Hf.o)) 2,ad ((Ha.block (a+1) (by have:=Hb.o.size;omega) (by omega)).trans ((Hb.o.block (a+1) (by omega)).trans Hc.o)) 0,ad ((Ha.block (a+1) (by have:=Hb.o.size;omega) (by omega)).trans ((Hb.o.block (a+1) (by omega)).trans Hc.o)) 1,ad ((Ha.block (a+1) (by have:=Hb.o.size;omega) (by omega)).trans ((Hb.o.block (a+1) (by omega)).trans Hc.o)) 2,ad ((Ha.block (a+1) (by have:=Hb.o.size;omega) (by omega)).trans ((Hb.o.block (a+1) (by omega)).trans Hc.o)) 3,ad ((Ha.block (a+1) (by have:=Hb.o.size;omega) (by omega)).trans ((Hb.o.block (a+1) (by omega)).trans Hc.o)) 4,ad ((Ha.block (a+1) (by have:=Hb.o.size;omega) (by omega)).trans ((Hb.o.block (a+1) (by omega)).trans Hc.o)) 5⟩;clear Ha
       go_wp2_with fail
       refine C.o _ _ hi.o λL=>?_;clear C K;refine tk 8 ?_;refine Qn (by kernel_rfl) ?_ _;clear L;have hO:=qI (XD hm.o.symm);have H2:=qI ((hA.o.trans (Apart.of_below (show Below wr wr X by rw[hBq];exact hx.o))).trans ((Apart.of_below Hb.o).trans Hs.o))
       go_wp2
       go_roundw
       case rel=>exact⟨j+1,sq2,by omega,by go_num,by rw[hY.o,hm.o],⟨hO.o.1.trans Hz.o.1,hO.o.2 Hz.o.2⟩,hC.o,hp.o,H2.o⟩
       case measure=>simp[intOf];omega
     ·have Jb:j=x.gs.length:=by omega
      subst Jb
      go_wp2
      go_roundw
      case rel=>exact⟨k+1,A,by omega,by go_num,by rw[hM.o,Jm.o],Hz.o,HU.o,HH.o,Hq.o⟩
      case measure=>simp[intOf];omega
   ·have Jf:k=hs.length:=by omega
    subst Jf;have H9:Hu (bi m ds hs=some f):=by grind[Hu]
    have Hl:=qI ((hG.o.block (B+1) (by omega) (by omega)).trans hL.o);have z0:wr.cell? (B+1:Nat)=some (.int .u64 0):=ad Hl.o 0;have z1:wr.cell? ⟨B+1,1,none⟩=some (.pointer none):=ad Hl.o 1;have f0:=bZ Hl.o 0;have f1:=bZ Hl.o 1;have q0:wr.cell? F=some (.int .u64 f.cp):=ad hD.o 0;have q1:wr.cell? ⟨F,1,none⟩=some (.pointer (some ⟨b,0,none⟩)):=ad hD.o 1;have Ho:=qI (bd (bd Hl.o 0 (.int .u64 f.cp)) 1 b);have HS:=qI ((hc.o.setCell (p:=⟨B+1,0,none⟩) (by grind) (.int .u64 f.cp)).setCell (p:=⟨B+1,1,none⟩) (by grind) b);have h6:Hu (aM ((wr.setCell (B+1:Nat) (.int .u64 f.cp)).setCell ⟨B+1,1,none⟩ b) b db u R f.ds f.us):=(hZ.o.kept (dD _ (B+1:Nat) _) (λe=>by grind) (λh1 e=>by injection e with e;have e:db=B+1:=e;have:=Ht.o (by rw[<- T.o.1];exact h1);omega)).kept (dD _ ⟨B+1,1,none⟩ _) (λe=>by grind) (λh1 e=>by injection e with e;have e:db=B+1:=e;have:=Ht.o (by rw[<- T.o.1];exact h1);omega)
    go_wp2_with fail
    generalize ((wr.setCell (B+1:Nat) (.int .u64 f.cp)).setCell ⟨B+1,1,none⟩ b)=H at *;(try simp only[Exit.inBlock,Exit.then]);refine bodyPost_ret (v:=.tuple #[.agg #[.int .u64 f.cp,b],true]) ?_ rfl ⟨by rw[H9.o];exact⟨b,db,u,R,rfl,⟨h6.o,by rw[T.o.1];exact HK.o.1,T.o.2⟩,by omega,λG=>by have:=Ht.o (by rw[<- T.o.1];exact G);omega⟩,hB ▸ HS.o⟩;have r0:H.cell? (B+1:Nat)=some (.int .u64 f.cp):=ad Ho.o 0;have r1:H.cell? ⟨B+1,1,none⟩=some (.pointer (some ⟨b,0,none⟩)):=ad Ho.o 1;rw[lY rfl];clear z0 z1 f0 f1 q0 q1;go_simp
 ·have he:=hh hf;subst he;have H6:Hu (bi m ds hs=none):=by grind[Hu,bi]
  dsimp only;rw[eW hf];have z0:D.cell? (B+1:Nat)=some (.int .u64 0):=ad P.o 0;have z1:D.cell? ⟨B+1,1,none⟩=some (.pointer none):=ad P.o 1;have f0:=bZ P.o 0;have f1:=bZ P.o 1;have Ho:=qI (bd (bd P.o 0 (.int .u64 0)) 1 (.pointer none));have HS:=qI ((hN.o.setCell (p:=⟨B+1,0,none⟩) (Nat.le_succ _) (.int .u64 0)).setCell (p:=⟨B+1,1,none⟩) (Nat.le_succ _) (.pointer none));clear Hw hh hf O;generalize dV ds=ff at *
  go_wp2_with fail
  generalize ((D.setCell (B+1:Nat) (.int .u64 0)).setCell ⟨B+1,1,none⟩ (.pointer none))=H at *;(try simp only[Exit.inBlock,Exit.then]);refine bodyPost_ret (v:=.tuple #[.agg #[.int .u64 0,.pointer none],false]) ?_ rfl ⟨by rw[H6.o];exact⟨0,none,rfl⟩,by rw[hB];exact HS.o⟩;have r0:H.cell? (B+1:Nat)=some (.int .u64 0):=ad Ho.o 0;have r1:H.cell? ⟨B+1,1,none⟩=some (.pointer none):=ad Ho.o 1;rw[lY rfl];clear z0 z1 f0 f1;go_simp
