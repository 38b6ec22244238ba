import Derived.Test.YtjlblidnfebmiaaGreatDoorY36
set_option maxRecDepth 100000
set_option maxHeartbeats 16000000
open Go Go.RowKit Go.Shelf
attribute [local go_sem] Oper.semAt_some
open Go.Proofs.Tryz
namespace Go.Proofs.YtjlblidnfebmiaaGreatDoor
def kq (x:aX × Value):List Value:=[.int .u64 (x.1.cp:Nat),x.2]
theorem Xr{g:aX}{a:Option Addr}{n c:Nat}:∀u∈kq (g,.slice a n c),u.oneCell'=true:=by
 intro u b
 simp[kq] at b
 rcases b with rfl|rfl <;> rfl
theorem Xs(w:World)(x:aX × Value)(t:TypeId):∀j u,(kq x)[j]?=some u->(w.alloc (.cells #[.int .u64 (x.1.cp:Nat),x.2] t)).cell? ((w.heap.size:Addr).add j)=some u:=by
 simp[Addr.add_lit,kq]
theorem Xt:(prog.info? 123).map (λi=>(i.zero,i.size,i.bytes))=some (some (.agg #[.int .u64 0,()]),2,32):=by kernel_rfl
structure zR (W:World) (v:Value) (l:List (aX × Value)) (N:Nat):Prop where
 row:W.ownsRow N 123 2 v l.length (l.flatMap kq)
 in_:∀x∈l,x.1.cp<18446744073709551616/\bK (av (λj=>j<N\/v.ownBlock=some j) W) x.2 x.1.dv
theorem Xu{W:World}{v:Value}{l:List (aX × Value)}{N K:Nat}(h:zR W v l N)(s:K<=N):ce (fresh K W) v (l.map Prod.fst):=by
 have i:=h.row
 rcases h.row.2 with⟨d,n⟩|⟨g,c,q,d,t,Ha,Hb,Hc,_⟩
 ·have:l=[]:=Qe n
  subst this;rw[d];exact⟨none,0,rfl,⟨lR,Nat.zero_le _⟩,λh=>absurd h (Nat.lt_irrefl 0)⟩
 ·subst d;have key:∀(l:List (aX × Value)) (k:Nat) (b:k<l.length) (j:Nat),j<2->(l.flatMap kq)[k*2+j]?=(kq l[k])[j]?:=by
   intro l
   induction l with
   | nil=>intro k b;simp at b
   | cons a l ih=>
    intro k b j f;rw[List.flatMap_cons];cases k with
    | zero=>rw[List.getElem?_append_left (by simp[kq];omega)];simp
    | succ k=>
     rw[List.getElem?_append_right (by simp[kq];omega)]
     have:=ih k (by simpa using b) j f
     simp only[List.getElem_cons_succ];rw[<- this]
     congr 1
     simp[kq]
     omega
  refine⟨_,c,by rw[Q9],by grind,λ_=>⟨g,0,λk=>(l.getD k (⟨0,[]⟩,.nilIface)).2,rfl,by grind[cC],λk b=>?_⟩⟩;rw[Q9] at b;have e:aG (l.map Prod.fst) k=l[k].1:=by simp[aG,b]
  have m:(l.getD k (⟨0,[]⟩,.nilIface)).2=l[k].2:=by simp[b]
  obtain⟨p,r⟩:=h.in_ _ (List.getElem_mem b);dsimp only;rw[e,m];refine⟨⟨?_,?_,p⟩,r.le (bF (λj _ o=>⟨λf=>o (.inl (Q1 f s)),rfl⟩) (lR))⟩
  ·rw[kR (by omega),Qd,i.cellAt (k*2) (by omega)];exact key l k b 0 (by decide)
  ·rw[kR (by omega),Qd,i.cellAt (k*2+1) (by omega)];exact key l k b 1 (by decide)
abbrev pV:=λ(x0:Nat) (x1:aJ)=>(.cells #[x0,.int .u64 x1.op,.int .u8 x1.nd,(x1.nb:Int),(x1.pol:Int)] 84:Obj)
abbrev pW:=λ(x0:aj) (x1:Option Addr) (x2:Nat)=>(.cells #[x0.nm,(x0.pr:Int),.slice x1 x0.cs.length x2] 49:Obj)
abbrev vS:=λ(x0:aF) (x1:Option Addr) (x2:Nat)=>(.cells #[x0.nm,(x0.am:Int),(x0.ab:Int),(x0.cm:Int),(x0.cb:Int),.slice x1 x0.ds.length x2] 65:Obj)
abbrev pX:=λ(x0:aC) (x1:Nat)=>(.cells #[.int .u64 x0.cp,x1] 87:Obj)
abbrev G4:=λ(B tb:Nat) (m:aJ) (sk:aC) (pb:Nat) (p:aj) (cb co cc Bc:Nat) (x:aF) (na:Option Addr) (nc:Nat) (w':World)=>cl w' B (0) tb/\cl w' B (1) (.int .u64 m.op)/\cl w' B (2) (.int .u8 m.nd)/\cl w' B (3) (m.nb:Int)/\cl w' B (4) (m.pol:Int)/\cl w' (B+1) (0) (.int .u64 sk.cp)/\cl w' (B+1) (1) pb/\cl w' (B+2) (0) p.nm/\cl w' (B+2) (1) (p.pr:Int)/\cl w' (B+2) (2) (.slice (some ⟨cb,co,none⟩) p.cs.length cc)/\cl w' Bc (0) x.nm/\cl w' Bc (1) (x.am:Int)/\cl w' Bc (2) (x.ab:Int)/\cl w' Bc (3) (x.cm:Int)/\cl w' Bc (4) (x.cb:Int)/\cl w' Bc (5) (.slice na x.ds.length nc)
theorem Xv{m:aJ}{s:aC}{J b o c a db:Nat}{O:Option Addr}{M:Nat}{p:aj}{cv:Value}{w:World}(hm:ey (av (λj=>j=a) w) J b o c m)(hs:eS w a db O M s)(hp:ba (av (λj=>j=a) w) cv p.cs)(hF:br p=0) :
  Calls prog 53 #[mV m J,sV s a,cQ p cv] w λe w'=>(∃L H N,e=.returned (.tuple #[.slice L H N,aD ((aW m s p).1:Nat)])/\((aW m s p).1=0->ce (fresh w w') (.slice L H N) (aW m s p).2))/\w.grownBy w' (some a):=by
 obtain⟨i0,hi,JN,Ju,Jl⟩:=info_parts Xt;unfold mV sV cQ;have HM:=qI hm;have HS:=qI hs;have HP:=qI hp;have Jb:=qI (jo hF);have JL:=hs.pool.lt;have H0:=qI hs.pool.at0;obtain⟨ca,cc,rfl,J0,hP⟩:=hp;have Jo:=qI hP;have JA:=Jb.o.2.2.1;have sz:(((w.alloc (pV J m)).alloc (pX s a)).alloc (pW p ca cc)).heap.size=w.heap.size+3:=by simp
 have hT:=qI (aY ((w.alloc (pV J m)).alloc (pX s a)) (pW p ca cc) (n:=w.heap.size+2) (by simp));have Jm:=qI (bQ (aY (w.alloc (pV J m)) (pX s a) (n:=w.heap.size+1) (by simp)) (pW p ca cc));have Je:=qI (bQ (bQ (aY w (pV J m) rfl) (pX s a)) (pW p ca cc));have HV:=qI ((((Q0 w w).alloc (lR) (pV J m)).alloc (by simp) (pX s a)).alloc (by simp;omega) (pW p ca cc));have Js:(((w.alloc (pV J m)).alloc (pX s a)).alloc (pW p ca cc)).cell? ⟨w.heap.size+2,2,none⟩=some (.slice ca p.cs.length cc):=ad hT.o 2;have H8:=qI (hs.pool.below HV.o);clear hm hs hP hF
 go_enter func53,ntmps53
 go_wp2_with fail
 generalize (((w.alloc (pV J m)).alloc (pX s a)).alloc (pW p ca cc))=U at *;generalize hB:w.heap.size=B at *;clear Js
 go_loopw [8,16] (λpv i wr=>∃(k:Nat) (d:aC) (l:List (aX × Value)),k<=p.cs.length/\i=.int .i64 k/\bU m s p.cs k=(0,l.map Prod.fst,d)/\l.length=k/\zR wr pv l U/\aM wr a db O M d.ds d.us/\wr.heap[B+1]?=some (.cells #[.int .u64 d.cp,a] 87 (0,0))/\Apart (λj=>j=a\/j=B+1\/U.heap.size<=j) U wr) (λ_ i _=>p.cs.length - (intOf i).toNat)
 case atStart=>exact⟨0,s,[],by omega,rfl,rfl,rfl,⟨Qw _ _ _ _,λx hx=>(List.not_mem_nil hx).elim⟩,H8.o,Jm.o,Apart.refl _ _⟩
 case round=>
  obtain⟨k,d,l,hk,rfl,hA,h7,Hz,Hs,hX,Hm⟩:=hrel;have JF:=qI hA;have Jg:=qI h7;have Hl:=qI Hz;have HJ:=qI Hs;have hE:=qI hX;have Jf:=qI Hm;have JV:=Hm.size;have JU:a<B:=by omega
  have Jq:l.length<=3:=by omega
  obtain⟨va,vc,Jh⟩:=fI Hz.row;subst Jh;have Hy:Hu (w.grownBy wr (some a)):=⟨Hm.os.trans HV.o.os,Hm.tape.trans HV.o.tape,Hm.output.trans HV.o.output,by omega,λj f C=>(Hm.block j (by omega) (λh=>by grind)).trans (HV.o.block j (by omega))⟩;have HO:=qI ((Hm.block B (by omega) (by omega)).trans Je.o);have H7:=qI ((Hm.block (B+2) (by omega) (by omega)).trans hT.o);have Hh:Hu (d.ds=s.ds/\d.cp<18446744073709551616):=⟨by grind[Xl],by have:=Xo m s p.cs HS.o.cp k;rw[hA] at this;exact this⟩;have H4:Hu (aR (av (λj=>j=a) w) (av (λj=>j=a) wr)):=bF (λj f C=>⟨C,Hy.o.block j f λe=>C (by injection e)⟩) Hy.o.size;clear hA h7 Hz Hs hX Hm
  by_cases j0:k<p.cs.length
  ·obtain⟨cb,co,dv,rfl,HD⟩:=Jo.o (by omega);obtain⟨k0,k1,k2,k3,k4,k5⟩:=HD.at j0;have He:=H4.o.trans (df);have k0:=He.cell _ _ _ k0;have k1:=He.cell _ _ _ k1;have k2:=He.cell _ _ _ k2;have k3:=He.cell _ _ _ k3;have k4:=He.cell _ _ _ k4;have k5:=He.cell _ _ _ k5;have Hf:=((HD.2 k j0).2).le H4.o;obtain⟨Y,nc,hq,ht,hf⟩:=id Hf;rw[hq] at k5 Hf;have Hq:=qI Hf;have Hv:=qI (Jb.o.2.2.2 (af p.cs k) (iM _ _ _ j0));have HG:=qI (Xp JF.o);have J1:(k:Int)<(p.cs.length:Int):=by omega
   obtain⟨x,hx⟩:∃x,x=af p.cs k:=⟨_,rfl⟩;rw[<- hx] at k0 k1 k2 k3 k4 k5 hq Hv HG Hq;clear HD Hf He hq hx ht hf;have Hb:=qI ((Q0 wr wr).alloc (lR) (vS x Y nc));have HF:=qI (aY wr (vS x Y nc) rfl);have J2:(wr.alloc (vS x Y nc)).heap.size=wr.heap.size+1:=by simp
   go_upto_region 5 with fail
   generalize wr.alloc (vS x Y nc)=X at *;clear k0 k1 k2 k3 k4 k5;generalize hBc:wr.heap.size=Z at *;have Hj:Hu (∀W,Apart (λj=>j=a) X W->(G4 B J m d a p cb co cc Z x Y nc) W):=λW D=>⟨ad ((D.block (B) (by omega) (by omega)).trans ((Hb.o.block B (by omega)).trans HO.o)) 0,ad ((D.block (B) (by omega) (by omega)).trans ((Hb.o.block B (by omega)).trans HO.o)) 1,ad ((D.block (B) (by omega) (by omega)).trans ((Hb.o.block B (by omega)).trans HO.o)) 2,ad ((D.block (B) (by omega) (by omega)).trans ((Hb.o.block B (by omega)).trans HO.o)) 3,ad ((D.block (B) (by omega) (by omega)).trans ((Hb.o.block B (by omega)).trans HO.o)) 4,ad ((D.block (B+1) (by omega) (by omega)).trans ((Hb.o.block (B+1) (by omega)).trans hE.o)) 0,ad ((D.block (B+1) (by omega) (by omega)).trans ((Hb.o.block (B+1) (by omega)).trans hE.o)) 1,ad ((D.block (B+2) (by omega) (by omega)).trans ((Hb.o.block (B+2) (by omega)).trans H7.o)) 0,ad ((D.block (B+2) (by omega) (by omega)).trans ((Hb.o.block (B+2) (by omega)).trans H7.o)) 1,ad ((D.block (B+2) (by omega) (by omega)).trans ((Hb.o.block (B+2) (by omega)).trans H7.o)) 2,ad ((D.block (Z) (by omega) (by omega)).trans HF.o) 0,ad ((D.block (Z) (by omega) (by omega)).trans HF.o) 1,ad ((D.block (Z) (by omega) (by omega)).trans HF.o) 2,ad ((D.block (Z) (by omega) (by omega)).trans HF.o) 3,ad ((D.block (Z) (by omega) (by omega)).trans HF.o) 4,ad ((D.block (Z) (by omega) (by omega)).trans HF.o) 5⟩
   have JP:Hu (aM X a db O M d.ds d.us):=HJ.o.below (by show Below _ _ _;rw[hBc];exact Hb.o);have HU:=qI λ(W:World) (v:Value) (R:ey W J b o c m) (h2:eS W a db O M d) (h3:bC (av (λj=>j=a) W) v x.ds)=>Xj (m:=m) (s:=d) (A:=J) (b:=b) (o:=o) (c:=c) (d:=a) (db:=db) (N:=O) (M:=M) (bR p.cs x.am) (v:=v) (ns:=x.ds) (w:=W) R h2 h3 Hv.o.2.2.2.2.2.1 λn C=>(Hv.o.2.2.2.2.2.2 n C).2.1;have hM:=qI (Xn (m:=m) (s:=d) (own:=bR p.cs x.am) (ns:=x.ds) Hh.o.2);obtain⟨G,hG⟩:∃G,G=(bM m d (bR p.cs x.am) x.ds):=⟨_,rfl⟩;rw[<- hG] at HU HG hM;clear hG;have Hn:Hu (∀W,Apart (λj=>j=a) X W->ey W J b o c m/\ba W (.slice (some ⟨cb,co,none⟩) p.cs.length cc) p.cs/\bC (av (λj=>j=a) W) (.slice Y x.ds.length nc) x.ds):=λW D=>by
    have l1:aR (av (λj=>j=a) wr) (av (λj=>j=a) W):=(po (Apart.of_below (K:=λj=>j=a) (by show Below _ _ _;rw[hBc];exact Hb.o)) λ_ _ h=>h).trans (Xq D);exact⟨HM.o.le ((H4.o.trans l1).trans (df)),HP.o.le ((H4.o.trans l1).trans (df)),Hq.o.le l1⟩
   go_cut [11,12] (λj3 j5 wc=>∃P L H N,j3=.pointer (some ⟨P,0,none⟩)/\j5=aD (G.1:Nat)/\wc.heap[P]?=some (.cells #[.int .u64 (G.2.1.cp:Nat),.slice L H N] 123 (0,0))/\X.heap.size<=P/\(G.1=0->bK (av (λj=>j<X.heap.size\/j=P) wc) (.slice L H N) G.2.1.dv/\aM wc a db O M d.ds G.2.2)/\Apart (λj=>j=a) X wc)
   case first=>
    have HY:Hu (Apart (λj=>j=a) X X.drew):=Apart.drew _ _;refine wp_region_held_drew (S:=G4 B J m d a p cb co cc Z x Y nc) (by kernel_rfl) (Hj.o _ HY.o) λT=>?_;have hU:Hu (aM X.drew a db O M d.ds d.us):=JP.o.below (bO (Q0 _ _));generalize X.drew=V at *;refine tk 0 ?_;refine tk 1 ?_;refine tk 2 ?_;refine tk 3 ?_;refine tk 5 ?_;refine tk 6 ?_;refine rd2 4 11 (λK u=>?_) λK u=>?_
    focus
     go_simp
     go_wp2_with fail
     refine (sL p x Y x.ds.length nc (w:=V) (Hn.o _ HY.o).2.1 Hv.o.2.1.1 Hv.o.2.1.2).mono ?_;rintro e W1 ⟨rfl,hv⟩;have Ht:=qI (HY.o.trans (Apart.of_below hv));have Ja:=qI (hU.o.below hv);clear hv
     go_wp2_with fail
     refine u.o _ _ (Hj.o _ Ht.o) λT=>?_;clear u K;refine rd2 7 11 (λK u=>?_) λK u=>?_
     focus
      go_simp
      go_wp2_with fail
      refine (HU.o W1 _ (Hn.o _ Ht.o).1 ⟨Ja.o,by rw[Hh.o.1];exact HS.o.nodes,Hh.o.2⟩ (Hn.o _ Ht.o).2.2).mono ?_;rintro e Q ⟨⟨q,r,t,rfl,Hx⟩,hJ⟩;have hh:=qI (Ht.o.trans (fv hJ (λj f _=>by injection f with f;exact f.symm)));have hu:=Ht.o.size;have hL:Hu (G.1=0->bK (fresh X Q) (.slice q r t) G.2.1.dv/\aM Q a db O M d.ds G.2.2):=λI=>⟨(Hx I).1.le (qU (λ_ _ _=>rfl) (lR) hu),(Hx I).2⟩
      clear hJ Hx
      go_wp2_with fail
      refine u.o _ _ (Hj.o _ hh.o) λT=>?_;clear u K;refine tk 8 ?_;refine tk 9 ?_;refine tk 10 ?_;refine rd 11 λK u=>?_;have Hp:=qI (hh.o.trans (Apart.alloc _ Q (.cells #[.int .u64 0,.slice none 0 0] 123)));have HA:=qI (aY Q (.cells #[.int .u64 0,.slice none 0 0] 123) rfl);have JE:Q.heap.size<(Q.alloc (.cells #[.int .u64 0,.slice none 0 0] 123)).heap.size:=by simp
      have Hg:=hh.o.size;have H6:Hu (G.1=0->bK (av (λj=>j<X.heap.size\/j=Q.heap.size) (Q.alloc (.cells #[.int .u64 0,.slice none 0 0] 123))) (.slice q r t) G.2.1.dv/\aM (Q.alloc (.cells #[.int .u64 0,.slice none 0 0] 123)) a db O M d.ds G.2.2):=λI=>⟨(hL.o I).1.le (bF (λj f C=>⟨by omega,Below.heap_alloc _ _ _ f⟩) (by simp)),(hL.o I).2.alloc _⟩
      go_simp
      go_wp2_with fail
      refine u.o _ _ (Hj.o _ Hp.o) λT=>?_;clear u K;generalize Q.alloc (.cells #[.int .u64 0,.slice none 0 0] 123)=F at *;generalize Q.heap.size=y at *
     rotate_left
     focus
      have HT:=qI (Ht.o.trans (Apart.alloc _ W1 (.cells #[.int .u64 0,.slice none 0 0] 123)));have Jx:=qI (aY W1 (.cells #[.int .u64 0,.slice none 0 0] 123) rfl);have Hw:W1.heap.size<(W1.alloc (.cells #[.int .u64 0,.slice none 0 0] 123)).heap.size:=by simp
      have Hg:=Ht.o.size;have JJ:=qI (Ja.o.alloc (.cells #[.int .u64 0,.slice none 0 0] 123));go_simp
      go_wp2_with fail
      refine u.o _ _ (Hj.o _ HT.o) λT=>?_;clear u K;generalize W1.alloc (.cells #[.int .u64 0,.slice none 0 0] 123)=W5 at *;refine rd 7 λK u=>?_;go_simp
      go_wp2_with fail
      refine (HU.o W5 _ (Hn.o _ HT.o).1 ⟨JJ.o,by rw[Hh.o.1];exact HS.o.nodes,Hh.o.2⟩ (Hn.o _ HT.o).2.2).mono ?_;rintro e F ⟨⟨q,r,t,rfl,HB⟩,H1⟩;have Hp:=qI (HT.o.trans (fv H1 (λj f _=>by injection f with f;exact f.symm)));have Jn:=HT.o.size;have Jc:=Hg;have HA:=qI ((H1.block _ Hw (λe=>by injection e with e;omega)).trans Jx.o);have H6:Hu (G.1=0->bK (av (λj=>j<X.heap.size\/j=W1.heap.size) F) (.slice q r t) G.2.1.dv/\aM F a db O M d.ds G.2.2):=λI=>⟨(HB I).1.le (bF (λj _ C=>⟨by have:=Hw;omega,rfl⟩) (lR)),(HB I).2⟩
      have Jp:=Q1 Hw H1.size;clear H1 HB
      go_wp2_with fail
      refine u.o _ _ (Hj.o _ Hp.o) λT=>?_;clear u K;refine tk 8 ?_;refine tk 9 ?_;refine tk 10 ?_;generalize W1.heap.size=y at *
    rotate_right
    focus
     have hC:=qI (HY.o.trans (Apart.alloc _ V (.cells #[.int .u64 0,.slice none 0 0] 123)));have JS:=qI (aY V (.cells #[.int .u64 0,.slice none 0 0] 123) rfl);have HZ:V.heap.size<(V.alloc (.cells #[.int .u64 0,.slice none 0 0] 123)).heap.size:=by simp
     have Hg:=HY.o.size;have JO:=qI (hU.o.alloc (.cells #[.int .u64 0,.slice none 0 0] 123));go_simp
     go_wp2_with fail
     refine u.o _ _ (Hj.o _ hC.o) λT=>?_;clear u K;generalize V.alloc (.cells #[.int .u64 0,.slice none 0 0] 123)=W8 at *;refine rd 4 λK u=>?_;go_simp
     go_wp2_with fail
     refine (sL p x Y x.ds.length nc (w:=W8) (Hn.o _ hC.o).2.1 Hv.o.2.1.1 Hv.o.2.1.2).mono ?_;rintro e W9 ⟨rfl,HK⟩;have HI:=qI (hC.o.trans (Apart.of_below HK));have JM:=qI (JO.o.below HK);have JK:=qI ((HK.block _ HZ).trans JS.o);have HC:=Q1 HZ HK.size;clear HK
     go_wp2_with fail
     refine u.o _ _ (Hj.o _ HI.o) λT=>?_;clear u K;refine rd 7 λK u=>?_;go_simp
     go_wp2_with fail
     refine (HU.o W9 _ (Hn.o _ HI.o).1 ⟨JM.o,by rw[Hh.o.1];exact HS.o.nodes,Hh.o.2⟩ (Hn.o _ HI.o).2.2).mono ?_;rintro e F ⟨⟨q,r,t,rfl,Hi⟩,Ho⟩;have Hp:=qI (HI.o.trans (fv Ho (λj f _=>by injection f with f;exact f.symm)));have h5:=HI.o.size;have hO:=Hg;have HA:=qI ((Ho.block _ HC (λe=>by injection e with e;omega)).trans JK.o);have H6:Hu (G.1=0->bK (av (λj=>j<X.heap.size\/j=V.heap.size) F) (.slice q r t) G.2.1.dv/\aM F a db O M d.ds G.2.2):=λI=>⟨(Hi I).1.le (bF (λj _ C=>⟨by have:=HC;omega,rfl⟩) (lR)),(Hi I).2⟩
     have h4:=Q1 HC Ho.size;clear Ho Hi
     go_wp2_with fail
     refine u.o _ _ (Hj.o _ Hp.o) λT=>?_;clear u K;refine tk 8 ?_;refine tk 9 ?_;refine tk 10 ?_;generalize V.heap.size=y at *
    all_goals
     refine rd 12 λK u=>?_;have ZQ:F.cell? y=some (.int .u64 0):=ad HA.o 0;have Z1:F.cell? ⟨y,1,none⟩=some (.slice none 0 0):=ad HA.o 1;have Ix:=bZ HA.o 0;have In:=bZ HA.o 1;have Jw:=Hg;have HX:Hu (∀j,j≠y->((F.setCell y (.int .u64 (G.2.1.cp:Nat))).setCell ⟨y,1,none⟩ (.slice q r t)).heap[j]?=F.heap[j]?):=λj f=>(set_other f).trans (set_other f)
     have hy:((F.setCell y (.int .u64 (G.2.1.cp:Nat))).setCell ⟨y,1,none⟩ (.slice q r t)).heap.size=F.heap.size:=by simp
     have hZ:Hu (Apart (λj=>j=a) X ((F.setCell y (.int .u64 (G.2.1.cp:Nat))).setCell ⟨y,1,none⟩ (.slice q r t))):=⟨Hp.o.os,Hp.o.tape,Hp.o.output,by omega,λj f C=>(HX.o j (by omega)).trans (Hp.o.block j f C)⟩;have JI:=qI (bd (bd HA.o 0 (.int .u64 (G.2.1.cp:Nat))) 1 (.slice q r t));have Jr:Hu (G.1=0->bK (av (λj=>j<X.heap.size\/j=y) ((F.setCell y (.int .u64 (G.2.1.cp:Nat))).setCell ⟨y,1,none⟩ (.slice q r t))) (.slice q r t) G.2.1.dv/\aM ((F.setCell y (.int .u64 (G.2.1.cp:Nat))).setCell ⟨y,1,none⟩ (.slice q r t)) a db O M d.ds G.2.2):=λI=>⟨(H6.o I).1.le (bF (λj _ C=>⟨C,HX.o j λe=>C (.inr e)⟩) (Nat.le_of_eq hy.symm)),((H6.o I).2.kept (dD _ y _) (λe=>by injection e with e;have e:a=y:=e;omega) (λR e=>by injection e with e;have e:db=y:=e;have:=(H0.o (by rw[<- Hh.o.1];exact R)).2.2;omega)).kept (dD _ ⟨y,1,none⟩ _) (λe=>by injection e with e;have e:a=y:=e;omega) (λR e=>by injection e with e;have e:db=y:=e;have:=(H0.o (by rw[<- Hh.o.1];exact R)).2.2;omega)⟩
     go_simp
     go_wp2_with fail
     refine u.o _ _ (Hj.o _ hZ.o) λT=>?_;clear u K;refine tk 13 ?_;refine Qn (by kernel_rfl) ?_ _
     go_wp2
     go_meet
     exact⟨_,_,_,_,rfl,rfl,JI.o,Hg,Jr.o,hZ.o⟩
   case rest=>
    obtain⟨P,L,H,N,rfl,rfl,ho,JH,h9,Hc⟩:=hcut;have H2:=qI ho;have hR:=qI h9;have hc:=qI Hc;have JX:=Hc.size;have JT:P<wc.heap.size:=(gS ho).1;have Hk:=qI ((Hc.block (B+1) (by omega) (by omega)).trans ((Hb.o.block (B+1) (by omega)).trans hE.o));have Jj:Hu (w.grownBy wc (some a)):=⟨Hc.os.trans (Hb.o.os.trans Hy.o.os),Hc.tape.trans (Hb.o.tape.trans Hy.o.tape),Hc.output.trans (Hb.o.output.trans Hy.o.output),by omega,λj f C=>(Hc.block j (by omega) λe=>C (by rw[e])).trans ((Hb.o.block j (by omega)).trans (Hy.o.block j f C))⟩;clear ho h9 Hc HU Hn Hj
    by_cases E:G.1=0
    ·have JB:=qI E;rw[E,show aD (((0:Nat)):Int)=.nilIface from rfl];rw[if_pos E] at HG;clear E;obtain⟨h8,h6⟩:=hR.o JB.o;have Jy:=qI h8;have Jz:=qI h6;clear h8 h6 hR;generalize hgc:G.2.1.cp=gc at *;have he:=qI hgc;clear hgc;have j2:=hM.o;have s0:wc.cell? (B+1:Nat)=some (.int .u64 d.cp):=ad Hk.o 0;have sf:=bZ Hk.o 0;have p0:wc.cell? ⟨P,0,none⟩=some (.int .u64 (gc:Nat)):=ad H2.o 0;have p1:wc.cell? ⟨P,1,none⟩=some (.slice L H N):=ad H2.o 1;have JZ:=mJ d.cp gc Hh.o.2 j2;have HE:P≠B+1:=by omega
     have Jt:=qI Jq;have JW:=qI (lK (A:=d.cp) gc Hh.o.2);have Hr:∀b,(Value.slice va l.length vc).ownBlock=some b->U.heap.size<=b/\b<Z:=λb D=>by rw[<- hBc];exact Hl.o.row.lt b D
     have hD:=qI (bd Hk.o 0 (.int .u64 (aI d.cp gc:Nat)));have H3:Hu (∀j,j≠B+1->(wc.setCell (B+1:Nat) (.int .u64 (aI d.cp gc:Nat))).heap[j]?=wc.heap[j]?):=λj f=>set_other f
     have H5:(wc.setCell (B+1:Nat) (.int .u64 (aI d.cp gc:Nat))).heap.size=wc.heap.size:=by simp
     have hI:Hu (aM (wc.setCell (B+1:Nat) (.int .u64 (aI d.cp gc:Nat))) a db O M d.ds G.2.2):=Jz.o.kept (dD _ (B+1:Nat) _) (λe=>by grind) (λR e=>by injection e with e;have e:db=B+1:=e;have:=(H0.o (by rw[<- Hh.o.1];exact R)).2.2;omega);have HW:Hu ((wc.setCell (B+1:Nat) (.int .u64 (aI d.cp gc:Nat))).ownsRow U 123 2 (.slice va l.length vc) l.length (l.flatMap kq)):=tG Hl.o.row λg hg=>(H3.o g (by have:=(Hr g hg).1;omega)).trans ((hc.o.block g (by have:=(Hr g hg).2;omega) (by have:=(Hr g hg).1;omega)).trans (Hb.o.block g (Hr g hg).2));have hl:Hu (Apart (λj=>j=a\/j=B+1\/U.heap.size<=j) U (wc.setCell (B+1:Nat) (.int .u64 (aI d.cp gc:Nat)))):=((Jf.o.trans (Apart.of_below (by show Below _ _ _;rw[hBc];exact Hb.o))).trans (hc.o.wide λj h=>.inl h)).trans (Apart.setCell (K:=λj=>j=a\/j=B+1\/U.heap.size<=j) (.inr (.inl rfl)) _ _ _);clear Hk;have JC:=qI H5;have Ji:=qI HE;generalize hw6:wc.setCell (B+1:Nat) (.int .u64 (aI d.cp gc:Nat))=W6 at *;have t0:W6.cell? ⟨P,0,none⟩=some (.int .u64 (gc:Nat)):=ad ((H3.o P HE).trans H2.o) 0;have t1:W6.cell? ⟨P,1,none⟩=some (.slice L H N):=ad ((H3.o P HE).trans H2.o) 1;have hN:=Xs W6 (⟨gc,G.2.1.dv⟩,.slice L H N) 123;dsimp only at hN;have HN:=qI hN;have Jd:U.heap.size<=(W6.alloc (.cells #[.int .u64 (gc:Nat),.slice L H N] 123)).heap.size:=by simp;omega
     clear hN H5
     go_wp2_with (at_builtin;refine wpList_append_lies _ rfl _ _ 99 rfl U 123 i0 (.agg #[.int .u64 0,.slice none 0 0]) 2 32 underlying99 hi JN Ju Jl rfl (by decide) _ _ _ rfl (HW.o.alloc _) ⟨_,0,none⟩ 1 1 (kq (⟨gc,G.2.1.dv⟩,.slice L H N)) rfl rfl HN.o (Xr) (by decide) (by grind[maxLen]) (by have:=Jt.o;omega) Jd (W6.heap.size+1) (by simp) ?_;intro g' j1 W8 HR Ha hS JQ)
     have H5:=JC.o;have JR:(W6.alloc (.cells #[.int .u64 (gc:Nat),.slice L H N] 123)).heap.size=wc.heap.size+1:=by simp_all
     have JY:=Ha.size;have HH:(Value.slice va l.length vc).ownBlock=some g'\/g'=wc.heap.size+1:=by rw[<- H5];exact hS
     have hY:Hu (∀j,j<wc.heap.size->j≠B+1->(Value.slice va l.length vc).ownBlock≠some j->W8.heap[j]?=wc.heap[j]?):=λj f j4 j6=>(Ha.block j (by omega) λe=>j6 e.symm).trans ((Below.heap_alloc _ _ _ (by omega)).trans (H3.o j j4))
     have hw:Hu (Apart (λj=>j=a\/j=B+1\/U.heap.size<=j) U W8):=(hl.o.trans (Apart.alloc _ _ _)).trans (fv Ha λj f _=>.inr (.inr (Hr j f).1));have ha:Hu (aM W8 a db O M d.ds G.2.2):=(hI.o.alloc _).kept Ha (λe=>by have:=(Hr a e.symm).1;omega) (λR e=>by have:=(Hr db e.symm).1;have:=(H0.o (by rw[<- Hh.o.1];exact R)).2.2;omega);have H9:Hu (W8.heap[B+1]?=some (.cells #[.int .u64 (aI d.cp gc:Nat),a] 87 (0,0))):=(Ha.block (B+1) (by omega) (λe=>by have:=(Hr (B+1) e.symm).1;omega)).trans ((Below.heap_alloc _ _ _ (by omega)).trans hD.o);have hV:G.2.1=⟨gc,G.2.1.dv⟩:=by rw[<- he.o]
     have HL:Hu (zR W8 (.slice g' (l.length+1) j1) (l++[(G.2.1,Value.slice L H N)]) U):=by
      refine⟨?_,λz hz=>?_⟩
      ·grind
      ·rcases Qi.1 hz with hz|hz
       ·obtain⟨z1,z2⟩:=Hl.o.in_ z hz;refine⟨z1,z2.le (bF (λj f C=>?_) (by omega))⟩;have hW:¬ j<U.heap.size:=λh=>C (.inl h)
        have JG:(Value.slice va l.length vc).ownBlock≠some j:=λh=>C (.inr h)
        refine⟨λh=>?_,?_⟩
        ·rcases h with h|h
         ·exact hW h
         ·have h:some g'=some j:=h;injection h with h
          rcases HH with HH|HH
          ·grind
          ·omega
        ·exact (hY.o j (by omega) (by omega) JG).trans ((hc.o.block j (by omega) (by omega)).trans (Hb.o.block j (by rw[<- hBc];exact f)))
       ·rw[Qm.1 hz];dsimp only;refine⟨by rw[hV];exact j2,Jy.o.le (bF (λj f C=>?_) (by omega))⟩;have hW:¬ j<X.heap.size:=λh=>C (.inl h)
        refine⟨λh=>?_,hY.o j f (by omega) (λh=>by grind)⟩
        rcases h with h|h
        ·omega
        ·have h:some g'=some j:=h;injection h with h
         rcases HH with HH|HH
         ·grind
         ·omega
     clear HR Ha hS hV
     go_roundw
     case rel=>
      exact⟨k+1,⟨aI d.cp gc,d.ds,G.2.2⟩,l++[(G.2.1,Value.slice L H N)],by omega,by go_num,by rw[HG.o,Qj];rfl,by rw[Q2,Jg.o];rfl,HL.o,ha.o,H9.o,hw.o⟩
     case measure=>simp[intOf];omega
    ·have Jk:=qI E;rw[if_neg E] at HG;have HQ:Hu ((aW m s p).1=G.1):=by
      unfold Hu aW;have e1:(bU m s p.cs (k+1)).1=G.1:=by rw[HG.o]
      have:=Xm (m:=m) (s:=s) (cs:=p.cs) (k:=k+1) (by rw[e1];exact E) p.cs.length (by omega)
      rw[e1] at this;exact this
     have hr:=eW E;have JD:=qI hr;rw[hr];clear E hr;generalize G.1=g1 at *
     go_wp2
     go_ret2;exact⟨⟨none,0,0,by rw[HQ.o,JD.o];rfl,λh=>absurd (HQ.o.symm.trans h) Jk.o⟩,Jj.o⟩
  ·have Jv:k=p.cs.length:=by omega
   subst Jv;have HQ:Hu (aW m s p=(0,l.map Prod.fst)):=by
    grind[Hu,aW]
   have hH:Hu (ce (fresh w wr) (.slice va l.length vc) (l.map Prod.fst)):=Xu Hl.o (by omega)
   go_wp2
   go_ret2;exact⟨⟨va,l.length,vc,by rw[HQ.o];rfl,λ_=>by rw[HQ.o];exact hH.o⟩,Hy.o⟩
