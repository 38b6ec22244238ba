import Derived.Test.YtjlblidnfebmiaaGreatDoorF41
import Derived.Test.YtjlblidnfebmiaaGreatDoorF42
import Derived.Test.YtjlblidnfebmiaaGreatDoorF29
set_option maxRecDepth 100000
set_option maxHeartbeats 16000000
open Go Go.RowKit Go.Shelf
attribute [local go_sem] Oper.semAt_some
open Go.Proofs.Tryz
namespace Go.Proofs.YtjlblidnfebmiaaGreatDoor
variable{Ba Bd Be Bm b f k n:Nat}{N:Nat->Prop}{W W' w:World}{c:dE}{dk:Dk}{hs:List af}{t t':bl}{v:Value}{x:Ac}{xs:List Ac}
theorem oL{B:Nat}{K:Nat->Prop}(a:Below B w W)(f:B<=W)(b:Apart K W W')(c:∀j,K j->B<=j):Below B w W':=
 ⟨b.os.trans a.os,b.tape.trans a.tape,b.output.trans a.output,Q5 a.size b.size,λj d=>(b.block j (by omega) (λe=>by have:=c j e;omega)).trans (a.block j d)⟩
theorem VW(w:World):Calls prog 14 #[.nilIface] w λe w'=>e=.returned (0:Int)/\w'=w:=by
 go_enter func14,ntmps14
 go_wp2
 go_ret;exact⟨rfl,rfl⟩
theorem FI(k:Nat)(w:World):Calls prog 14 #[aJ (k:Int)] w λe w'=>e=.returned (k:Int)/\w'=w:=by
 by_cases h:k=0
 ·subst h;exact VW w
 ·rw[eP h];exact N9 _ w
theorem VX(c:dE)(h v2:Value)(g o:Nat)(w:World)(n:gU w h c.l)(u:et w v2 g o c.ds):Calls prog 7 #[nX c h v2] w λe w'=>Ans e/\Below w w w':=by
 obtain⟨ca,cc,Hf⟩:∃ca cc,h=.slice ca c.l.length cc:=by
  rcases id n with⟨t,s,q,rfl⟩|⟨b,o,q,rfl,_⟩
  ·exact⟨s,q,by rw[t];rfl⟩
  ·exact⟨_,q,rfl⟩
 obtain⟨da,dc,Hb,m⟩:=u;subst Hf Hb;have r:=qI m;clear n m;unfold nX;generalize c.l.length=cl at *;have Ha:=qI ((Q0 w w).alloc (lR) (.cells #[.slice ca cl cc,.int .u64 (c.keep:Nat),(c.nb:Int),.slice da c.ds.length dc,(c.pol:Int)] 27));have Hc:=qI (bd w (.cells #[.slice ca cl cc,.int .u64 (c.keep:Nat),(c.nb:Int),.slice da c.ds.length dc,(c.pol:Int)] 27) rfl)
 by_cases j:70<cl
 ·go_enter func7,ntmps7
  go_wp2
  go_ret;exact⟨⟨_,rfl⟩,Ha.o⟩
 have Hi:decide (70<(cl:Int))=false:=Q7 (by omega)
 by_cases d:20<c.ds.length
 ·go_enter func7,ntmps7
  go_wp2
  go_ret;exact⟨⟨_,rfl⟩,Ha.o⟩
 have Hh:decide (20<(c.ds.length:Int))=false:=Q7 (by omega);have He:c.ds.length<=20:=by omega
 clear j d
 go_enter func7,ntmps7
 go_wp2_with fail
 generalize w.alloc (.cells #[.slice ca cl cc,.int .u64 (c.keep:Nat),(c.nb:Int),.slice da c.ds.length dc,(c.pol:Int)] 27)=X at *
 go_loopw [3] (λi wr=>∃k:Nat,k<=c.ds.length/\i=.int .i64 k/\wr=X) (λi _=>c.ds.length - (intOf i).toNat)
 case atStart=>exact⟨0,Nat.zero_le _,rfl,rfl⟩
 case round=>
  obtain⟨k,y,rfl,rfl⟩:=hrel;have x:wr.cell? ⟨w,3,none⟩=some (.slice da c.ds.length dc):=ad Hc.o 3
  by_cases f:k<c.ds.length
  ·obtain⟨rfl,Hg,l⟩:=r.o (by omega);have v:wr.cell? ⟨g,o+k*3,none⟩=some (.string (aC c.ds k).kind):=(Ha.o.cell (p:=⟨g,o+k*3,none⟩) Hg).trans (l k f).1;clear l;generalize (aC c.ds k).kind=kd at *
   by_cases a:30<kd.size
   ·go_wp2
    go_ret;exact⟨⟨_,rfl⟩,Ha.o⟩
   ·have Hj:decide (30<(kd.size:Int))=false:=Q7 (by omega);clear a
    go_wp2
    go_roundw
    case rel=>exact⟨k+1,by omega,by go_num,trivial⟩
    case measure=>simp[intOf];omega
  ·go_wp2
   go_ret;exact⟨⟨_,rfl⟩,Ha.o⟩
theorem yE(h:aI w N Ba Bd Be Bm t dk n):Calls prog 12 #[Ba] w λe w'=>∃a c,e=.returned (.slice a t.hs.length c)/\aY (fresh w w') (.slice a t.hs.length c) t.hs/\Below w w w':=by
 obtain⟨g,Ha,Hb,x,Hc,Hg,Hf,He,f,b,r,i,d,db,o,v,s,k,j,y,u,q,m,p⟩:=h;obtain⟨l,a2,a3⟩:=cW.1 g.held;exact E6 Ba f t.m Bd Be i s.cp d t.hs w k (j.le (cJ _ _)) a2 (by omega)
theorem VY{p:aj}(h:(bi t p).1=0):dK (bi t p).2 p.nm=true:=by
 rcases two (dK (bi t p).2 p.nm) with e|e
 ·exact e
 ·exfalso
  have a:=Ch h;have b:=DS h;rw[Fz e] at a;rw[a] at b;omega
theorem VZ{nm:ByteArray}(h:W.heap[b]?=some (.cells #[nm,(0:Int),(0:Int),(0:Int),(0:Int),.slice none 0 0] 65 (0,0))):aQ W (.slice b 1 1) [⟨nm,0,0,0,0,[]⟩]:=by
 have c:b<W:=(gS h).1;refine⟨_,_,rfl,⟨lR,by decide⟩,λ_=>⟨b,0,λ_=>.slice none 0 0,rfl,c,λk a=>?_⟩⟩;have Ha:k=0:=by simp at a;exact a
 subst Ha;refine⟨λj d=>?_,⟨none,0,rfl,by simp[ae],λh=>by simp[ae] at h⟩⟩
 have:=ad h j
 simp only[Nat.zero_mul,Qd];rw[this]
 have:j=0\/j=1\/j=2\/j=3\/j=4\/j=5:=by omega
 rcases this with rfl|rfl|rfl|rfl|rfl|rfl <;> rfl
theorem V6(h:W.heap[b]?=some (.cells #[(0:Int),(0:Int),(0:Int)] 74 (0,0))):gU W (.slice b 1 1) [⟨0,0,0⟩]:=by
 refine .inr ⟨b,0,1,rfl,λk c=>?_⟩;have a:k=0:=by simp at c;exact c
 subst a;exact⟨ad h 0,ad h 1,ad h 2⟩
abbrev jJ:Nat->Prop:=λ_=>False
abbrev ku:=λ(x0 x1 x2:Nat)=>(.cells #[x0,x1,x2] 36:Obj)
abbrev sd:=(.cells #[.string ⟨#[120]⟩,(0:Int),(0:Int),(0:Int),(0:Int),.slice none 0 0] 65:Obj)
abbrev yF:=(.cells #[(0:Int),(0:Int),(0:Int)] 74:Obj)
theorem V7(w:World)(i:bJ w)(s:cS w):Calls prog 6 #[] w λe w'=>e=.returned true/\Below w w w':=by
 have Hh:=qI ((Q0 w w).alloc (lR) (yF));have I:=qI (bd w (yF) rfl);have p:=qI i;have H:=qI s;have H1:1<w.heap.size:=i.2;clear i s
 go_enter func6,ntmps6
 go_wp2_with fail
 generalize w.alloc (yF)=X at *;refine (FG gh (.slice w 1 1) (.slice none 0 0) 0 0 X (V6 I.o) ⟨none,0,rfl,λh=>by simp[gh] at h⟩ (by decide) (p.o.below Hh.o) (H.o.below Hh.o)).mono ?_;rintro e a ⟨Hq,Hb,Hf⟩;clear Hq;obtain⟨b,c,d,f,rfl,D,l1,l2,l3,l4⟩:=Hb Rv;have hX:w<=X.heap.size:=Hh.o.size;have x:Hu (Below w w a):=Hh.o.trans (Hf.mono hX);have Hm:=qI D;have k:∀j,three b c f j->w.heap.size<=j:=λj hj=>by
  rcases hj with e|e|e <;> omega
 have F:=qI k;have T:Hu (¬ three b c f 1):=λe=>by have:=k _ e;omega
 clear Hb Hf D k;have Hx:=qI (x.o.alloc x.o.size (ku c d b));have y:=qI ((Q0 a a).alloc (lR) (ku c d b));have Hy:=qI (bd a (ku c d b) rfl);have HS:Hu ((a.alloc (ku c d b)).heap.size=a.heap.size+1):=by unfold Hu;simp
 have g:cl (a.alloc (ku c d b)) a (2) b:=ad Hy.o 2
 go_upto_region 4 with fail
 generalize a.alloc (ku c d b)=Y at *;have Hj:=qI (Hx.o.alloc Hx.o.size (sd));have K:=qI (y.o.alloc y.o.size (sd));have J:=qI (bd Y (sd) rfl);have C:=qI (cC Hy.o (sd))
 go_wp2_with fail
 clear g;generalize Y.alloc (sd)=Z at *;have H5:b<a:=by
  obtain⟨_,_,_,_,_,_,_,_,_,_,_,_,_,_,_,_,_,k1,_⟩:=Hm.o;exact k1.lt
 obtain⟨L,H4,S⟩:=Hm.o.eng.lt;have P:=HS.o;have Hk:=qI (FH jJ b c d f ⟨cB gh,gh.ds,[]⟩ Dk.fresh 0 jE (.slice Y 1 1) Z (Hm.o.keep K.o) (VZ (by rw[b9 (by rintro (e|e|e|e) <;> first|exact e|omega)];exact J.o)) (p.o.below Hj.o) (by omega) (λl hl=>by
  have:l=[]:=by simpa using hl
  subst this;exact Fl (l:=[]) (by simp)))
 unfold cz at Hk;clear P;refine Hk.o.mono ?_;clear Hk;rintro e R ⟨rfl,⟨n,z,t,Hp⟩,Hi⟩;have Ha:(bi ⟨cB gh,gh.ds,[]⟩ jE).1=0:=Rw;have Hn:=qI (VY Ha);have Hr:Hu ((bi ⟨cB gh,gh.ds,[]⟩ jE).2.length=1):=DS Ha;have Hg:Hu (ii (bi ⟨cB gh,gh.ds,[]⟩ jE).2 jE.nm=[]):=Ch Ha;have HQ:z<=36:=by
  have h1:=uo (aN []) (aN (bi ⟨cB gh,gh.ds,[]⟩ jE).2);have h2:=yb Hp.inv.held;dsimp only at t h2;omega
 rw[Ha];generalize (bi ⟨cB gh,gh.ds,[]⟩ jE).2=G at *;have Hv:=qI Hp;have E:=qI (oL Hj.o Hj.o.size Hi F.o);have Hl:Hu (∀W,Apart (three b c f) Z W->bJ W):=λW o=>VI (p.o.below Hj.o) o T.o
 have Hs:=qI Hi;have q:Hu (¬ three b c f a):=λe=>by rcases e with e|e|e <;> omega
 have hZ:a<Z.heap.size:=(gS C.o).1;have A:=qI ((Hi.block a hZ q.o).trans C.o);have g:cl R a (2) b:=ad A.o 2;rw[show aJ (((0:Nat)):Int)=.nilIface from rfl];clear Ha t Hp Hi
 go_wp2_with fail
 refine (yE Hv.o).mono ?_;rintro e v ⟨a5,c5,rfl,_,He⟩;dsimp only;rw[Hr.o];have Ht:=qI (E.o.trans (He.mono E.o.size));have Q:=qI (Hs.o.trans (Apart.of_below He));have M:=qI (Hv.o.keep He);have H0:=He.size;have G:=Hs.o.size;have Hz:=qI ((He.block a (by omega)).trans A.o);have m:cl v a (2) b:=ad Hz.o 2;clear He g;have Hc:=qI (FA jJ b c d f _ n z jE.nm v M.o (by omega) λW o=>Hl.o W (Q.o.trans o));dsimp only at Hc;rw[Hn.o,Hg.o] at Hc;unfold jE at Hc;dsimp only at Hc
 go_wp2_with fail
 refine Hc.o.mono ?_;rintro e W6 ⟨rfl,⟨H2,n6,N,Hw⟩,Ho⟩;rw[show aJ (((if True then 0 else 6:Nat)):Int)=.nilIface from rfl];have U:=qI Hw;have u:=qI (oL Ht.o Ht.o.size Ho F.o);have O:=qI ((Ho.block a (by omega) q.o).trans Hz.o);have B:cl W6 a (2) b:=ad O.o 2;clear N Hw Ho m Hc
 go_wp2_with fail
 refine (yE U.o).mono ?_;rintro e W7 ⟨a7,c7,rfl,_,r⟩;dsimp only;have V:=qI (u.o.trans (r.mono u.o.size));clear r
 go_wp2
 go_ret;exact⟨rfl,V.o⟩
theorem V8(t:bl)(p:aj):((bi t p).1≠0/\(bi t p).2=t.hs)\/((bi t p).1=0/\∃gs,(bi t p).2=cD t.hs ⟨p,gs⟩):=by
 unfold bi
 split
 ·rename_i h;exact .inl ⟨h,rfl⟩
 split
 ·exact .inl ⟨by simp,rfl⟩
 split
 ·exact .inl ⟨by simp,rfl⟩
 split
 ·exact .inl ⟨by simp,rfl⟩
 split
 ·rename_i h;exact .inl ⟨h,rfl⟩
 split
 ·exact .inl ⟨by simp,rfl⟩
 ·exact .inr ⟨rfl,_,rfl⟩
open Classical in
theorem V9(hs:List af)(i:Nat)(x:af):dS (aN hs) (aN (hs.take i++x :: hs.drop i))<=x.gs.length:=by
 have e:aN (hs.take i++x :: hs.drop i)=aN (hs.take i)++((List.range x.gs.length).map (pO x)++aN (hs.drop i)):=by
  unfold aN;rw[List.flatMap_append,List.flatMap_cons]
 have a:=uK (yC (List.take_sublist i hs));have b:=uK (yC (List.drop_sublist i hs));unfold dS at a b ⊢;rw[e,List.filter_append,List.filter_append,Q2,Q2,a,b]
 have:=List.length_filter_le (λr=>decide (r ∉ aN hs)) ((List.range x.gs.length).map (pO x))
 rw[Q9,List.length_range] at this;omega
theorem Wa(h:fY t)(p:aj):dS (aN t.hs) (aN (bi t p).2)<=3:=by
 rcases V8 t p with a|⟨_,gs,a⟩
 ·rw[a.2,uK λ_ h=>h];omega
 ·have hi:=(Nc h p).held;have hi:bw (bi t p).2=0:=hi;rw[a] at hi ⊢;have c:(⟨p,gs⟩:af)∈cD t.hs ⟨p,gs⟩:=by unfold cD;simp
  obtain⟨_,a2,_⟩:=cW.1 hi;obtain⟨b1,b2,_⟩:=a2 _ c;have b:=(jv b1).2.2.1
  have:=V9 t.hs (dD t.hs p.nm) ⟨p,gs⟩
  unfold cD;dsimp only at this b2 b ⊢;omega
section
variable{N:Nat->Prop}{Ba Bd Be Bm:Nat}{t:bl}{dk:Dk}{n:Nat}{w:World}
theorem yG{p:aj}{cv:Value}(c:aI w N Ba Bd Be Bm t dk n)(g:aQ (au (four N Ba Bd Bm) w) cv p.cs)(f:bJ w)(h:n+36<=1000):Calls prog 19 #[Ba,cz p cv] w λe w'=>e=.returned (aJ ((bi t p).1:Nat))/\(∃a b,(b<=n+3/\io w w' Ba)/\aI w' N Ba Bd Be Bm ⟨t.m,t.ds,(bi t p).2⟩ a b)/\Apart (three Ba Bd Bm) w w':=by
 have Hf:=(cW.1 c.inv.held).1;refine (FH N Ba Bd Be Bm t dk n p cv w c g f h λl i=>?_).mono ?_
 ·have Hc:l.length=t.hs.length:=by rw[<- i,Q9]
  exact VH (by rw[Hc];unfold dD;exact List.countP_le_length) (by omega)
 ·rintro e w' ⟨rfl,⟨a,b,⟨He,Ha⟩,Hb⟩,d⟩;exact⟨rfl,⟨a,b,⟨by have:=Wa c.inv p;omega,Ha⟩,Hb⟩,d⟩
theorem yH(h:aI w N Ba Bd Be Bm t dk n):Calls prog 12 #[Ba] w λe w'=>∃a c,e=.returned (.slice a t.hs.length c)/\aY (au (three Ba Bd Bm) w') (.slice a t.hs.length c) t.hs/\Below w w w':=by
 obtain⟨l,m,i⟩:=h.eng.lt;have k:Ba<w:=by
  obtain⟨_,_,_,_,_,_,_,_,_,_,_,_,_,_,_,_,_,g,_⟩:=h;exact g.lt
 refine (yE h).mono ?_;rintro e w' ⟨a,c,rfl,d,b⟩;refine⟨a,c,rfl,d.le (bE (λj _ f=>⟨λe=>f ?_,rfl⟩) (lR)),b⟩
 rcases e with e|e|e
 all_goals show j<w.heap.size;omega
theorem Wb(h:aI w N Ba Bd Be Bm t dk n):Calls prog 21 #[Ba] w λe w'=>(∃s,be t.m t.ds t.hs=some s/\e=.returned (.int .u64 (s.cp:Nat)))/\w'=w:=by
 obtain⟨d,Ha,Hb,k,Hc,Hg,Hf,He,p,b,u,x,o,db,r,v,s,c,m,l,a,i,f,g⟩:=h;have q:cl w Ba (8) (.int .u64 s.cp):=ad c 8;have j:=qI a;clear d Ha Hb k Hc Hg Hf He c m l a i f g
 go_enter func21,ntmps21
 go_wp2
 go_ret;exact⟨⟨s,j.o,rfl⟩,rfl⟩
end
section
variable{N:Nat->Prop}{Ba Bd Be Bm:Nat}{t:bl}{dk:Dk}{n:Nat}{w:World}
end
section
variable{N:Nat->Prop}{Ba Bd Be Bm:Nat}{t:bl}{dk:Dk}{n:Nat}{w:World}
theorem aI.lts(h:aI w N Ba Bd Be Bm t dk n):(Ba<w/\Bd<w/\Bm<w)/\Be<w:=by
 obtain⟨b,c,a⟩:=h.eng.lt;obtain⟨_,_,_,_,_,_,_,_,_,_,_,_,_,_,_,_,_,d,_⟩:=h;exact⟨⟨d.lt,c,a⟩,b⟩
theorem aI.ost(h:aI w N Ba Bd Be Bm t dk n):∃a,w.heap[Ba]?=some (Obj.cells a 98 (0,0))/\∃p,w.cell? Ba=some (.pointer p):=by
 obtain⟨_,_,_,_,_,_,_,_,_,_,_,_,_,_,_,_,_,b,_⟩:=h;exact⟨_,b,_,ad b 0⟩
theorem aI.noInt(h:aI w N Ba Bd Be Bm t dk n):∀j,three Ba Bd Bm j->∀(b:Array Value) (z:Nat × Nat),w.heap[j]?≠some (Obj.cells b 3 z):=by
 obtain⟨i,g,_⟩:=h.ost;have ag:=h.eng.disk;unfold aU at ag;obtain⟨l,d,_⟩:=h.eng.map;obtain⟨_,m,⟨k,c,f,_⟩,_⟩:=d;rintro j (e|e|e) b z a <;> subst e
 ·rw[g] at a;injection a with a
  injection a with _ h2 _
  exact absurd h2 (by decide)
 ·rw[ag] at a;injection a with a
  injection a with _ h2 _
  exact absurd h2 (by decide)
 ·rw[f] at a;injection a with a
  cases a
theorem aI.not3(h:aI w N Ba Bd Be Bm t dk n){j:Nat}{v:Value}(a:w.cell? j=some v)(k:∀p,v≠.pointer p)(f:∀b,v≠.bool b):¬ three Ba Bd Bm j:=by
 obtain⟨_,_,p,g⟩:=h.ost;have ag:=h.eng.disk;unfold aU at ag;have Hb:=ad ag 0;obtain⟨m,d,_⟩:=h.eng.map;have Ha:∀v,w.cell? Bm≠some v:=λv e=>by
  obtain⟨_,o,⟨l,c,i,_⟩,_⟩:=d
  simp[World.cell?,i] at e
 rintro (e|e|e) <;> subst e
 ·rw[g] at a;exact k p (Ql a).symm
 ·rw[Hb] at a;exact f _ (Ql a).symm
 ·exact Ha v a
end
theorem aI.wide{B:Nat->Prop}{g d m f:Nat}{l:Dk}{C:Nat}(h:aI W jJ Ba Bd Be Bm t dk n)(M:t.hs=[])(k:aI W B g d m f t' l C)(hf:¬ three g d f Ba/\¬ three g d f Bd/\¬ three g d f Bm/\¬ three g d f Be):aI W (three g d f) Ba Bd Be Bm t dk n:=by
 obtain⟨⟨T,U,S⟩,_⟩:=k.lts;obtain⟨H,O,Ha,I,L,Q,R,A,r,b,c,E,w,db,z,N,s,P,q,i,D,o,x,G⟩:=h;have u:¬ four jJ Ba Bd Bm r:=fk i.topo.cell;have nb:¬ four jJ Ba Bd Bm b:=fk (i.topo.cells 0 Ha).1;have c1:=(cJ _ _).cell _ _ _ i.topo.cell;have c2:=(cJ _ _).cell _ _ _ (i.topo.cells 0 Ha).1;rw[Qd,Nat.zero_mul] at c2;have t3:=k.not3 c1 (λ_ e=>by cases e) (λ_ e=>by cases e);have y:=k.not3 c2 (λ_ e=>by cases e) (λ_ e=>by cases e);have K:=k.not3 o.pool.row (λ_ e=>by cases e) (λ_ e=>by cases e);have up:∀j,¬ three g d f j->¬ four jJ Ba Bd Bm j->¬ four (three g d f) Ba Bd Bm j:=λj a b e=>e.elim a λe=>b (.inr e)
 refine⟨H,O,Ha,I,L,hf,λj F=>by rcases F with e|e|e <;> omega,A,r,b,c,E,w,db,z,N,s,P,?_,⟨lh i.topo ?_ ?_ ?_,i.good,i.op,i.nd,i.pol⟩,D,o,up _ K x,λp=>up _ (k.not3 (v:=.string (aC s.ds 0).kind) ?_ (λ_ e=>by cases e) (λ_ e=>by cases e)) (G p)⟩
 ·rw[M] at q ⊢;obtain⟨a2,c2,J,m2,_⟩:=q;exact⟨a2,c2,J,m2,λh=>absurd h (by simp)⟩
 ·rw[b9 u,b9 (up _ t3 u)]
 ·rw[b9 nb,b9 (up _ y nb)]
 ·rw[bX,bX];exact lR
 ·have:=(o.pool.cells 0 p).1
  rw[Nat.zero_mul] at this;exact this
def Wc (w:World) (N:Nat->Prop) (Ba Bd Be Bm:Nat) (t:bl) (n:Nat) (us:List ap) (most:Int) (e:Ending) (w':World):Prop:=
 ∃(qs:List aj) (g:Nat) (nv:Value),e=.returned (.tuple #[nv,.nilIface])/\rC w' nv ((qs.take g).map aj.nm)/\rB us (t.hs.map af.pod) qs/\fJ us qs most 0 g/\(∃dk' n',(n'<=n/\io w w' Ba)/\aI w' N Ba Bd Be Bm ⟨t.m,t.ds,dr t.hs ((qs.take g).map aj.nm)⟩ dk' n')/\Apart (three Ba Bd Bm) w w'
theorem Wd(h:fY t):oz (t.hs.map af.pod):=by
 obtain⟨e,a2,_⟩:=cW.1 h.held;refine⟨by rw[Q9];omega,λx c=>?_⟩;obtain⟨y,b,rfl⟩:=Qk.1 c;have a:=(a2 y b).1;have s1:=(kG (jv a).1).2;have d:y.pod.nm.data.toList.length=y.pod.nm.size:=by simp
 exact⟨qE a,by omega⟩
section
variable{N:Nat->Prop}{Ba Bd Be Bm:Nat}{t:bl}{dk:Dk}{n:Nat}{w:World}
theorem We{uv:Value}{us:List ap}{a:Int}(h:aI w N Ba Bd Be Bm t dk n)(v:bv w uv us)(f:oy us)(y:-9223372036854775808<=a)(p:a<=9223372036854775807)(hn:n+36<=1000)(B:∀W,Apart (three Ba Bd Bm) w W->bJ W) :
  Calls prog 32 #[Ba,uv,a] w (Wc w N Ba Bd Be Bm t n us a):=by
 have G:=h;have HQ:=(cW.1 h.inv.held).1;obtain⟨F,h2,HN,h3,h4,P,h6,V,tb,b,c,Z,pb,db,ao,pc,s,O,J,k3,Y,k5,k6,k7⟩:=h;have u:aY w Z t.hs:=J.le (cJ _ _);obtain⟨ha,hc,HR,_⟩:=id u;subst HR;have x7:cl w Ba (7) (.slice ha t.hs.length hc):=ad O 7;obtain⟨ua,uc,HX,_⟩:=id v;subst HX;have x:=qI G;have HL:=qI u;have Q:=qI v;have HT:=qI B;have X:=qI f;have Hu:=qI (Wd F);clear G u v B f F h2 HN h3 h4 P h6 V O J k3 Y k5 k6 k7
 go_enter func32,ntmps32
 go_wp2_with fail
 refine (DR _ t.hs w HL.o (by omega)).mono ?_;rintro e W1 ⟨pv,rfl,Hb,Hs⟩;have Hg:=qI (uy Hb);have Hj:=qI Hs;clear Hb Hs x7;obtain⟨j,Hi⟩:∃j,j=t.hs.map af.pod:=⟨_,rfl⟩;rw[<- Hi] at Hg Hu;have H:=qI Hi;have Hx:j.length=t.hs.length:=by rw[Hi,Q9]
 have HP:=qI Hx;clear Hi Hx;obtain⟨pa,H3,T,_⟩:=id Hg.o;subst T
 go_wp2_with fail
 refine (T5 _ _ j us a W1 Hg.o (Q.o.below Hj.o) Hu.o X.o y p).mono ?_;rintro e W2 ⟨⟨nv,i,g,rfl,Ht,E,hle⟩,A⟩;have Ha:=qI (Hj.o.trans (A.mono Hj.o.size));have Ho:=qI E;have z:=qI hle;have C:=qI Ht;have Hm:=qI (x.o.keep Ha.o);obtain⟨na,nc,HS,HO,Hy⟩:=Ht;subst HS;have Hv:=qI Hy;clear A E hle Hy HO Hj Hg;have Hn:((i.take g).map aj.nm).length<=t.hs.length:=by
  have:=Ho.o.1.length_eq
  have:=HP.o
  rw[Q9,Qu];omega
 obtain⟨L,m⟩:∃L,L=(i.take g).map aj.nm:=⟨_,rfl⟩;rw[<- m] at Hn Hv C;rw[<- m];have Hh:=qI m;clear m
 by_cases d:L.length=0
 ·have K:L=[]:=Qe d;have Hr:=qI K;rw[d];clear d K Hn
  go_wp2
  go_ret2;refine⟨i,g,.slice none 0 0,rfl,?_,by rw[<- H.o];exact Ho.o,z.o,⟨dk,n,⟨lR,.inl (Ha.o.block Ba x.o.poolAt.1)⟩,?_⟩,Apart.of_below Ha.o⟩
  ·rw[<- Hh.o,Hr.o];exact⟨none,0,rfl,lR,λh=>absurd h (by simp)⟩
  ·rw[<- Hh.o,Hr.o];exact Hm.o
 ·have H0:((L.length:Int) == 0)=false:=by rw[Qr];omega
  obtain⟨nb,HW,Hp,He⟩:=Hv.o (by omega);subst HW;have D:=He 0 (by omega);have Hf:=Hm.o.not3 D (λ_ e=>by cases e) (λ_ e=>by cases e);have U:=qI Hf;have Hc:0<t.hs.length:=by omega
  have Hw:=qI (Fy N Ba Bd Be Bm t dk n L nb 0 nc W2 Hm.o (λk l=>by rw[Qd,He k l];simp[l]) ⟨λe=>Hf (.inr (.inl e)),λe=>Hf (.inr (.inr e))⟩ Hp (by omega) Hc hn λW hW=>HT.o W ((Apart.of_below Ha.o).trans hW));have H1:=qI He;have H2:=qI Hp;have HZ:=qI d;clear D Hf He Hp d Hc Hn
  go_wp2_with fail
  refine Hw.o.mono ?_;rintro e W3 ⟨rfl,⟨o,S,⟨Hk,Hq⟩,I⟩,Hz⟩;have HJ:=qI I;have HY:=qI (Hq.old Ha.o x.o.poolAt.1);have Hl:=qI Hz;clear I Hq Hz Hw
  go_wp2
  go_ret2;refine⟨i,g,.slice nb L.length nc,rfl,?_,by rw[<- H.o];exact Ho.o,z.o,⟨o,S,⟨Hk,HY.o⟩,by rw[<- Hh.o];exact HJ.o⟩,(Apart.of_below Ha.o).trans Hl.o⟩;rw[<- Hh.o];obtain⟨R,c',q,q',r'⟩:=C.o;refine⟨R,c',q,q',λh0=>?_⟩;obtain⟨r,M,gl,gc⟩:=r' h0;have eg:r=nb:=by
   rw[M] at q;injection q with e1
   injection e1 with e1
   injection e1 with e1
   exact e1.symm
  subst eg;exact⟨r,M,Q1 gl Hl.o.size,λk l=>(lW (Hl.o.block r gl U.o) k).trans (gc k l)⟩
end
def jK (w:World) (Ba j:Nat):Prop:=∃pb n c,w.cell? ⟨Ba,9,none⟩=some (.pointer (some ⟨pb,0,none⟩))/\0<n/\w.cell? ⟨pb,0,none⟩=some (.slice j n c)
theorem jK.base{j base:Nat}(h:jK w Ba j)(e:dA base w Ba):base<=j:=by
 obtain⟨a,n,c,b,f,d⟩:=h;exact (e a b).2 j n c f d
structure p6 (W W':World):Prop where
 size:W<=W'.heap.size
 cell:∀(b o:Nat) (v:Value),(∀x,v≠.bool x)->W.cell? ⟨b,o,none⟩=some v->W'.cell? ⟨b,o,none⟩=some v
theorem bD.nb{f:List Int}(h:bD W v f)(l:p6 W W'):bD W' v f:=by
 obtain⟨j,c,i,m,q⟩:=h;refine⟨j,c,i,m,λg=>?_⟩;obtain⟨b,o,p,a,d⟩:=q g;exact⟨b,o,p,Q1 a l.size,λk n=>l.cell _ _ _ (λ_ e=>by cases e) (d k n)⟩
theorem bv.nb{ds:List ap}(h:bv W v ds)(l:p6 W W'):bv W' v ds:=by
 obtain⟨g,c,f,i,m⟩:=h;refine⟨g,c,f,i,λd=>?_⟩;obtain⟨b,o,j,Hb,Ha⟩:=m d;exact⟨b,o,j,Q1 Hb l.size,λk a=>⟨l.cell _ _ _ (λ_ e=>by cases e) (Ha k a).1,l.cell _ _ _ (λ_ e=>by cases e) (Ha k a).2⟩⟩
theorem Wf{x:aB}{d:Value}(h:v∈di x d)(ag:∀b,d≠.bool b):∀b,v≠.bool b:=by
 intro b e;subst e
 simp[di] at h
 exact ag b h.symm
theorem aQ.nb{cs:List aB}(h:aQ W v cs)(l:p6 W W'):aQ W' v cs:=by
 obtain⟨i,c,r,m,p⟩:=h;refine⟨i,c,r,m,λq=>?_⟩;obtain⟨b,o,aC,n,Hb,Ha⟩:=p q;refine⟨b,o,aC,n,Q1 Hb l.size,λk d=>⟨λj f=>?_,(Ha k d).2.nb l⟩⟩;have a:j<(di (ae cs k) (aC k)).length:=f;rw[Qf a];refine l.cell _ _ _ (Wf (List.getElem_mem a) λ_ e=>?_) (((Ha k d).1 j f).trans (Qf a));obtain⟨_,_,g,_⟩:=(Ha k d).2;rw[g] at e;cases e
theorem b7.nb{gs:List aR}(h:b7 W v gs)(l:p6 W W'):b7 W' v gs:=by
 obtain⟨f,c,n,g,j⟩:=h;refine⟨f,c,n,g,λm=>?_⟩;obtain⟨b,o,aC,i,Hb,Ha⟩:=j m;refine⟨b,o,aC,i,Q1 Hb l.size,λk a=>⟨⟨l.cell _ _ _ (λ_ e=>by cases e) (Ha k a).1.1,l.cell _ _ _ (λ_ e=>?_) (Ha k a).1.2.1,(Ha k a).1.2.2⟩,(Ha k a).2.nb l⟩⟩;obtain⟨_,_,d,_⟩:=(Ha k a).2;rw[d] at e;cases e
theorem aY.nb(h:aY W v hs)(l:p6 W W'):aY W' v hs:=by
 obtain⟨g,c,p,i,m⟩:=h;refine⟨g,c,p,i,λn=>?_⟩;obtain⟨b,o,cv,f,j,Hb,Ha⟩:=m n;refine⟨b,o,cv,f,j,Q1 Hb l.size,λk a=>⟨⟨l.cell _ _ _ (λ_ e=>by cases e) (Ha k a).1.1,l.cell _ _ _ (λ_ e=>by cases e) (Ha k a).1.2.1,l.cell _ _ _ (λ_ e=>?_) (Ha k a).1.2.2.1,l.cell _ _ _ (λ_ e=>?_) (Ha k a).1.2.2.2⟩,(Ha k a).2.1.nb l,(Ha k a).2.2.nb l⟩⟩
 ·obtain⟨_,_,d,_⟩:=(Ha k a).2.1;rw[d] at e;cases e
 ·obtain⟨_,_,d,_⟩:=(Ha k a).2.2;rw[d] at e;cases e
section
variable{N:Nat->Prop}{Ba Bd Be Bm:Nat}{t:bl}{dk:Dk}{n:Nat}{w:World}
theorem aI.blk(h:aI w N Ba Bd Be Bm t dk n){j:Nat}(u:jK w Ba j):j<w/\(∃s,w.cell? j=some (.string s))/\¬ four N Ba Bd Bm j:=by
 obtain⟨L,M,Ha,H,J,y,A,B,G,b,c,D,f,db,r,K,s,x,E,I,C,d,z,v⟩:=h;obtain⟨a,q,c1,g,Hb,k⟩:=u;have o:w.cell? ⟨Ba,9,none⟩=some (.pointer (some ⟨f,0,none⟩)):=ad x 9;rw[o] at g;obtain rfl:f=a:=by cases g;rfl
 rw[d.pool.row] at k;have m:r=some ⟨j,0,none⟩/\s.ds.length=q:=by cases k;exact⟨rfl,rfl⟩
 have e:0<s.ds.length:=by omega
 obtain⟨i,F,p⟩:=d.pool.at0 e;rw[m.1] at i;obtain rfl:j=db:=by cases i;rfl
 have l:=(d.pool.cells 0 e).1;rw[Nat.zero_mul] at l;exact⟨p,⟨_,l⟩,v e⟩
theorem Wg{W W':World}{c:List RV}(h:∀x∈c,gP W x/\x.dn<=1000)(hs:W<=W'.heap.size)(n:∀g,(∃v,W.cell? ⟨g,0,none⟩=some (.int .i64 v))->W'.heap[g]?=W.heap[g]?):(∀x∈c,gP W' x/\x.dn<=1000)/\c.map (aW W')=c.map (aW W):=by
 have key:∀x∈c,gP W' x/\bm W' x=bm W x:=λx a=>by
  obtain⟨ag,_⟩:=h x a
  by_cases b:0<x.dn
  ·obtain⟨g,f,z,d,o⟩:=ag.2 b;obtain⟨i,j,Ha,p,m⟩:=ag.1 b;have e:i=g/\j=0:=by rw[d] at Ha;cases Ha;exact⟨rfl,rfl⟩
   have c0:=m 0 b;rw[e.1,e.2] at c0;have k:=n g ⟨_,c0⟩;obtain⟨r1,l⟩:=rD (w':=W') ag.1 (λi j e _=>by rw[d] at e;cases e;exact k) hs;exact⟨⟨r1,λ_=>⟨g,f,z,d,k.trans o⟩⟩,l⟩
  ·refine⟨⟨λe=>absurd e b,λe=>absurd e b⟩,?_⟩;unfold bm
   have:x.dn=0:=by omega
   rw[this];rfl
 exact⟨λx a=>⟨(key x a).1,(h x a).2⟩,List.map_congr_left λx a=>by unfold aW;rw[(key x a).2]⟩
def Wh (w:World) (N:Nat->Prop) (Ba Bd Be Bm:Nat) (t:bl) (dk:Dk) (n:Nat) (e:Ending) (w':World):Prop:=∃(f:Nat) (ds':List ak),e=.returned (aJ f)/\ks t.ds ds'/\aI w' N Ba Bd Be Bm ⟨t.m,ds',t.hs⟩ dk n/\Apart (jK w Ba) w w'/\∀base,dA base w Ba->dA base w' Ba
theorem aI.sicken{A db:Nat}{T:Option Addr}{J:Nat}{us:Nat->Bool}(h:aI w N Ba Bd Be Bm t dk n)(G:w.cell? ⟨Ba,9,none⟩=some (.pointer (some ⟨A,0,none⟩)))(u:aF w A db T J t.ds us){k:Nat}(D:k<t.ds.length)(on:Bool):aI (w.setCell ⟨db,k*3+2,none⟩ on) N Ba Bd Be Bm ⟨t.m,jS t.ds k on,t.hs⟩ dk n/\Apart (jK w Ba) w (w.setCell ⟨db,k*3+2,none⟩ on)/\∀base,dA base w Ba->dA base (w.setCell ⟨db,k*3+2,none⟩ on) Ba:=by
 have z:0<t.ds.length:=by omega
 have Hi:jK w Ba db:=⟨A,t.ds.length,J,G,z,by rw[u.row,(u.at0 z).1]⟩;obtain⟨b1,⟨bs,b2⟩,B⟩:=h.blk Hi;have f:Apart (λj=>j=db) w (w.setCell ⟨db,k*3+2,none⟩ on):=Apart.setCell (K:=λj=>j=db) rfl _ _ _;have Hn:Apart (jK w Ba) w (w.setCell ⟨db,k*3+2,none⟩ on):=f.wide (λj e=>by rw[e];exact Hi);have hH:=h;obtain⟨h1,h2,Hg,I,h4,X,h6,Z,C,b,c,H,l,d,m,r,s,M,k2,i,Q,y,k6,k7⟩:=h;have O:w.cell? ⟨Ba,9,none⟩=some (.pointer (some ⟨l,0,none⟩)):=ad M 9;rw[O] at G;obtain rfl:l=A:=by cases G;rfl
 have Hb:=kP Q;have Hf:=u.row;rw[y.pool.row] at Hf;have e3:m=T/\r=J:=by
  injection Hf with Hf
  injection Hf with r1 r2 r3
  exact⟨r1,r3⟩
 have Hl:0<s.ds.length:=by rw[Hb];exact z
 have e4:d=db:=by
  have U:=(y.pool.at0 Hl).1;have a2:=(u.at0 z).1;rw[e3.1,a2] at U;cases U;rfl
 subst e4;obtain⟨l1,l2,l3⟩:=I.lt;have P:Ba≠d:=λe=>B (.inr (.inl e.symm))
 have n2:Bd≠d:=λe=>B (.inr (.inr (.inl e.symm)))
 have Y:Bm≠d:=λe=>B (.inr (.inr (.inr e.symm)))
 have n4:Be≠d:=λe=>by
  have:=I.eng.cells.1
  rw[e,b2] at this;cases this
 have Ho:(w.setCell ⟨d,k*3+2,none⟩ on).heap.size=w.heap.size:=Nat.le_antisymm (by simp) f.size;generalize hW:w.setCell ⟨d,k*3+2,none⟩ on=W at *;have He:aF W l d m r (jS s.ds k on) s.us:=by rw[<- hW];exact y.pool.sicken (by rw[Hb];exact D) on
 have Hj:ks t.ds (jS t.ds k on):=DZ D on;have Hm:=(u.cells k D).2.2.1;have Hk:p6 (au (four N Ba Bd Bm) w) (au (four N Ba Bd Bm) W):=⟨by rw[bX,bX];exact f.size,λj o v H q=>by
  have E:=fk q;have Hc:=(cJ _ _).cell _ _ _ q;have V:j<w.heap.size:=Q3 w _ Hc
  by_cases x:j=d
  ·have ho:o≠k*3+2:=λe=>by
    rw[x,e,Hm] at Hc;cases Hc;exact H _ rfl
   have e1:(au (four N Ba Bd Bm) W).cell? ⟨j,o,none⟩=W.cell? ⟨j,o,none⟩:=lW (b9 E) o;rw[e1,<- hW,x];rw[x] at Hc;rw[Qb]
   ·exact Hc
   ·intro e;cases e;exact ho rfl
  ·rw[<- q];exact lW (by rw[b9 E,b9 E,f.block j V x]) o⟩
 have S:¬ four N Ba Bd Bm C:=fk i.topo.cell;have nb:¬ four N Ba Bd Bm b:=fk (i.topo.cells 0 Hg).1;have Hh:=i.topo.tlt;have Ha:=i.topo.lt;rw[bX] at Hh Ha;have c1:=(cJ _ _).cell _ _ _ i.topo.cell;have c2:=(cJ _ _).cell _ _ _ (i.topo.cells 0 Hg).1;rw[Qd,Nat.zero_mul] at c2;have t3:C≠d:=λe=>by rw[e,b2] at c1;cases c1
 have F:b≠d:=λe=>by rw[e,b2] at c2;cases c2
 refine⟨⟨RQ h1 Hj,h2,Hg,?_,h4,X,λj x=>Q1 (h6 j x) f.size,Z,C,b,c,H,l,d,m,r,pF s (jS s.ds k on),(f.block Ba M.lt P).trans M,k2.nb Hk,⟨lh i.topo ?_ ?_ ?_,i.good,i.op,i.nd,i.pol⟩,?_,⟨He,?_,y.cp⟩,k6,?_⟩,Hn,λbase hb=>?_⟩
 ·obtain⟨g1,g2,xs,g3,g4,g5⟩:=I;obtain⟨q1,q2⟩:=Wg g4 f.size λg ⟨v,hg⟩=>f.block g (Q3 w _ hg) (λe=>by rw[e,b2] at hg;cases hg);exact⟨g1.block (f.block Be l1 n4),(f.block Bd l2 n2).trans g2,xs,g3.block (f.block Bm l3 Y),q1,λa=>by rw[q2];exact g5 a⟩
 ·rw[b9 S,b9 S,f.block C Hh t3]
 ·rw[b9 nb,b9 nb,f.block b Ha F]
 ·rw[bX,bX];exact f.size
 ·have:=D1 Hj Q
  rw[<- Hb] at this ⊢;exact this
 ·rw[Hb];have R:=y.nodes;rw[Hb] at R;exact Jf R D on
 ·intro _;exact B
 ·exact hH.poolNew hb f P (λp e V L=>by
   have L:p=d:=L;rw[O] at e
   have:p=l:=by cases e;rfl
   exact (u.at0 z).2.1 (by rw[<- L,this]))
theorem FJ(h:aI w N Ba Bd Be Bm t dk n)(k:Int)(on:Bool):Calls prog 31 #[Ba,k,on] w (Wh w N Ba Bd Be Bm t dk n):=by
 have l:=h;obtain⟨B,I,Hc,C,F,u,x,y,K,b,c,J,d,db,g,j,s,r,z,H,o,p,v,A⟩:=h;have G:cl w Ba (9) d:=ad r 9;have m:aF w d db g j t.ds s.us:=by rw[<- kP o];exact p.pool
 have q:=qI l;have i:=qI m;have D:=qI G;clear l m B I Hc C F u x y r z H o p v A
 rcases two (js k t.ds.length) with a|a
 ·have He:0<=k/\k<(t.ds.length:Int):=by
   unfold js at a;rw[Bool.and_eq_true,Qp,Qp] at a;exact a
  obtain⟨f,rfl⟩:∃f:Nat,k=(f:Int):=⟨k.toNat,by omega⟩;have Ha:f<t.ds.length:=by omega
  have HS:=qI (q.o.sicken D.o i.o Ha on);have Hb:=qI (DZ Ha on);clear a He
  go_enter func31,ntmps31
  go_wp2_with fail
  refine (Jv f on w d db g j t.ds s.us i.o Ha).mono ?_;rintro e w' ⟨rfl,rfl⟩
  go_wp2
  go_ret;exact⟨0,_,rfl,Hb.o,HS.o.1,HS.o.2.1,HS.o.2.2⟩
 ·have E:=qI a;clear a
  go_enter func31,ntmps31
  go_wp2_with fail
  refine (Ju k on w d db g j t.ds s.us i.o E.o).mono ?_;rintro e w' ⟨rfl,rfl⟩
  go_wp2
  go_ret;exact⟨1,t.ds,rfl,ud _,q.o,Apart.refl _ _,λ_ h=>h⟩
end
def lX (x:Ac):Bool:=x.kd.toList == [97,100,109,105,116]
def oM (x:Ac):Bool:=x.kd.toList == [114,101,109,111,118,101]
def dT (x:Ac):Bool:=x.kd.toList == [115,105,99,107] || x.kd.toList == [119,101,108,108]
theorem Wi(h:lX x=true):oM x=false:=by
 unfold lX at h;unfold oM;rw[eq_of_beq h]
 decide
structure Stepped (t:bl) (x:Ac) (f:Nat) (t':bl):Prop where
 m:t'.m=t.m
 ds:ks t.ds t'.ds
 inn:lX x=true->f=(bi t x.p).1/\t'.hs=(bi t x.p).2/\t'.ds=t.ds
 o:lX x=false->t'.hs.Sublist t.hs
 rem:oM x=true->t'.hs=ii t.hs x.s
 oth:lX x=false->oM x=false->dT x=false->∃qs g,rB x.us (t.hs.map af.pod) qs/\fJ x.us qs x.a 0 g/\t'.hs=dr t.hs ((qs.take g).map aj.nm)
 still:dT x=false->t'.ds=t.ds
def fw (w:World) (N:Nat->Prop) (Ba Bd Be Bm:Nat) (t:bl) (n:Nat) (x:Ac) (e:Ending) (w':World):Prop:=∃(f:Nat) (t':bl),e=.returned (aJ f)/\Stepped t x f t'/\(∃dk' n',n'<=n+3/\aI w' N Ba Bd Be Bm t' dk' n')/\Apart (λj=>three Ba Bd Bm j\/jK w Ba j) w w'/\∀base,base<=w.heap.size->dA base w Ba->dA base w' Ba
section
variable{N:Nat->Prop}{Ba Bd Be Bm:Nat}{t:bl}{dk:Dk}{n:Nat}{w:World}
theorem aI.poolKeep{X:World}{base:Nat}(h:aI w N Ba Bd Be Bm t dk n)(a:Below w w X)(b:dA base w Ba):dA base X Ba:=h.poolNew b (Apart.of_below (K:=λ_=>False) a) id (λ_ _ _ e=>e)
theorem aI.blkOld{X:World}{j:Nat}(h:aI w N Ba Bd Be Bm t dk n)(d:Below w w X)(i:jK X Ba j):jK w Ba j:=by
 obtain⟨f,g⟩:=h.poolAt;obtain⟨a,q,c,b,k,e⟩:=i;rw[lW (d.block Ba f)] at b;rw[lW (d.block a (g a b).1)] at e;exact⟨a,q,c,b,k,e⟩
theorem fw.old{X:World}{x:Ac}{e:Ending}{w':World}(b:aI w N Ba Bd Be Bm t dk n)(a:Below w w X)(h:fw X N Ba Bd Be Bm t n x e w'):fw w N Ba Bd Be Bm t n x e w':=by
 obtain⟨f,t',l,m,d,g,c⟩:=h;exact⟨f,t',l,m,d,(Apart.of_below a).trans (g.wide λj e=>e.imp id (b.blkOld a)),λbase k i=>c base (Q5 k a.size) (b.poolKeep a i)⟩
theorem fw.three{x:Ac}{e:Ending}{w':World}{f:Nat}{t':bl}{a:Dk}{b:Nat}(h:aI w N Ba Bd Be Bm t dk n)(g:e=.returned (aJ f))(m:Stepped t x f t')(i:b<=n+3)(c:aI w' N Ba Bd Be Bm t' a b)(k:io w w' Ba)(d:Apart (three Ba Bd Bm) w w'):fw w N Ba Bd Be Bm t n x e w':=
 ⟨f,t',g,m,⟨a,b,i,c⟩,d.wide λ_ e=>.inl e,λ_ l j=>h.poolUp j l k d⟩
abbrev se:=λ(x0:Ac) (x1:Option Addr) (x2 x3:Nat) (x4:Option Addr) (x5:Nat) (x6:Option Addr) (x7:Nat)=>(.cells #[x0.kd,x0.s,(x0.a:Int),(x0.b:Int),.int .u8 x0.m,.slice x1 x2 x3,x0.p.nm,(x0.p.pr:Int),.slice x4 x0.p.cs.length x5,.slice x6 x0.us.length x7] 52:Obj)
theorem FK{x:Ac}{la ca s:Option Addr}{y z cc q:Nat}(R:aI w N Ba Bd Be Bm t dk n)(B:aQ (au (four N Ba Bd Bm) w) (.slice ca x.p.cs.length cc) x.p.cs)(S:bv w (.slice s x.us.length q) x.us)(F:oy x.us)(L:-9223372036854775808<=x.a)(J:x.a<=9223372036854775807)(b:n+36<=1000)(O:∀W,Apart (three Ba Bd Bm) w W->bJ W) :
  Calls prog 13 #[.agg #[Bd,Be,Ba],.agg #[x.kd,x.s,(x.a:Int),(x.b:Int),.int .u8 x.m,.slice la y z,x.p.nm,(x.p.pr:Int),.slice ca x.p.cs.length cc,.slice s x.us.length q]] w (fw w N Ba Bd Be Bm t n x):=by
 obtain⟨v,HG⟩:∃o:Obj,o=.cells #[Bd,Be,Ba] 36:=⟨_,rfl⟩;obtain⟨A,V⟩:∃o:Obj,o=.cells #[x.kd,x.s,(x.a:Int),(x.b:Int),.int .u8 x.m,.slice la y z,x.p.nm,(x.p.pr:Int),.slice ca x.p.cs.length cc,.slice s x.us.length q] 52:=⟨_,rfl⟩;have Ha:Hu (Below w w ((w.alloc v).alloc A)):=((Q0 w w).alloc (lR) v).alloc (by simp) A;obtain⟨H,Hf⟩:∃H,H=w.heap.size:=⟨_,rfl⟩;obtain⟨I,He⟩:∃I,I=w.heap.size+1:=⟨_,rfl⟩;have Hx:((w.alloc v).alloc A).heap[H]?=some v:=by rw[Hf];exact cC (bd w v rfl) _
 have Hz:((w.alloc v).alloc A).heap[I]?=some A:=by rw[He];exact bd (w.alloc v) A (by simp)
 have Hl:=qI Hx;have Hi:=qI Hz;clear Hx Hz;subst HG V;have d:=qI R;have i:=qI B;have c:=qI S;have Z:=qI F;have k:=qI O;clear R B S F O
 rcases two (x.kd.toList == [97,100,109,105,116]) with K|K
 ·have r:Hu (lX x=true):=K
  go_enter func13,ntmps13
  go_wp2_with fail
  (try rw[<- He]);(try rw[<- Hf]);generalize ((w.alloc (ku Bd Be Ba)).alloc (se x la y z ca cc s q))=X at *;clear Hf He;have Hc:=qI (d.o.keep Ha.o);have Hk:Hu (aQ (au (four N Ba Bd Bm) X) (.slice ca x.p.cs.length cc) x.p.cs):=i.o.le (bE (λj m b=>⟨b,Ha.o.block j m⟩) Ha.o.size);have Hm:=qI (c.o.below Ha.o);have Hh:Hu (∀W,Apart (three Ba Bd Bm) X W->bJ W):=λW a=>k.o W ((Apart.of_below Ha.o).trans a)
  clear i c k Hl Hi;have Hs:=qI (yG (p:=x.p) Hc.o Hk.o (Hh.o X (Apart.refl _ _)) b);unfold cz at Hs;refine Hs.o.mono ?_;rintro e W ⟨rfl,⟨C,T,⟨Ht,Hg⟩,Hb⟩,a⟩;have l:Hu (fw w N Ba Bd Be Bm t n x (.returned (aJ ((bi t x.p).1:Nat))) W):=fw.old d.o Ha.o (fw.three (t':=⟨t.m,t.ds,(bi t x.p).2⟩) Hc.o rfl ⟨rfl,ud _,λ_=>⟨rfl,rfl,rfl⟩,λh=>absurd (h.symm.trans r.o) (by decide),λh=>absurd (h.symm.trans (Wi r.o)) (by decide),λh=>absurd (h.symm.trans r.o) (by decide),λ_=>rfl⟩ Ht Hb Hg a);clear Hb Hg a Hs;generalize (bi t x.p).1=G at *
  go_wp2
  go_ret;exact l.o
 have r:Hu (lX x=false):=K
 rcases two (x.kd.toList == [114,101,109,111,118,101]) with Hq|Hq
 ·have Hj:Hu (oM x=true):=Hq
  go_enter func13,ntmps13
  go_wp2_with fail
  (try rw[<- He]);(try rw[<- Hf]);generalize ((w.alloc (ku Bd Be Ba)).alloc (se x la y z ca cc s q))=X at *;clear Hf He;have Hc:=qI (d.o.keep Ha.o);have Hk:Hu (aQ (au (four N Ba Bd Bm) X) (.slice ca x.p.cs.length cc) x.p.cs):=i.o.le (bE (λj m b=>⟨b,Ha.o.block j m⟩) Ha.o.size);have Hm:=qI (c.o.below Ha.o);have Hh:Hu (∀W,Apart (three Ba Bd Bm) X W->bJ W):=λW a=>k.o W ((Apart.of_below Ha.o).trans a)
  clear i c k Hl Hi;obtain⟨G,Hw⟩:∃G:Nat,G=if dK t.hs x.s then 0 else 6:=⟨_,rfl⟩
  have Hp:=qI (FA N Ba Bd Be Bm t dk n x.s X Hc.o b Hh.o);rw[<- Hw] at Hp;clear Hw;refine Hp.o.mono ?_;rintro e W ⟨rfl,⟨C,T,⟨Ht,Hg⟩,Hb⟩,a⟩;have l:Hu (fw w N Ba Bd Be Bm t n x (.returned (aJ (G:Nat))) W):=fw.old d.o Ha.o (fw.three (t':=⟨t.m,t.ds,ii t.hs x.s⟩) Hc.o rfl ⟨rfl,ud _,λh=>absurd (h.symm.trans r.o) (by decide),λ_=>wT _ _,λ_=>rfl,λ_ h=>absurd (h.symm.trans Hj.o) (by decide),λ_=>rfl⟩ (by omega) Hb Hg a);clear Hb Hg a Hp
  go_wp2
  go_ret;exact l.o
 have Hj:Hu (oM x=false):=Hq
 rcases two (x.kd.toList == [115,105,99,107]) with M|M
 ·have Hn:Hu (dT x=true):=by unfold Hu dT;rw[M];rfl
  go_enter func13,ntmps13
  go_wp2_with fail
  (try rw[<- He]);(try rw[<- Hf]);generalize ((w.alloc (ku Bd Be Ba)).alloc (se x la y z ca cc s q))=X at *;clear Hf He;have Hc:=qI (d.o.keep Ha.o);have Hk:Hu (aQ (au (four N Ba Bd Bm) X) (.slice ca x.p.cs.length cc) x.p.cs):=i.o.le (bE (λj m b=>⟨b,Ha.o.block j m⟩) Ha.o.size);have Hm:=qI (c.o.below Ha.o);have Hh:Hu (∀W,Apart (three Ba Bd Bm) X W->bJ W):=λW a=>k.o W ((Apart.of_below Ha.o).trans a)
  clear i c k Hl Hi;have Hr:Hu (∀on,Calls prog 31 #[Ba,(x.a:Int),.bool on] X λe w'=>∃f:Nat,e=.returned (aJ f)/\fw w N Ba Bd Be Bm t n x e w'):=λon=>by
   refine (FJ Hc.o x.a on).mono ?_;rintro e W ⟨f,u,E,Hv,Hb,a,Ho⟩;exact⟨f,E,fw.old d.o Ha.o ⟨f,⟨t.m,u,t.hs⟩,E,⟨rfl,Hv,λh=>absurd (h.symm.trans r.o) (by decide),λ_=>List.Sublist.refl _,λh=>absurd (h.symm.trans Hj.o) (by decide),λ_ _ h=>absurd (h.symm.trans Hn.o) (by decide),λh=>absurd (h.symm.trans Hn.o) (by decide)⟩,⟨dk,n,by omega,Hb⟩,a.wide λ_ e=>.inr e,λbase _ B=>Ho base B⟩⟩
  refine (Hr.o true).mono ?_;rintro e W ⟨f,rfl,D⟩;have l:=qI D;clear D
  go_wp2
  go_ret;exact l.o
 rcases two (x.kd.toList == [119,101,108,108]) with Hy|Hy
 ·have Hn:Hu (dT x=true):=by unfold Hu dT;rw[Hy,Bool.or_true]
  go_enter func13,ntmps13
  go_wp2_with fail
  (try rw[<- He]);(try rw[<- Hf]);generalize ((w.alloc (ku Bd Be Ba)).alloc (se x la y z ca cc s q))=X at *;clear Hf He;have Hc:=qI (d.o.keep Ha.o);have Hk:Hu (aQ (au (four N Ba Bd Bm) X) (.slice ca x.p.cs.length cc) x.p.cs):=i.o.le (bE (λj m b=>⟨b,Ha.o.block j m⟩) Ha.o.size);have Hm:=qI (c.o.below Ha.o);have Hh:Hu (∀W,Apart (three Ba Bd Bm) X W->bJ W):=λW a=>k.o W ((Apart.of_below Ha.o).trans a)
  clear i c k Hl Hi;have Hr:Hu (∀on,Calls prog 31 #[Ba,(x.a:Int),.bool on] X λe w'=>∃f:Nat,e=.returned (aJ f)/\fw w N Ba Bd Be Bm t n x e w'):=λon=>by
   refine (FJ Hc.o x.a on).mono ?_;rintro e W ⟨f,u,E,Hv,Hb,a,Ho⟩;exact⟨f,E,fw.old d.o Ha.o ⟨f,⟨t.m,u,t.hs⟩,E,⟨rfl,Hv,λh=>absurd (h.symm.trans r.o) (by decide),λ_=>List.Sublist.refl _,λh=>absurd (h.symm.trans Hj.o) (by decide),λ_ _ h=>absurd (h.symm.trans Hn.o) (by decide),λh=>absurd (h.symm.trans Hn.o) (by decide)⟩,⟨dk,n,by omega,Hb⟩,a.wide λ_ e=>.inr e,λbase _ B=>Ho base B⟩⟩
  refine (Hr.o false).mono ?_;rintro e W ⟨f,rfl,D⟩;have l:=qI D;clear D
  go_wp2
  go_ret;exact l.o
 go_enter func13,ntmps13
 go_wp2_with fail
 (try rw[<- He]);(try rw[<- Hf]);generalize ((w.alloc (ku Bd Be Ba)).alloc (se x la y z ca cc s q))=X at *;clear Hf He;have Hc:=qI (d.o.keep Ha.o);have Hk:Hu (aQ (au (four N Ba Bd Bm) X) (.slice ca x.p.cs.length cc) x.p.cs):=i.o.le (bE (λj m b=>⟨b,Ha.o.block j m⟩) Ha.o.size);have Hm:=qI (c.o.below Ha.o);have Hh:Hu (∀W,Apart (three Ba Bd Bm) X W->bJ W):=λW a=>k.o W ((Apart.of_below Ha.o).trans a)
 clear i c k Hl Hi;have P:=qI (We Hc.o Hm.o Z.o L J b Hh.o);refine P.o.mono ?_;rintro e W ⟨Q,g,nv,rfl,Y,U,hle,⟨C,T,⟨Ht,Hg⟩,Hb⟩,a⟩;have l:Hu (fw w N Ba Bd Be Bm t n x (.returned .nilIface) W):=fw.old d.o Ha.o (fw.three (f:=0) (t':=⟨t.m,t.ds,dr t.hs ((Q.take g).map aj.nm)⟩) Hc.o rfl ⟨rfl,ud _,λh=>absurd (h.symm.trans r.o) (by decide),λ_=>pX _ _,λh=>absurd (h.symm.trans Hj.o) (by decide),λ_ _ _=>⟨Q,g,U,hle,rfl⟩,λ_=>rfl⟩ (by omega) Hb Hg a);obtain⟨na,nc,HH,_⟩:=Y;subst HH;clear Hb Hg a P U hle
 go_wp2
 go_ret;exact l.o
end
section
variable{Ba Bd Be Bm:Nat}{t:bl}{dk:Dk}{n:Nat}{w:World}
theorem Wj{c:dE}(h:cX c=0):0<=(cB c).nb:=by
 unfold cX at h
 repeat' (split at h;· first|cases h|(rename_i a;exact absurd h a))
 all_goals (show 0<=c.nb;omega)
theorem Wk{W:World}(a:bJ w)(c:w<=Ba/\w<=Bd/\w<=Bm)(b:Below w w W):bJ W/\aZ w (au (four jJ Ba Bd Bm) W)/\∀W',Apart (three Ba Bd Bm) W W'->bJ W':=by grind[a.below,mK,oL,b.size]
theorem Wl{x:Ac}{f:Nat}{t':bl}(h:fY t)(a:bS t.m (t.hs.map af.pod)=true)(hs:Stepped t x f t'):bS t'.m (t'.hs.map af.pod)=true:=by
 rw[hs.m];cases e:lX x with
 | true=>rw[(hs.inn e).2.1];exact RL a
 | false=>exact RM h (hs.o e) a
end
section
variable{w W U V:World}{oc:Obj}{N:Nat->Prop}{Ba Ca Bd Be Bm Bk Bc n n':Nat}{c:dE}{hs:List af}{dk dk':Dk}{rs:List Rn}{t:bl}{s:ByteArray}
theorem Wm(d:(w<=Ba/\w<=Bd/\w<=Bm)/\Bk≠Ba/\Bk≠Bd/\Bk≠Bm)(a:Below w w W)(c:Apart (gQ Bd Bm) W U):Below w w U:=oL a a.size c (λj b=>by rcases b with e|e <;> omega)
theorem Wn{m:aL}{ds:List ak}(h:nj m ds dk hs dk')(a:n'<=n+dS rs (aN hs)):n'<=n+36:=by cases h <;> grind[bw,FC,uo,aN,yb]
theorem Wo(h:aI W N Ca Bd Be Bm t dk n)(d:Apart (gQ Bd Bm) W U):Calls prog 12 #[Ca] U λe w'=>∃a c,e=.returned (.slice a t.hs.length c)/\aY (fresh U w') (.slice a t.hs.length c) t.hs/\Below U U w':=by
 obtain⟨l,Hb,Hc,A,Ha,Hg,Hf,He,k,b,x,m,i,db,u,z,s,g,p,B,y,w,r,v⟩:=h;obtain⟨q,a2,a3⟩:=cW.1 l.held;refine E6 Ca k t.m Bd Be m s.cp i t.hs U ((d.block Ca g.lt ?_).trans g) ((p.le (bE (M':=four N Ca Bd Bm) (λj o f=>⟨f,d.block j o ?_⟩) d.size)).le (cJ _ _)) a2 (by omega)
 ·rintro (e|e)
  ·exact Ha.1 e
  ·exact Ha.2.1 e
 ·rintro (e|e)
  ·exact f (.inr (.inr (.inl e)))
  ·exact f (.inr (.inr (.inr e)))
end
theorem Wp(h:bw hs=0):ry (hs.map af.pod):=by
 have d:=(cW.1 h).2.2;unfold ry;rw[List.map_map];refine List.pairwise_map.2 (d.imp λ{a b} hab e=>?_);have c:a.pod.nm=b.pod.nm:=e;rw[c] at hab;exact qU _ hab
theorem Wq{r:Nat}{c t2:bl}(hi:fY t)(hs:dT x=false)(a:Stepped t x f c)(b:Stepped t x r t2):c=t2:=by
 have e:c.hs=t2.hs:=by
  rcases two (lX x) with h|h
  ·rw[(a.inn h).2.1,(b.inn h).2.1]
  ·rcases two (oM x) with g|g
   ·rw[a.rem g,b.rem g]
   ·obtain⟨l,g1,s1,d,k⟩:=a.oth h g hs;obtain⟨j,s,s2,i,o⟩:=b.oth h g hs;have p:l=j:=Sk (Wp hi.held) s1.1 s2.1 s1.2 s2.2;subst p;rw[k,o,d.unique i]
 obtain⟨m1,n,d⟩:=c;obtain⟨m2,q,i⟩:=t2;have m:m1=m2:=a.m.trans b.m.symm;have ag:n=q:=(a.still hs).trans (b.still hs).symm;dsimp only at e;rw[m,ag,e]
def Trace (c:dE) (xs:List Ac):Nat->bl->Prop
 | 0,t=>t=⟨cB c,c.ds,[]⟩
 | k+1,t=>∃u,Trace c xs k u/\((dT (ac xs k)=true/\t=u)\/(dT (ac xs k)=false/\fY u/\∃f,Stepped u (ac xs k) f t))
theorem trace_one:∀ {k:Nat} {b t2:bl},Trace c xs k b->Trace c xs k t2->b=t2
 | 0,_,_,h1,h2=>h1.trans h2.symm
 | k+1,b,t2,⟨u1,p1,q1⟩,⟨u2,p2,q2⟩=>by
  have hu:=trace_one p1 p2;subst hu
  rcases q1 with⟨a,b1⟩|⟨a,d,f1,s1⟩
  ·rcases q2 with⟨a2,b2⟩|⟨a2,_⟩
   ·rw[b1,b2]
   ·rw[a] at a2;cases a2
  ·rcases q2 with⟨a2,b2⟩|⟨a2,_,f2,s2⟩
   ·rw[a] at a2;cases a2
   ·exact Wq d a s1 s2
theorem FL:∀ {k:Nat} {t:bl},Trace c xs k t->t.m=cB c/\t.ds=c.ds
 | 0,t,h=>by rw[h];exact⟨rfl,rfl⟩
 | k+1,t,⟨u,p,q⟩=>by
  have hu:=FL p
  rcases q with⟨_,b⟩|⟨a,_,f,s⟩
  ·rw[b];exact hu
  ·exact⟨s.m.trans hu.1,(s.still a).trans hu.2⟩
section
variable{N:Nat->Prop}{Ba Bd Be Bm:Nat}{t:bl}{dk:Dk}{n:Nat}{b0 V V2 W U:World}
theorem FM(d:dA b0 V Ba)(f:b0<=Ba/\b0<=Bd/\b0<=Bm)(a:Below b0 b0 V)(c:Apart (λj=>three Ba Bd Bm j\/jK V Ba j) V V2):Below b0 b0 V2:=
 oL a a.size c (λj b=>by
  rcases b with (e|e|e)|e
  ·omega
  ·omega
  ·omega
  ·exact e.base d)
theorem yI{b:Obj}{a:Nat}{v:Value}(c:aI V N Ba Bd Be Bm t dk n)(g:a≠Ba/\a≠Bd/\a≠Bm)(h:V.heap[a]?=some b)(d:Apart (λj=>three Ba Bd Bm j\/jK V Ba j) V V2)(e:V.cell? a=some v)(f:∀s,v≠.string s):V2.heap[a]?=some b:=by grind[d.block,c.blk]
theorem Wr(h:aI W N Ba Bd Be Bm t dk n)(j:Apart (gQ Bd Bm) W U):Calls prog 21 #[Ba] U λe w'=>(∃s,be t.m t.ds t.hs=some s/\e=.returned (.int .u64 (s.cp:Nat)))/\w'=U:=by
 obtain⟨d,Ha,Hc,l,Hb,Hg,Hf,He,q,b,v,x,p,db,u,w,s,a,o,m,c,i,f,g⟩:=h;have r:cl U Ba (8) (.int .u64 s.cp):=ad ((j.block Ba a.lt (by rintro (e|e);exact Hb.1 e;exact Hb.2.1 e)).trans a) 8;have k:=qI c;clear d Ha Hc l Hb Hg Hf He a o m c i f g
 go_enter func21,ntmps21
 go_wp2
 go_ret;exact⟨⟨s,k.o,rfl⟩,rfl⟩
end
theorem Ws{b:List af}{a:Dk}(h:aI W N Ba Bd Be Bm ⟨cB c,c.ds,hs⟩ dk n)(d:bS (cB c) (hs.map af.pod)=true)(e:nj (cB c) c.ds dk b a):b=hs/\a=dk:=by
 refine FE h.txt.2.1 ?_ e;obtain⟨s,hs⟩:=h.inv.left;have Ha:be (cB c) c.ds _=some s:=hs;rw[Ha,d];rfl
theorem FN(h:Trace c xs k t)(hs:dT (ac xs k)=true):Trace c xs (k+1) t:=⟨t,h,.inl ⟨hs,rfl⟩⟩
theorem FO(h:Trace c xs k t)(hi:fY t)(hs:dT (ac xs k)=false)(a:Stepped t (ac xs k) f t'):Trace c xs (k+1) t':=⟨t,h,.inr ⟨hs,hi,f,a⟩⟩
