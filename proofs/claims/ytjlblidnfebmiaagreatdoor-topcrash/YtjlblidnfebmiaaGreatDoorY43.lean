import Derived.Test.YtjlblidnfebmiaaGreatDoorY29
import Derived.Test.YtjlblidnfebmiaaGreatDoorY42
set_option maxRecDepth 100000
set_option maxHeartbeats 16000000
open Go Go.RowKit Go.Shelf
attribute [local go_sem] Oper.semAt_some
namespace Go.Proofs.YtjlblidnfebmiaaGreatDoor
variable{B Ba Bd Be Bm n:Nat}{C:Rn->Prop}{N:Nat->Prop}{W W':World}{d:Bool}{dk s:Dk}{hs ls:List ae}{l:Int}{sk sn:Sd}{t:aT}
def fh (s:Dk):Prop:=s.d=false/\(-1<=s.l/\s.l<=1000)/\s.wt=none
theorem Calm.soft(h:Calm s):fh s:=⟨h.1,by rw[h.2.1];decide,h.2.2⟩
theorem p6(h:bu W B s)(a:fh s):aQ W B s.n s.k () s.l false:=by
 obtain⟨_,v,b,c⟩:=h;rw[a.2.2] at c;rw[a.1] at b;subst c;exact b
theorem tQ(h:aQ W B s.n s.k () s.l false)(a:fh s):bu W B s:=by
 refine⟨by have:=a.2.1;omega,(),by rw[a.1];exact h,?_⟩;rw[a.2.2]
theorem wi(h:bz W Be Bd Bm n sn sk l d C)(c:Apart (λj=>j=Ba) W W')(g:Ba≠Bd/\Ba≠Bm/\Ba≠Be)(hi:∀(b:Array Value) (z:Nat × Nat),W.heap[Ba]?≠some (Obj.cells b 3 z)):bz W' Be Bd Bm n sn sk l d C:=by
 obtain⟨m,o,q,i,t,s⟩:=h;have f:dY W W':=⟨c.size,λk b z f=>c.block k (gS f).1 λe=>hi b z (by rw[<- e];exact f)⟩;obtain⟨p,r⟩:=lV t f;exact⟨m.block (c.block Be m.lt λe=>g.2.2 e.symm),(c.block Bd o.lt λe=>g.1 e.symm).trans o,q,i.block (c.block Bm i.lt λe=>g.2.1 e.symm),p,λa=>by rw[r];exact s a⟩
theorem Ak{b:Dk}(h:bz W Be Bd Bm n dk.n dk.k dk.l false C)(f:W.grownBy W' (some Bd))(ah:bu W' Bd b)(i:fh b):bz W' Be Bd Bm n b.n b.k b.l false C:=by
 obtain⟨g,a2,a3⟩:=h.apart;obtain⟨q,v,s⟩:=h.lt;obtain⟨l,d,o,j,u,r⟩:=h;have c:dY W W':=⟨f.size,λk t z c=>f.block k (gS c).1 (λe=>by
  injection e with e
  have d:W.heap[Bd]?=_:=d;rw[<- e,c] at d;cases d)⟩
 obtain⟨m,p⟩:=lV u c;exact⟨l.block (f.block Be q λe=>g (by injection e)),p6 ah i,o,j.block (f.block Bm s λe=>a3 (by grind)),m,λa=>by rw[p];exact r a⟩
structure aE (W:World) (N:Nat->Prop) (Ba Bd Be Bm:Nat) (t:aT) (dk:Dk) (n:Nat):Prop where
 inv:eG t
 calm:fh dk
 cpus:0<t.m.l.length
 eng:bz W Be Bd Bm n dk.n dk.k dk.l false (λa=>a∈aL t.hs)
 apart:Ba≠Bd/\Ba≠Bm/\Ba≠Be
 free:¬ N Ba/\¬ N Bd/\¬ N Bm/\¬ N Be
 nlt:∀j,N j->j<W.heap.size
 txt:(bw t.hs).length<=6000/\Kept dk t.hs
 body:∃tb b c hv pb db ao pc s,b6 W Ba tb t.m Bd Be hv (s:aC).cp pb/\bf (av (four N Ba Bd Bm) W) hv t.hs/\ey (av (four N Ba Bd Bm) W) tb b 0 c t.m/\bi t.m t.ds t.hs=some s/\eS W pb db ao pc s/\¬ four N Ba Bd Bm pb/\(0<s.ds.length->¬ four N Ba Bd Bm db)
theorem aE.grow{i:Nat->Prop}(h:aE W N Ba Bd Be Bm t dk n)(d:Bw W W')(M:∀j,i j->N j\/W.heap.size<=j)(H:∀j,i j->j<W'.heap.size):aE W' i Ba Bd Be Bm t dk n:=by
 obtain⟨E,O,He,o,C,l,P,B,u,b,c,x,y,db,K,G,s,p,w,a,v,m,I,D⟩:=h;obtain⟨z,J,L⟩:=o.lt;have F:=p.lt;have A:=m.pool.lt;have hf:∀j,j<W.heap.size->¬ N j->¬ i j:=λj k g f=>(M j f).elim g (by omega)
 have Ha:∀j,j<W.heap.size->¬ four N Ba Bd Bm j->¬ four i Ba Bd Bm j:=λj k g f=>f.elim (λe=>hf j k (λe=>g (.inl e)) e) λe=>g (.inr e)
 have hle:=bF (λj k g=>⟨Ha j k g,d.block j k⟩) d.size;refine⟨E,O,He,o.below d,C,⟨hf _ F l.1,hf _ J l.2.1,hf _ L l.2.2.1,hf _ z l.2.2.2⟩,H,B,u,b,c,x,y,db,K,G,s,p.below d,w.le hle,?_,v,m.below d,Ha _ A I,λq=>Ha _ ((m.pool.at0 q).2.2) (D q)⟩;have r:=eB a.topo.cell;have Hc:=a.topo.tlt;have Hb:=a.topo.lt;rw[cC] at Hc Hb;refine⟨lh a.topo ?_ ?_ ?_,a.good,a.op,a.nd,a.pol⟩
 ·rw[cH r,cH (Ha _ Hc r),d.block u Hc]
 ·by_cases nb:four N Ba Bd Bm b
  ·exact absurd nb (eB (a.topo.cells 0 He).1)
  ·rw[cH nb,cH (Ha _ Hb nb),d.block b Hb]
 ·rw[cC,cC];exact d.size
theorem aE.other(h:aE W N Ba Bd Be Bm t dk n)(d:Apart N W W')(hi:∀j,N j->∀(g:Array Value) (z:Nat × Nat),W.heap[j]?≠some (Obj.cells g 3 z)):aE W' N Ba Bd Be Bm t dk n:=by
 obtain⟨M,C,Hb,u,L,l,U,K,q,b,c,H,o,db,S,P,s,v,F,f,D,i,y,w⟩:=h;obtain⟨I,R,T⟩:=u.lt;have hle:aR (av (four N Ba Bd Bm) W) (av (four N Ba Bd Bm) W'):=bF (λj r A=>⟨A,d.block j r λe=>A (.inl e)⟩) d.size;have O:¬ N o:=λe=>y (.inl e)
 refine⟨M,C,Hb,?_,L,l,λj r=>Q1 (U j r) d.size,K,q,b,c,H,o,db,S,P,s,(d.block Ba v.lt l.1).trans v,F.le hle,?_,D,?_,y,w⟩
 ·obtain⟨g1,Q,E,g3,g4,B⟩:=u;have m:dY W W':=⟨d.size,λk g z m=>d.block k (gS m).1 λe=>hi k e g z m⟩;obtain⟨G,J⟩:=lV g4 m;exact⟨g1.block (d.block Be I l.2.2.2),(d.block Bd R l.2.1).trans Q,E,g3.block (d.block Bm T l.2.2.1),G,λa=>by rw[J];exact B a⟩
 ·have p:¬ four N Ba Bd Bm q:=eB f.topo.cell;have Ha:=f.topo.tlt;have Hc:=f.topo.lt;rw[cC] at Ha Hc;refine⟨lh f.topo ?_ ?_ ?_,f.good,f.op,f.nd,f.pol⟩
  ·rw[cH p,cH p,d.block q Ha λe=>p (.inl e)]
  ·by_cases nb:four N Ba Bd Bm b
   ·exact absurd nb (eB (f.topo.cells 0 Hb).1)
   ·rw[cH nb,cH nb,d.block b Hc λe=>nb (.inl e)]
  ·rw[cC,cC];exact d.size
 ·exact⟨pZ i.pool (d.block o i.pool.lt O) (λx=>d.block db (i.pool.at0 x).2.2 λe=>w x (.inl e)) d.size,i.nodes,i.cp⟩
theorem aE.poolAt(h:aE W N Ba Bd Be Bm t dk n):Ba<W/\∀a,W.cell? ⟨Ba,9,none⟩=some (.pointer (some ⟨a,0,none⟩))->a<W.heap.size/\¬ three Ba Bd Bm a:=by
 obtain⟨o,A,Ha,k,z,x,B,y,p,b,c,v,a,db,w,q,s,f,u,l,r,i,j,m⟩:=h;refine⟨f.lt,λd e=>?_⟩;have g:=cb f 9;rw[g] at e;obtain rfl:a=d:=by cases e;rfl
 exact⟨i.pool.lt,λe=>j (.inr e)⟩
theorem aE.poolNew{K:Nat->Prop}{base:Nat}(h:aE W N Ba Bd Be Bm t dk n)(m:fR base W Ba)(b:Apart K W W')(k:¬ K Ba)(j:∀a,W.cell? ⟨Ba,9,none⟩=some (.pointer (some ⟨a,0,none⟩))->base<=a->¬ K a):fR base W' Ba:=by
 obtain⟨g,f⟩:=h.poolAt;intro a e;rw[gR (b.block Ba g k)] at e;obtain⟨d,l⟩:=m a e;refine⟨d,λdb n c o i=>l db n c o ?_⟩;rw[<- i];exact (gR (b.block a (f a e).1 (j a e d)) 0).symm
section
variable{N:Nat->Prop}{Ba Bd Be Bm:Nat}{t:aT}{dk:Dk}{n:Nat}{p:aj}
theorem aE.keep{w W:World}(h:aE w N Ba Bd Be Bm t dk n)(a:Bw w W):aE W N Ba Bd Be Bm t dk n:=h.grow a (λ_ k=>.inl k) (λj k=>Q1 (h.nlt j k) a.size)
theorem aE.disk{W W':World}{a:Dk}(h:aE W N Ba Bd Be Bm t dk n)(d:W.grownBy W' (some Bd))(ah:bu W' Bd a)(l:fh a)(k:Kept a t.hs):aE W' N Ba Bd Be Bm t a n:=by
 have v:=Ak h.eng d ah l;obtain⟨B,I,Ha,H,p,F,G,z,C,b,c,y,o,db,E,D,s,m,x,A,w,f,u,q⟩:=h;have hf:∀j,j<W.heap.size->¬ four N Ba Bd Bm j->W'.heap[j]?=W.heap[j]?:=λj g i=>d.block j g λe=>i (.inr (.inr (.inl (by injection e))))
 refine⟨B,l,Ha,v,p,F,λj g=>Q1 (G j g) d.size,⟨z.1,k⟩,C,b,c,y,o,db,E,D,s,(d.block Ba m.lt λe=>p.1 (by injection e)).trans m,x.le (bF (λj g i=>⟨i,hf j g i⟩) d.size),tO A Ha hf d.size,w,⟨pZ f.pool (hf o f.pool.lt u) (λr=>hf db (f.pool.at0 r).2.2 (q r)) d.size,f.nodes,f.cp⟩,u,q⟩
theorem aE.next{w W0 I f l:World}{m:aJ}{ds:List aq}{hs:List ae}{d:Dk}{A o b c k db:Nat}{v v0:Value}{H:Option Addr}{E x y:Nat}{s:aC}(h:aE w N Ba Bd Be Bm t dk n)(O:Bw w W0)(S:ey (av (four N Ba Bd Bm) W0) o b 0 c m)(D:0<m.l.length)(Q:bf (av (four N Ba Bd Bm) W0) v hs)(C:W0.grownBy I (some Bd))(F:bL Bd Bm I f)(u:Apart (λj=>j=Ba) f l)(K:b6 l Ba o m Bd Be v s.cp k)(U:eS l k db H E s)(q:f<=k)(r:0<s.ds.length->f<=db)(M:bz f Be Bd Bm A d.n d.k d.l false (λa=>a∈aL hs))(p:b6 f Ba o m Bd Be v0 x y)(hi:eG ⟨m,ds,hs⟩)(T:bi m ds hs=some s)(J:fh d)(z:(bw hs).length<=6000/\Kept d hs):aE l N Ba Bd Be Bm ⟨m,ds,hs⟩ d A:=by
 have z1:=O.size;have z2:=C.size;have z3:=F.size;have z4:=u.size;have hf:∀j,j<W0.heap.size->¬ four N Ba Bd Bm j->l.heap[j]?=W0.heap[j]?:=λj i g=>
  (u.block j (by omega) λe=>g (.inr (.inl e))).trans ((F.block j (by omega) (λe=>g (.inr (.inr (.inl e)))) λe=>g (.inr (.inr (.inr e)))).trans (C.block j i λe=>g (.inr (.inr (.inl (by injection e))))))
 obtain⟨X,l2,l3⟩:=h.eng.lt;obtain⟨W,Z,Y,q4,G,R,V,q9,P⟩:=h;have l4:Ba<w:=by
  obtain⟨_,_,_,_,_,_,_,_,_,L,_⟩:=P;exact L.lt
 have B:∀j,f.heap.size<=j->¬ four N Ba Bd Bm j:=λj i e=>by
  grind
 exact⟨hi,J,D,wi M u G p.notInt,G,R,λj i=>by have:=V j i;omega,z,o,b,c,v,k,db,H,E,s,K,Q.le (bF (λj i g=>⟨g,hf j i g⟩) (by omega)),tO S D hf (by omega),T,U,B k q,λh=>B db (r h)⟩
theorem Yx{W W':World}{g b f a n:Nat}{k i:Sd}{l:Int}{d:Bool}{C:Rn->Prop}(h:bz W b f a n k i l d C){c:Nat}{R:Nat->HS->Prop}(p:dJ W g c R)(s:W.grownBy W' (some g))(r:g≠f/\g≠a/\g≠b):bz W' b f a n k i l d C:=
 wi h (fv s (λj e _=>by grind)) r λq z e=>by
  obtain⟨o,m,_⟩:=p;rw[m] at e;cases e
theorem aE.then{w f i:World}{m:aJ}{ds:List aq}{hs:List ae}{d:Dk}{A l b c g db:Nat}{v v0:Value}{F:Option Addr}{D x y:Nat}{s:aC}(h:aE w N Ba Bd Be Bm t dk n)(S:w<=f.heap.size)(P:ey (av (four N Ba Bd Bm) f) l b 0 c m)(C:0<m.l.length)(L:bf (av (four N Ba Bd Bm) f) v hs)(u:Apart (λj=>j=Ba) f i)(H:b6 i Ba l m Bd Be v s.cp g)(Q:eS i g db F D s)(q:f<=g)(r:0<s.ds.length->f<=db)(J:bz f Be Bd Bm A d.n d.k d.l false (λa=>a∈aL hs))(p:b6 f Ba l m Bd Be v0 x y)(hi:eG ⟨m,ds,hs⟩)(O:bi m ds hs=some s)(G:fh d)(z:(bw hs).length<=6000/\Kept d hs):aE i N Ba Bd Be Bm ⟨m,ds,hs⟩ d A:=by
 have z4:=u.size;have hf:∀j,j<f.heap.size->¬ four N Ba Bd Bm j->i.heap[j]?=f.heap[j]?:=λj k o=>u.block j (by omega) λe=>o (.inr (.inl e))
 obtain⟨U,l2,l3⟩:=h.eng.lt;obtain⟨T,W,V,X,E,M,R,Z,K⟩:=h;have Y:Ba<w:=by
  obtain⟨_,_,_,_,_,_,_,_,_,I,_⟩:=K;exact I.lt
 have B:∀j,f.heap.size<=j->¬ four N Ba Bd Bm j:=λj k e=>by
  grind
 exact⟨hi,G,C,wi J u E p.notInt,E,M,λj k=>by have:=R j k;omega,z,l,b,c,v,g,db,F,D,s,H,L.le (bF (λj k o=>⟨o,hf j k o⟩) (by omega)),tO P C hf (by omega),O,Q,B g q,λh=>B db (r h)⟩
end
theorem Yy(n:∀h∈hs,∀g∈h.gs,g.cp<18446744073709551616)(l:s.k=s.n)(j:s.wt=none)(h:(s.save hs).1≠0)(keep a:Int):(((s.save hs).2.restart keep a).n.ft=s.n.ft/\((s.save hs).2.restart keep a).n.fb=s.n.fb)\/Holds ((s.save hs).2.restart keep a) hs:=by
 have Ha:∀r:Dk,r.d=false->r.n.ft=s.n.ft->r.n.fb=s.n.fb->r.n.ft=s.n.ft/\r.n.fb=s.n.fb:=λr _ f o=>⟨f,o⟩
 have Hb:∀r:Dk,r.k=s.k->r.wt=none->(r.restart keep a).n.ft=s.n.ft/\(r.restart keep a).n.fb=s.n.fb:=λr d f=>Ha _ rfl (by show (r.restartK keep a).ft=_;unfold Dk.restartK;rw[f];dsimp only;rw[d,l]) (by show (r.restartK keep a).fb=_;unfold Dk.restartK;rw[f];dsimp only;rw[d,l])
 unfold Dk.save at h ⊢
 by_cases hf:bS hs=0
 ·rw[if_pos hf] at h ⊢
  rcases yx s ⟨(bw hs).toArray⟩ with⟨_,_,_,_,e⟩|⟨k,Hg,c,p,e⟩
  ·grind
  ·rw[e];have He:0<k->(bw hs).length<=6000:=λh=>by simpa[ByteArray.size] using Em (c 0 h)
   have Hf:=si hf n
   show ((Dk.restart (s.run _ (k+1)) keep a).n.ft=s.n.ft/\(Dk.restart (s.run _ (k+1)) keep a).n.fb=s.n.fb)\/Holds (Dk.restart (s.run _ (k+1)) keep a) hs
   have m:s.run ⟨(bw hs).toArray⟩ (k+1)=(Dk.act ⟨(bw hs).toArray⟩ k (s.run ⟨(bw hs).toArray⟩ k)).2:=rfl;rw[m]
   rcases El (k:=k) p with⟨rfl,_,i⟩|⟨_,i⟩
   ·rw[i];exact .inl (Hb s rfl j)
   ·rw[i];have Hc:k=0\/k=1\/k=2\/k=3:=by omega
    rcases Hc with rfl|rfl|rfl|rfl
    ·exact .inl (Hb _ rfl j)
    ·rw[yq (c 0 (by omega))];refine .inl (Ha _ rfl ?_ ?_)
     ·show (Dk.restartK _ keep a).ft=_
      by_cases d:1<=keep
      ·grind[Dk.restartK,Dk.fall,Chg.on]
      ·grind[Dk.restartK,Dk.fall,Chg.on]
     ·show (Dk.restartK _ keep a).fb=_
      by_cases d:1<=keep
      ·grind[Dk.restartK,Dk.fall,Chg.on]
      ·grind[Dk.restartK,Dk.fall,Chg.on]
    ·rw[sR (c 0 (by omega)) (c 1 (by omega))];exact .inl (Ha _ rfl rfl rfl)
    ·rw[yr (c 0 (by omega)) (c 1 (by omega)) (c 2 (by omega))]
     by_cases b:1<=keep
     ·refine .inr ⟨rfl,?_,?_,hf,He (by omega),Hf⟩
      ·show (Dk.restartK _ keep a).ft=_
       simp[Dk.restartK,Dk.fall,Chg.on,b]
      ·show (Dk.restartK _ keep a).fb=_
       simp[Dk.restartK,Dk.fall,Chg.on,b]
     ·refine .inl (Ha _ rfl ?_ ?_)
      ·show (Dk.restartK _ keep a).ft=_
       simp[Dk.restartK,Dk.fall,Chg.on,b]
      ·show (Dk.restartK _ keep a).fb=_
       simp[Dk.restartK,Dk.fall,Chg.on,b]
 ·grind
theorem Ia(f:∀h∈hs,∀g∈h.gs,g.cp<18446744073709551616)(ah:s.d=false)(e:s.wt=none)(c:Kept s ls)(h:(s.save hs).1≠0)(keep a:Int):Kept ((s.save hs).2.restart keep a) ls\/Kept ((s.save hs).2.restart keep a) hs:=by
 rcases Yy f c.2.1 e h keep a with⟨b,d⟩|b
 ·refine .inl ⟨?_,rfl,by rw[d];exact c.2.2⟩;rw[<- c.1];unfold Dk.load;rw[b,d,ah];rfl
 ·exact .inr ⟨b.load,rfl,b.size⟩
theorem Al(f:s.k=s.n)(l:Int)(b:s.load=(0,ls))(c:s.n.fb.data.toList.length<=1000000)(d:s.d=false)(keep a:Int):Kept ((⟨s.n,s.k,none,l,true⟩:Dk).restart keep a) ls:=by
 have e:(⟨s.n,s.k,none,l,true⟩:Dk).restartK keep a=s.n:=by grind[Dk.restartK]
 refine⟨?_,rfl,by show ((⟨s.n,s.k,none,l,true⟩:Dk).restartK keep a).fb.data.toList.length<=_;rw[e];exact c⟩;rw[<- b];unfold Dk.load Dk.restart;dsimp only;rw[e,d]
theorem Ib(h:fh s)(hf:bS hs=0):(6000<(bw hs).length->(s.save hs).1=2/\(s.save hs).2=s)/\((bw hs).length<=6000->((s.save hs).1=0/\fh (s.save hs).2/\(s.l=-1->(s.save hs).2.l=-1))\/((s.save hs).1=11/\s.l≠-1)):=by
 obtain⟨ah,n,p⟩:=h;refine⟨λc=>?_,λd=>?_⟩
 ·have Ha:s.write ⟨(bw hs).toArray⟩=(2,s):=if_pos (by grind[ByteArray.size]);have g:s.err ⟨(bw hs).toArray⟩ 0=2:=by
   show (s.write _).1=2
   rw[Ha]
  unfold Dk.save;rw[if_pos hf,Dk.from_no (by decide) (by rw[g];decide)];refine⟨g,?_⟩
  show (s.write _).2=s
  rw[Ha]
 ·have b:s.l=-1->(s.save hs).1=0:=λe=>Ro (s:=s) (by rw[e];decide) ah hf d
  unfold Dk.save at b ⊢;rw[if_pos hf] at b ⊢
  rcases yx s ⟨(bw hs).toArray⟩ with⟨m,o,j,l,e⟩|⟨k,Hb,q,i,e⟩
  ·rw[e,D5 m o j l];refine .inl ⟨rfl,⟨rfl,?_,rfl⟩,λe=>?_⟩
   ·show -1<=bn (bn (bn (bn s.l s.d) false) false) false/\bn (bn (bn (bn s.l s.d) false) false) false<=1000
    rw[ah];exact oy (oy (oy (oy n)))
   ·simp_all[bn]
  ·rw[e] at b ⊢;refine .inr ?_
   rcases El (k:=k) i with⟨rfl,f,_⟩|⟨f,_⟩
   ·exfalso
    have a:(s.write ⟨(bw hs).toArray⟩).1=2:=f;unfold Dk.write at a;rw[if_neg (by grind[ByteArray.size])] at a;unfold Dk.apply at a
    split at a <;> cases a
   ·exact⟨f,λe=>i (b e)⟩
def mY (w':World) (Be Bd Bm n:Nat) (dk:Dk) (hs hs':List ae) (e:Ending):Prop:=dk.l≠-1/\e=.returned (aD ((11:Nat):Int))/\∃(dk':Dk) (n':Nat) (rs':List Rn),n'<=n+36/\bu w' Bd dk'/\pQ w' Be Bd Bm n' rs'/\∀keep torn,Kept (dk'.restart keep torn) hs\/Kept (dk'.restart keep torn) hs'
theorem bz.list(h:bz W Be Bd Bm n sn sk l d C):∃rs,pQ W Be Bd Bm n rs:=by
 obtain⟨e,i,b,c,f,g⟩:=h;exact⟨b.map (aN W),e,b,c,f,λa=>Iff.rfl⟩
theorem Ic{d:Nat}{dk1:Dk}{c:List ae}{e:Ending}(j:dk.l≠-1)(g:e=.returned (aD ((11:Nat):Int)))(k:d<=n+36)(h:bz W Be Bd Bm d dk1.n dk1.k 0 true C)(f:fh dk1)(a:Kept dk1 hs\/Kept dk1 c):mY W Be Bd Bm n dk hs c e:=by
 obtain⟨rs,i⟩:=h.list;refine⟨j,g,⟨dk1.n,dk1.k,none,0,true⟩,d,rs,k,⟨by simp,_,h.disk,rfl⟩,i,λkeep b=>?_⟩
 rcases a with a|a
 ·exact .inl (Al a.2.1 0 a.1 a.2.2 f.1 keep b)
 ·exact .inr (Al a.2.1 0 a.1 a.2.2 f.1 keep b)
