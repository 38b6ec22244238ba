import Derived.Test.YtjlblidnfebmiaaGreatDoorF37
import Derived.Test.YtjlblidnfebmiaaGreatDoorF38
set_option maxRecDepth 100000
set_option maxHeartbeats 16000000
open Go Go.RowKit Go.Shelf
attribute [local go_sem] Oper.semAt_some
open Go.Proofs.Tryz
namespace Go.Proofs.YtjlblidnfebmiaaGreatDoor
variable{Ba Bd Be Bm b base c n pb tb tc tg:Nat}{C:Rn->Prop}{M N:Nat->Prop}{W W':World}{dk:Dk}{hs:List af}{l:List (af × Value × Value)}{m:aL}{sk sn:Sd}{t:bl}{v:Value}
abbrev three (Ba Bd Bm:Nat):Nat->Prop:=λj=>j=Ba\/j=Bd\/j=Bm
theorem uG(h:bT Bd Bm W W'):Apart (three Ba Bd Bm) W W':=⟨h.os,h.tape,h.output,h.size,λj b a=>h.block j b (λe=>a (.inr (.inl e))) (λe=>a (.inr (.inr e)))⟩
theorem rR(h:bL W Be Bd Bm n sn sk C)(c:Apart (λj=>j=Ba) W W')(f:Ba≠Bd/\Ba≠Bm/\Ba≠Be)(hi:∀(b:Array Value) (z:Nat × Nat),W.heap[Ba]?≠some (Obj.cells b 3 z)):bL W' Be Bd Bm n sn sk C:=by
 obtain⟨i,l,p,g,o,m⟩:=h;have d:dY W W':=⟨c.size,λk b z d=>c.block k (gS d).1 λe=>hi b z (by rw[<- e];exact d)⟩;obtain⟨r,q⟩:=pP o d;exact⟨i.block (c.block Be i.lt λe=>f.2.2 e.symm),(c.block Bd l.lt λe=>f.1 e.symm).trans l,p,g.block (c.block Bm g.lt λe=>f.2.1 e.symm),r,λa=>by rw[q];exact m a⟩
theorem bA.notInt{b:Value}{cp:Nat}(h:bA W Ba tb m Bd Be b cp pb):∀(a:Array Value) (z:Nat × Nat),W.heap[Ba]?≠some (Obj.cells a 3 z):=λa z e=>by
 rw[show W.heap[Ba]?=_ from h] at e;cases e
abbrev four (N:Nat->Prop) (Ba Bd Bm:Nat):Nat->Prop:=λj=>N j\/three Ba Bd Bm j
structure aI (W:World) (N:Nat->Prop) (Ba Bd Be Bm:Nat) (t:bl) (dk:Dk) (n:Nat):Prop where
 inv:fY t
 calm:Calm dk
 cpus:0<t.m.l.length
 eng:bL W Be Bd Bm n dk.n dk.k (λa=>a∈aN t.hs)
 apart:Ba≠Bd/\Ba≠Bm/\Ba≠Be
 free:¬ N Ba/\¬ N Bd/\¬ N Bm/\¬ N Be
 nlt:∀j,N j->j<W.heap.size
 txt:(bn t.hs).length<=6000/\Kept dk t.hs
 body:∃tb b c hv pb db ao pc s,bA W Ba tb t.m Bd Be hv (s:aE).cp pb/\aY (au (four N Ba Bd Bm) W) hv t.hs/\dZ (au (four N Ba Bd Bm) W) tb b 0 c t.m/\be t.m t.ds t.hs=some s/\ek W pb db ao pc s/\¬ four N Ba Bd Bm pb/\(0<s.ds.length->¬ four N Ba Bd Bm db)
theorem aI.grow{g:Nat->Prop}(h:aI W N Ba Bd Be Bm t dk n)(d:Below W W W')(H:∀j,g j->N j\/W.heap.size<=j)(M:∀j,g j->j<W'.heap.size):aI W' g Ba Bd Be Bm t dk n:=by
 obtain⟨G,O,He,p,J,l,P,z,m,b,c,C,v,db,y,K,s,u,E,a,B,o,w,F⟩:=h;obtain⟨D,L,A⟩:=p.lt;have I:=u.lt;have x:=o.pool.lt;have hf:∀j,j<W.heap.size->¬ N j->¬ g j:=λj k i f=>(H j f).elim i (by omega)
 have Ha:∀j,j<W.heap.size->¬ four N Ba Bd Bm j->¬ four g Ba Bd Bm j:=λj k i f=>f.elim (λe=>hf j k (λe=>i (.inl e)) e) λe=>i (.inr e)
 have hle:aZ (au (four N Ba Bd Bm) W) (au (four g Ba Bd Bm) W'):=bE (λj k i=>⟨Ha j k i,d.block j k⟩) d.size;refine⟨G,O,He,p.below d,J,⟨hf _ I l.1,hf _ L l.2.1,hf _ A l.2.2.1,hf _ D l.2.2.2⟩,M,z,m,b,c,C,v,db,y,K,s,u.below d,E.le hle,?_,B,o.below d,Ha _ x w,λr=>Ha _ ((o.pool.at0 r).2.2) (F r)⟩;have q:¬ four N Ba Bd Bm m:=fk a.topo.cell;have Hb:=a.topo.tlt;have Hc:=a.topo.lt;rw[bX] at Hb Hc;refine⟨lh a.topo ?_ ?_ ?_,a.good,a.op,a.nd,a.pol⟩
 ·rw[b9 q,b9 (Ha _ Hb q),d.block m Hb]
 ·by_cases nb:four N Ba Bd Bm b
  ·exact absurd nb (fk (a.topo.cells 0 He).1)
  ·rw[b9 nb,b9 (Ha _ Hc nb),d.block b Hc]
 ·rw[bX,bX];exact d.size
theorem aI.other(h:aI W N Ba Bd Be Bm t dk n)(d:Apart N W W')(hi:∀j,N j->∀(g:Array Value) (z:Nat × Nat),W.heap[j]?≠some (Obj.cells g 3 z)):aI W' N Ba Bd Be Bm t dk n:=by
 obtain⟨T,U,Ha,x,Q,i,D,E,q,b,c,H,o,db,C,R,s,A,L,f,G,l,u,w⟩:=h;obtain⟨I,S,F⟩:=x.lt;have hle:aZ (au (four N Ba Bd Bm) W) (au (four N Ba Bd Bm) W'):=bE (λj p v=>⟨v,d.block j p λe=>v (.inl e)⟩) d.size;have B:¬ N o:=λe=>u (.inl e)
 refine⟨T,U,Ha,?_,Q,i,λj p=>Q1 (D j p) d.size,E,q,b,c,H,o,db,C,R,s,(d.block Ba A.lt i.1).trans A,L.le hle,?_,G,?_,u,w⟩
 ·obtain⟨g1,J,K,g3,g4,P⟩:=x;have m:dY W W':=⟨d.size,λk g z m=>d.block k (gS m).1 λe=>hi k e g z m⟩;obtain⟨O,M⟩:=pP g4 m;exact⟨g1.block (d.block Be I i.2.2.2),(d.block Bd S i.2.1).trans J,K,g3.block (d.block Bm F i.2.2.1),O,λa=>by rw[M];exact P a⟩
 ·have r:¬ four N Ba Bd Bm q:=fk f.topo.cell;have Hb:=f.topo.tlt;have Hc:=f.topo.lt;rw[bX] at Hb Hc;refine⟨lh f.topo ?_ ?_ ?_,f.good,f.op,f.nd,f.pol⟩
  ·rw[b9 r,b9 r,d.block q Hb λe=>r (.inl e)]
  ·by_cases nb:four N Ba Bd Bm b
   ·exact absurd nb (fk (f.topo.cells 0 Ha).1)
   ·rw[b9 nb,b9 nb,d.block b Hc λe=>nb (.inl e)]
  ·rw[bX,bX];exact d.size
 ·exact⟨nh l.pool (d.block o l.pool.lt B) (λy=>d.block db (l.pool.at0 y).2.2 λe=>w y (.inl e)) d.size,l.nodes,l.cp⟩
theorem aI.poolAt(h:aI W N Ba Bd Be Bm t dk n):Ba<W/\∀a,W.cell? ⟨Ba,9,none⟩=some (.pointer (some ⟨a,0,none⟩))->a<W.heap.size/\¬ three Ba Bd Bm a:=by
 obtain⟨m,A,Ha,o,v,k,q,u,l,b,c,y,a,db,p,x,s,f,B,z,w,j,i,r⟩:=h;refine⟨f.lt,λd e=>?_⟩;have g:W.cell? ⟨Ba,9,none⟩=some (.pointer (some ⟨a,0,none⟩)):=ad f 9;rw[g] at e;obtain rfl:a=d:=by cases e;rfl
 exact⟨j.pool.lt,λe=>i (.inr e)⟩
theorem aI.poolNew{K:Nat->Prop}(h:aI W N Ba Bd Be Bm t dk n)(k:dA base W Ba)(d:Apart K W W')(g:¬ K Ba)(j:∀a,W.cell? ⟨Ba,9,none⟩=some (.pointer (some ⟨a,0,none⟩))->base<=a->¬ K a):dA base W' Ba:=by
 obtain⟨l,m⟩:=h.poolAt;intro a e;rw[lW (d.block Ba l g)] at e;obtain⟨b,f⟩:=k a e;refine⟨b,λdb n c o i=>f db n c o ?_⟩;rw[<- i];exact (lW (d.block a (m a e).1 (j a e b)) 0).symm
theorem aI.poolUp(h:aI W N Ba Bd Be Bm t dk n)(k:dA base W Ba)(g:base<=W)(l:io W W' Ba)(o:Apart (three Ba Bd Bm) W W'):dA base W' Ba:=by
 rcases l with e|e
 ·obtain⟨p,d⟩:=h.poolAt;intro a b;rw[lW e] at b;obtain⟨i,f⟩:=k a b;refine⟨i,λdb n c m j=>f db n c m ?_⟩;rw[<- j];exact (lW (o.block a (d a b).1 (d a b).2) 0).symm
 ·exact e.less g
theorem yx:(bn []).length<=6000:=by
 have:=qL (dj [])
 have h:bn []=dB (dj []):=rfl;rw[h];omega
theorem Fc{ds:List ak}(h:dI ds=0):be m ds []=some ⟨m.op,ds,λ_=>false⟩:=by unfold be;rw[if_pos h];rfl
theorem yy(h:0<=m.nb):bS m []=true:=by grind[bS,cP,ey]
theorem Fd{c:dE}(h:cX c=0):dU c.l=0/\(0<=c.nb/\c.nb<=1125899906842624)/\(0<=c.pol/\c.pol<=3)/\dI c.ds=0:=by grind[cX]
theorem Ve{l:List ah}{i:Int}{d:Bool}{f:List RV}(h:bG W tb tg 0 tc l)(b:0<l.length)(ag:aU W Bd sn sk v i d)(c:bF W Bm n f):(tb≠Bd/\tb≠Bm)/\(tg≠Bd/\tg≠Bm):=by
 have a:W.cell? Bd=some (.bool sn.ft):=ad ag 0;obtain⟨g,cl,Ha⟩:=c.isMap;have a2:∀j,W.cell? ⟨Bm,j,none⟩=none:=λj=>by simp[World.cell?,Ha]
 have c1:=h.cell;have c2:=(h.cells 0 b).1;refine⟨⟨λe=>?_,λe=>?_⟩,λe=>?_,λe=>?_⟩
 ·rw[e,a] at c1;cases c1
 ·rw[e,a2] at c1;cases c1
 ·rw[e] at c2;have c2:W.cell? Bd=_:=c2;rw[a] at c2;cases c2
 ·rw[e,a2] at c2;cases c2
theorem Vf{j:Nat}{l:List ah}{p:Option Addr}(h:bG W tb tg 0 tc l)(b:0<l.length)(a:W.cell? j=some (.pointer p)):tb≠j/\tg≠j:=by
 have c1:=h.cell;have c2:=(h.cells 0 b).1;refine⟨λe=>?_,λe=>?_⟩
 ·rw[e,a] at c1;cases c1
 ·rw[e] at c2;have c2:W.cell? j=_:=c2;rw[a] at c2;cases c2
structure Vg (w w':World) (N:Nat->Prop) (c:dE) (Bd Be Bm:Nat) (dk:Dk) (e:Ending):Prop where
 bad:cX c≠0->e=.returned (.tuple #[.pointer none,aJ (cX c)])
 good:cX c=0->∃Ba,e=.returned (.tuple #[.pointer (some ⟨Ba,0,none⟩),.nilIface])/\aI w' N Ba Bd Be Bm ⟨cB c,c.ds,[]⟩ dk 0/\(w.heap.size<=Ba/\dA w w' Ba)
 o:Apart (gQ Bd Bm) w w'
section
abbrev iN:=λ(x0:ByteArray) (x1:Int) (x2:Option Addr) (x3 x4:Nat) (x5:Option Addr) (x6 x7:Nat)=>(.cells #[x0,x1,.slice x2 x3 x4,.slice x5 x6 x7] 101:Obj)
theorem Fe(v:Value)(hs:List af)(w:World)(h:aY w v hs)(R:hs.length<=100):Calls prog 51 #[v] w λe w'=>∃(l:List (aj × Value)) (p:Option Addr) (vc:Nat),e=.returned (.slice p l.length vc)/\l.map Prod.fst=hs.map af.pod/\w'.ownsRow w 49 3 (.slice p l.length vc) l.length (rowP l)/\(∀x∈l,aQ w x.2 x.1.cs)/\Below w w w':=by
 obtain⟨i0,hi,Hz,C,A⟩:=info_parts xH;obtain⟨O,c,rfl,B,u⟩:=h;unfold maxLen at B;have F:=qI u;clear u
 go_enter func51,ntmps51
 go_wp2
 go_loopw [3,8] (λG i wr=>∃(k:Nat) (l:List (aj × Value)),k<=hs.length/\i=.int .i64 k/\l.length=k/\l.map Prod.fst=(hs.take k).map af.pod/\wr.ownsRow w 49 3 G l.length (rowP l)/\(∀x∈l,aQ w x.2 x.1.cs)/\Below w w wr) (λ_ i _=>hs.length - (intOf i).toNat)
 case atStart=>exact⟨0,[],by omega,rfl,rfl,rfl,Qw _ _ _ _,λx L=>(List.not_mem_nil L).elim,Q0 _ _⟩
 case round=>
  obtain⟨k,l,Q,rfl,Hr,Hh,Ha,Hm,q⟩:=hrel;have Hy:=qI Hr;have Hj:=qI Hh;have Hq:=qI Hm;have r:=qI q;have M:l.length<=100:=by omega
  have P:=q.size;clear Hr Hh Hm
  by_cases f:k<hs.length
  ·obtain⟨b,o,cv,I,rfl,Hk⟩:=F.o (by omega);obtain⟨E,H,s,z⟩:=((Hk.below q).2 k f).1;have Hg:=(Hk.2 k f).2.1;have Hn:Hu ((hs.take (k+1)).map af.pod=(hs.take k).map af.pod++[(ag hs k).pod]):=by
    unfold Hu;rw[Qa f,Qj];simp[ag,f]
   have He:=qI Hg;obtain⟨ca,cc,Hl,_,_⟩:=id Hg;rw[Hl] at s He;obtain⟨ga,gc,Ho,_,_⟩:=id (Hk.2 k f).2.2;rw[Ho] at z;clear Hk Hg q Hl Ho;generalize ag hs k=x at *;obtain⟨⟨g,d,a⟩,m⟩:=x;dsimp only at E H s z He Hn;obtain⟨p,vc,D⟩:=gI Ha;subst D;have t:=(Q0 wr wr).alloc (lR) (iN g d ca a.length cc ga m.length gc);have Hb:=Ha.alloc (iN g d ca a.length cc ga m.length gc);have Hx:=qI (r.o.trans (t.mono r.o.size));have Hs:w.heap.size<=(wr.alloc (iN g d ca a.length cc ga m.length gc)).heap.size:=by simp;omega
   have Hf:=tY (wr.alloc (iN g d ca a.length cc ga m.length gc)) g d (.slice ca a.length cc) 49;rw[show (wr.alloc (iN g d ca a.length cc ga m.length gc)).heap.size=wr.heap.size+1 by simp] at Hf;have Hv:=qI Hf;have Hw:w.heap.size<=((wr.alloc (iN g d ca a.length cc ga m.length gc)).alloc (.cells #[g,(d:Int),.slice ca a.length cc] 49)).heap.size:=by simp;omega
   clear t Hf Ha
   go_wp2_with (at_builtin;refine wpList_append_own _ rfl _ _ 67 rfl w 49 i0 _ 3 48 underlying67 hi Hz C A rfl (by decide) _ _ _ rfl (Hb.alloc _) ⟨_,0,none⟩ 1 1 (gM (⟨g,d,[]⟩,.slice ca a.length cc)) rfl rfl Hv.o (tZ g d ca a.length cc) (by unfold maxLen;omega) (by omega) Hw ?_;intro S N Hi Hc _)
   go_roundw
   case rel=>
    refine⟨k+1,l++[(⟨g,d,a⟩,.slice ca a.length cc)],by omega,by go_num,by rw[Q2,Hy.o];rfl,by rw[Qj,Hj.o,Hn.o];rfl,?_,λy n=>?_,?_⟩
    ·rw[tX,Q2];exact Hi
    ·rcases Qi.1 n with n|n
     ·exact Hq.o y n
     ·rw[Qm.1 n];exact He.o
    ·exact (Hx.o.alloc Hs _).grown Hc (by simp;omega) λj K=>(Hb.lt j K).1
   case measure=>simp[intOf];omega
  ·have Hp:k=hs.length:=by omega
   have J:Hu (l.map Prod.fst=hs.map af.pod):=by unfold Hu;rw[Hj.o,Hp,Qh]
   clear Hp;obtain⟨p,vc,Ht⟩:=gI Ha;subst Ht
   go_wp2
   go_ret;exact⟨l,p,vc,rfl,J.o,Ha,Hq.o,r.o⟩
theorem rS{nm:ByteArray}:dK hs nm=true↔∃h∈hs,h.pod.nm=nm:=by
 unfold dK
 simp
theorem Vh(h:fY t){p:aj}{s:aE}(hs:be t.m t.ds t.hs=some s)(b:bu p=0)(i:dK t.hs p.nm=false)(j:t.hs.length<12)(c:(aX t.m s p).1=0):bw (cD t.hs ⟨p,(aX t.m s p).2⟩)=0/\(∃f,be t.m t.ds (cD t.hs ⟨p,(aX t.m s p).2⟩)=some f)/\(cD t.hs ⟨p,(aX t.m s p).2⟩).length=t.hs.length+1:=by
 have Hc:s.ds.length<=16:=by rw[kP hs];exact (mn h.devs).1
 obtain⟨k,a2,a3⟩:=cW.1 h.held;have Hb:(aX t.m s p).2.length=p.cs.length:=qT t.m s p.cs p.cs.length c;have Ha:=wP t.hs ⟨p,(aX t.m s p).2⟩;have g:(cD t.hs ⟨p,(aX t.m s p).2⟩).length=t.hs.length+1:=by rw[<- Ha.length_eq,Q2,List.length_singleton]
 refine⟨cW.2 ⟨by omega,λx a=>?_,Cb a3 λy d e=>?_⟩,⟨_,B7 hs Hc (tH b) c Ha⟩,g⟩
 ·rcases Qi.1 (Ha.mem_iff.2 a) with a|a
  ·exact a2 x a
  ·rw[Qm.1 a];exact⟨b,Hb,wR (wQ p.cs.length)⟩
 ·have:=rS.2 ⟨y,d,e⟩
  rw[i] at this;cases this
section exits
variable{t:bl}{p:aj}
theorem Ff(h:bu p≠0):bi t p=(bu p,t.hs):=by unfold bi;rw[if_pos h]
theorem Fg(h:bu p=0)(a:dK t.hs p.nm=true):bi t p=(5,t.hs):=by unfold bi;rw[if_neg λk=>k h,if_pos (rS.1 a)]
theorem rT(a:dK t.hs p.nm=false):¬ ∃h∈t.hs,h.pod.nm=p.nm:=λh=>by rw[rS.2 h] at a;cases a
theorem Fh(h:bu p=0)(a:dK t.hs p.nm=false)(b:12<=t.hs.length):bi t p=(2,t.hs):=by unfold bi;rw[if_neg λk=>k h,if_neg (rT a),if_pos b]
theorem Fi(h:bu p=0)(b:dK t.hs p.nm=false)(c:t.hs.length<12)(a:bS t.m (t.hs.map af.pod++[p])=false):bi t p=(7,t.hs):=by grind[bi,rT]
variable{s:aE}
theorem Fj(h:bu p=0)(d:dK t.hs p.nm=false)(b:t.hs.length<12)(c:bS t.m (t.hs.map af.pod++[p])=true)(hs:be t.m t.ds t.hs=some s)(a:(aX t.m s p).1≠0):bi t p=((aX t.m s p).1,t.hs):=by grind[bi,rT]
theorem Fk(h:bu p=0)(e:dK t.hs p.nm=false)(c:t.hs.length<12)(d:bS t.m (t.hs.map af.pod++[p])=true)(hs:be t.m t.ds t.hs=some s)(a:(aX t.m s p).1=0)(b:6000<(bn (cD t.hs ⟨p,(aX t.m s p).2⟩)).length):bi t p=(2,t.hs):=by grind[bi,rT]
theorem Vi(h:bu p=0)(e:dK t.hs p.nm=false)(c:t.hs.length<12)(d:bS t.m (t.hs.map af.pod++[p])=true)(hs:be t.m t.ds t.hs=some s)(a:(aX t.m s p).1=0)(b:¬ 6000<(bn (cD t.hs ⟨p,(aX t.m s p).2⟩)).length):bi t p=(0,cD t.hs ⟨p,(aX t.m s p).2⟩):=by grind[bi,rT]
end exits
theorem uH{b:Dk}(h:bL W Be Bd Bm n dk.n dk.k C)(d:W.grownBy W' (some Bd))(ag:bz W' Bd b)(l:Calm b):bL W' Be Bd Bm n b.n b.k C:=by
 obtain⟨j,a2,a3⟩:=h.apart;obtain⟨p,v,m⟩:=h.lt;obtain⟨r,f,s,i,o,g⟩:=h;have c:dY W W':=⟨d.size,λk q z c=>d.block k (gS c).1 (λe=>by
  injection e with e
  have f:W.heap[Bd]?=_:=f;rw[<- e,c] at f;cases f)⟩
 obtain⟨u,t⟩:=pP o c;exact⟨r.block (d.block Be p λe=>j (by injection e)),pQ ag l,s,i.block (d.block Bm m λe=>a3 (by injection e with e;exact e.symm)),u,λa=>by rw[t];exact g a⟩
def yz (l:List (af × Value × Value)) (i:Nat):Prop:=∀(base:Nat) (v:Value) (y:af × Value × Value) (a:Addr) (w:World),w.ownsRow base 101 4 v l.length (l.flatMap aP)->(∀j u,(aP y)[j]?=some u->w.cell? (a.add j)=some u)->(∀u∈aP y,u.oneCell'=true)->base<=w->v.ownBlock≠some a.block->(∃arr ty,w.heap[a.block]?=some (Obj.cells arr ty (0,0)))->(∀x∈l,∀u∈aP x,u.oneCell'=true)->
 Calls prog 54 #[v,(i:Int),.slice (some a) 1 1] w λe w'=>∃v',e=.returned v'/\w'.ownsRow base 101 4 v' (l.length+1) ((l.take i++y :: l.drop i).flatMap aP)/\w.grownBy w' v.ownBlock
theorem Fl(h:l.length<=100):yz l l.length:=by
 intro base v y a w f g b c _ _ _;refine (U4 base v l.length _ (aP y) a 1 w f g rfl b h c).mono ?_;rintro e w' ⟨d,rfl,j,i⟩;refine⟨d,rfl,?_,i⟩;rw[Qh,List.drop_length,List.flatMap_append]
 simpa using j
theorem Vj(l:List (af × Value × Value))(i:Nat)(y:af × Value × Value):(l.take i++y :: l.drop i).map Prod.fst=(l.map Prod.fst).take i++y.1 :: (l.map Prod.fst).drop i:=by simp[List.map_take,List.map_drop]
theorem Fm{N:Nat}(h:W.ownsRow N 101 4 v l.length (l.flatMap aP))(q:∀j,M j->j<N)(d:∀x∈l,aQ (au M W) x.2.1 x.1.pod.cs/\b7 (au M W) x.2.2 x.1.gs):aY (au M W) v (l.map Prod.fst):=by
 have t:=h
 rcases h.2 with⟨f,r⟩|⟨g,c,s,f,u,Ha,Hc,Hb,_⟩
 ·have:l=[]:=Qe r
  subst this;rw[f];exact⟨none,0,rfl,⟨lR,Nat.zero_le _⟩,λh=>absurd h (Nat.lt_irrefl 0)⟩
 ·subst f;have key:∀(l:List (af × Value × Value)) (k:Nat) (b:k<l.length) (j:Nat),j<4->(l.flatMap aP)[k*4+j]?=(aP l[k])[j]?:=by
   intro l
   induction l with
   | nil=>intro k b;simp at b
   | cons a l ih=>
    intro k b j i;rw[List.flatMap_cons];cases k with
    | zero=>rw[List.getElem?_append_left (by simp[aP];omega)];simp
    | succ k=>
     rw[List.getElem?_append_right (by simp[aP];omega)]
     have:=ih k (by simpa using b) j i
     simp only[List.getElem_cons_succ];rw[<- this]
     congr 1
     simp[aP]
     omega
  refine⟨_,c,by rw[Q9],by rw[Q9];exact⟨Hc,Hb⟩,λ_=>⟨g,0,λk=>(l.getD k (ag [] 0,.nilIface,.nilIface)).2.1,λk=>(l.getD k (ag [] 0,.nilIface,.nilIface)).2.2,rfl,by rw[bX];exact (gS Ha).1,λk b=>?_⟩⟩;rw[Q9] at b;have e:ag (l.map Prod.fst) k=l[k].1:=by simp[ag,b]
  have p:l.getD k (ag [] 0,.nilIface,.nilIface)=l[k]:=by simp[b]
  obtain⟨n,m⟩:=d _ (List.getElem_mem b);dsimp only;rw[e,p];have cc:∀j,j<4->(au M W).cell? ⟨g,0+k*4+j,none⟩=(aP l[k])[j]?:=λj i=>by
   rw[World.cell?_of_block (a:=⟨g,0+k*4+j,none⟩) (b9 (λo=>by have:=q g o;omega)),Qd,t.cellAt (k*4+j) (by omega)];exact key l k b j i
  exact⟨⟨cc 0 (by decide),cc 1 (by decide),cc 2 (by decide),cc 3 (by decide)⟩,n,m⟩
theorem Fo{w':World}{N:Nat}{u:Value}{cv a:Nat->Value}(h:w'.ownsRow N 101 4 u hs.length ((List.range hs.length).flatMap λk=>ub (ag hs k) (cv k) (a k))){W0:World}(b:∀k,k<hs.length->aQ W0 (cv k) (ag hs k).pod.cs/\b7 W0 (a k) (ag hs k).gs):∃l:List (af × Value × Value),l.map Prod.fst=hs/\w'.ownsRow N 101 4 u l.length (l.flatMap aP)/\∀x∈l,aQ W0 x.2.1 x.1.pod.cs/\b7 W0 x.2.2 x.1.gs:=by
 refine⟨(List.range hs.length).map λk=>(ag hs k,cv k,a k),?_,?_,?_⟩
 ·rw[List.map_map];refine List.ext_getElem (by simp) λi f e=>?_
  simp[ag,e]
 ·rw[Q9,List.length_range,List.flatMap_map];exact h
 ·intro x c;obtain⟨k,d,rfl⟩:=Qk.1 c;exact b k (List.mem_range.1 d)
end
theorem Vk{X V:World}{o:Nat}(h:dZ X tb b o c m)(a:Below X X V)(f:X<=pb):dZ (au (λj=>j=pb) V) tb b o c m:=by
 have d:=h.topo.tlt;have e:=h.topo.lt;refine⟨lh h.topo ?_ ?_ ?_,h.good,h.op,h.nd,h.pol⟩
 ·rw[b9 (by omega),a.block tb d]
 ·rw[b9 (by omega),a.block b e]
 ·rw[bX];exact a.size
theorem Vl(h:dZ (au M W) tb b 0 c m)(d:0<m.l.length):dZ W tb b 0 c m:=by
 have a:¬ M tb:=fk h.topo.cell;have nb:¬ M b:=fk (h.topo.cells 0 d).1;exact⟨lh h.topo (b9 a).symm (b9 nb).symm (by rw[bX];exact lR),h.good,h.op,h.nd,h.pol⟩
theorem rU(h:dZ (au M W) tb b 0 c m)(g:0<m.l.length)(f:∀j,j<W.heap.size->¬ M j->W'.heap[j]?=W.heap[j]?)(hs:W<=W'.heap.size):dZ (au M W') tb b 0 c m:=by
 have a:¬ M tb:=fk h.topo.cell;have nb:¬ M b:=fk (h.topo.cells 0 g).1;have e:=h.topo.tlt;have d:=h.topo.lt;rw[bX] at e d;refine⟨lh h.topo ?_ ?_ ?_,h.good,h.op,h.nd,h.pol⟩
 ·rw[b9 a,b9 a,f tb e a]
 ·rw[b9 nb,b9 nb,f b d nb]
 ·rw[bX,bX];exact hs
theorem Vm{x:af × Value × Value}(h:aQ W x.2.1 x.1.pod.cs/\b7 W x.2.2 x.1.gs):∀u∈aP x,u.oneCell'=true:=by
 obtain⟨a,cv,aD⟩:=x;obtain⟨⟨d,c1,b,_⟩,⟨a2,c2,c,_⟩⟩:=h;dsimp only at b c;subst b c;exact yq _ _ _ _ _ _ _
theorem Vn{w C:World}{K:Nat}{i:Nat}{y:af × Value × Value}(b:C.ownsRow K 101 4 v (l.length+1) ((l.take i++y :: l.drop i).flatMap aP))(e:∀j,M j->j<w.heap.size)(k:w<=K)(old:∀x∈l,aQ (au M w) x.2.1 x.1.pod.cs/\b7 (au M w) x.2.2 x.1.gs)(d:Below w w C)(g:aQ (au M C) y.2.1 y.1.pod.cs)(h:b7 (au M C) y.2.2 y.1.gs):aY (au M C) v ((l.map Prod.fst).take i++y.1 :: (l.map Prod.fst).drop i):=by
 rw[<- Vj];have Ha:(l.take i++y :: l.drop i).length=l.length+1:=by simp;omega
 have hle:aZ (au M w) (au M C):=bE (λj c f=>⟨f,d.block j c⟩) d.size;refine Fm (N:=K) (by rw[Ha];exact b) (λj c=>Q1 (e j c) k) λx a=>?_
 rcases Qi.1 a with a|a
 ·exact⟨(old x (List.mem_of_mem_take a)).1.le hle,(old x (List.mem_of_mem_take a)).2.le hle⟩
 ·rcases List.mem_cons.1 a with a|a
  ·rw[a];exact⟨g,h⟩
  ·exact⟨(old x (List.mem_of_mem_drop a)).1.le hle,(old x (List.mem_of_mem_drop a)).2.le hle⟩
section
variable{N:Nat->Prop}{Ba Bd Be Bm:Nat}{t:bl}{dk:Dk}{n:Nat}{p:aj}
theorem aI.keep{w W:World}(h:aI w N Ba Bd Be Bm t dk n)(a:Below w w W):aI W N Ba Bd Be Bm t dk n:=h.grow a (λ_ k=>.inl k) (λj k=>Q1 (h.nlt j k) a.size)
theorem aI.disk{W W':World}{a:Dk}(h:aI W N Ba Bd Be Bm t dk n)(d:W.grownBy W' (some Bd))(ag:bz W' Bd a)(p:Calm a)(k:Kept a t.hs):aI W' N Ba Bd Be Bm t a n:=by
 have B:=uH h.eng d ag p;obtain⟨G,I,Ha,H,r,v,x,y,D,b,c,A,l,db,w,F,s,u,C,E,z,g,m,o⟩:=h;have hf:∀j,j<W.heap.size->¬ four N Ba Bd Bm j->W'.heap[j]?=W.heap[j]?:=λj f i=>d.block j f λe=>i (.inr (.inr (.inl (by injection e))))
 refine⟨G,p,Ha,B,r,v,λj f=>Q1 (x j f) d.size,⟨y.1,k⟩,D,b,c,A,l,db,w,F,s,(d.block Ba u.lt λe=>r.1 (by injection e)).trans u,C.le (bE (λj f i=>⟨i,hf j f i⟩) d.size),rU E Ha hf d.size,z,⟨nh g.pool (hf l g.pool.lt m) (λq=>hf db (g.pool.at0 q).2.2 (o q)) d.size,g.nodes,g.cp⟩,m,o⟩
theorem rV{w W:World}{e:Nat}(h:aI w N Ba Bd Be Bm t dk n)(a:Below w w W)(d:bi t p=(e,t.hs)):(∃b c,(c<=n+dS (aN t.hs) (aN (bi t p).2)/\io w W Ba)/\aI W N Ba Bd Be Bm ⟨t.m,t.ds,(bi t p).2⟩ b c)/\Apart (three Ba Bd Bm) w W:=by
 rw[d];exact⟨⟨dk,n,⟨Nat.le_add_right _ _,.inl (a.block Ba h.poolAt.1)⟩,h.keep a⟩,Apart.of_below a⟩
theorem Vo{w W W':World}{e:Nat}{a:Dk}(h:aI w N Ba Bd Be Bm t dk n)(b:Below w w W)(d:W.grownBy W' (some Bd))(ag:bz W' Bd a)(i:Calm a)(c:a=dk)(g:bi t p=(e,t.hs)):(∃a f,(f<=n+dS (aN t.hs) (aN (bi t p).2)/\io w W' Ba)/\aI W' N Ba Bd Be Bm ⟨t.m,t.ds,(bi t p).2⟩ a f)/\Apart (three Ba Bd Bm) w W':=by
 rw[g];exact⟨⟨a,n,⟨Nat.le_add_right _ _,.inl ((d.block Ba (Q1 h.poolAt.1 b.size) λe=>h.apart.1 (by injection e)).trans (b.block Ba h.poolAt.1))⟩,(h.keep b).disk d ag i (c ▸ h.txt.2)⟩,(Apart.of_below b).trans (gm d λj e _=>.inr (.inl (by injection e with e;exact e.symm)))⟩
theorem aI.next{w W0 E f l:World}{m:aL}{ds:List ak}{hs:List af}{d:Dk}{B o b c k db:Nat}{v v0:Value}{A:Option Addr}{I z r:Nat}{s:aE}(h:aI w N Ba Bd Be Bm t dk n)(K:Below w w W0)(P:dZ (au (four N Ba Bd Bm) W0) o b 0 c m)(G:0<m.l.length)(O:aY (au (four N Ba Bd Bm) W0) v hs)(C:W0.grownBy E (some Bd))(J:bT Bd Bm E f)(u:Apart (λj=>j=Ba) f l)(S:bA l Ba o m Bd Be v s.cp k)(L:ek l k db A I s)(p:f<=k)(q:0<s.ds.length->f<=db)(Q:bL f Be Bd Bm B d.n d.k (λa=>a∈aN hs))(x:bA f Ba o m Bd Be v0 z r)(hi:fY ⟨m,ds,hs⟩)(U:be m ds hs=some s)(T:Calm d)(y:(bn hs).length<=6000/\Kept d hs):aI l N Ba Bd Be Bm ⟨m,ds,hs⟩ d B:=by
 have z1:=K.size;have z2:=C.size;have z3:=J.size;have z4:=u.size;have hf:∀j,j<W0.heap.size->¬ four N Ba Bd Bm j->l.heap[j]?=W0.heap[j]?:=λj i g=>
  (u.block j (by omega) λe=>g (.inr (.inl e))).trans ((J.block j (by omega) (λe=>g (.inr (.inr (.inl e)))) λe=>g (.inr (.inr (.inr e)))).trans (C.block j i λe=>g (.inr (.inr (.inl (by injection e))))))
 obtain⟨Y,l2,X⟩:=h.eng.lt;obtain⟨q1,Z,W,q4,H,M,D,q9,R⟩:=h;have l4:Ba<w:=by
  obtain⟨_,_,_,_,_,_,_,_,_,V,_⟩:=R;exact V.lt
 have F:∀j,f.heap.size<=j->¬ four N Ba Bd Bm j:=λj i e=>by
  rcases e with e|e|e|e
  ·have:=D j e;omega
  all_goals omega
 exact⟨hi,T,G,rR Q u H x.notInt,H,M,λj i=>by have:=D j i;omega,y,o,b,c,v,k,db,A,I,s,S,O.le (bE (λj i g=>⟨g,hf j i g⟩) (by omega)),rU P G hf (by omega),U,L,F k p,λh=>F db (q h)⟩
end
end Go.Proofs.YtjlblidnfebmiaaGreatDoor
namespace Go.Proofs
open Go.Shelf
def Tryz.idxH_ren:Go.Shelf.Ren:=⟨fun|6=>147|n=>n,fun|22=>43|23=>101|25=>198|3=>3|0=>0|4=>4|n=>n,fun|n=>n⟩
theorem Tryz.idxH:Go.Proofs.SlLaysH0.n6 Tryz.prog Tryz.idxH_ren:=by
 constructor
 case f6=>exact ⟨Tryz.f147.name,by decide,Tryz.func147.trans (congrArg some (by kernel_rfl))⟩
 all_goals intros;kernel_rfl
end Go.Proofs
namespace Go.Proofs.YtjlblidnfebmiaaGreatDoor
variable{W W':World}{b base cap g i k n:Nat}{hs:List af}{l:List (af × Value × Value)}{nm:ByteArray}{nms:List ByteArray}
structure HS where
 h:af
 ca:Option Addr
 cn:Nat
 cc:Nat
 ga:Option Addr
 gn:Nat
 gc:Nat
instance:Inhabited HS:=⟨⟨ag [] 0,none,0,0,none,0,0⟩⟩
def HS.tri (x:HS):af × Value × Value:=(x.h,.slice x.ca x.cn x.cc,.slice x.ga x.gn x.gc)
def HS.cells (x:HS):List Value:=[.string x.h.pod.nm,.int .i64 x.h.pod.pr,.slice x.ca x.cn x.cc,.slice x.ga x.gn x.gc]
def dH (L:List HS) (k:Nat):HS:=L.getD k default
theorem uI{L:List HS}(h:k<L.length):dH L k=L[k]:=by simp[dH,h]
theorem Vp(h:∀x∈l,aQ W x.2.1 x.1.pod.cs/\b7 W x.2.2 x.1.gs):∃L:List HS,L.map HS.tri=l:=by
 induction l with
 | nil=>exact⟨[],rfl⟩
 | cons x l ih=>
  obtain⟨L,c⟩:=ih λy d=>h y (Qv _ d)
  obtain⟨⟨e,c1,a,_⟩,a2,c2,b,_⟩:=h x List.mem_cons_self;refine⟨⟨x.1,e,x.1.pod.cs.length,c1,a2,x.1.gs.length,c2⟩ :: L,?_⟩;rw[Qq,c]
  congr 1
  obtain⟨g,i,f⟩:=x;dsimp only at a b;rw[a,b];rfl
def Has (cur:Array Value) (k:Nat) (x:HS):Prop:=cur[k*4]?=some (.string x.h.pod.nm)/\cur[k*4+1]?=some (.int .i64 x.h.pod.pr)/\cur[k*4+2]?=some (.slice x.ca x.cn x.cc)/\cur[k*4+3]?=some (.slice x.ga x.gn x.gc)
def dq (W:World) (g cap:Nat) (R:Nat->HS->Prop):Prop:=∃cur,W.heap[g]?=some (.cells cur 101 (0,0))/\cur.size=cap*4/\∀k x,R k x->Has cur k x
theorem dq.mono{R b:Nat->HS->Prop}(h:dq W g cap R)(i:∀k x,b k x->R k x):dq W g cap b:=by
 obtain⟨a,c,f,d⟩:=h;exact⟨a,c,f,λk x e=>d k x (i k x e)⟩
theorem dq.lt{R:Nat->HS->Prop}(h:dq W g cap R):g<W:=by
 obtain⟨b,a,_⟩:=h;exact (gS a).1
theorem dq.block{R:Nat->HS->Prop}(h:dq W g cap R)(b:W'.heap[g]?=W.heap[g]?):dq W' g cap R:=by
 obtain⟨a,d,e,c⟩:=h;exact⟨a,b.trans d,e,c⟩
theorem dq.cells{R:Nat->HS->Prop}(h:dq W g cap R){x:HS}(l:R k x):W.cell? ⟨g,k*4,none⟩=some (.string x.h.pod.nm)/\W.cell? ⟨g,k*4+1,none⟩=some (.int .i64 x.h.pod.pr)/\W.cell? ⟨g,k*4+2,none⟩=some (.slice x.ca x.cn x.cc)/\W.cell? ⟨g,k*4+3,none⟩=some (.slice x.ga x.gn x.gc):=by
 obtain⟨e,i,m,f⟩:=h;obtain⟨a,b,c,d⟩:=f k x l;have cc:∀j,W.cell? ⟨g,j,none⟩=e[j]?:=λj=>by simp[World.cell?,i]
 rw[cc,cc,cc,cc];exact⟨a,b,c,d⟩
theorem dq.frozen{R:Nat->HS->Prop}(h:dq W g cap R)(j:Nat):W.frozen? ⟨g,j,none⟩=false:=by
 obtain⟨a,b,_⟩:=h;exact bQ b j
theorem dq.there{R:Nat->HS->Prop}(h:dq W g cap R){j:Nat}(c:j<cap*4):(W.cell? ⟨g,j,none⟩).isSome=true:=by
 obtain⟨a,b,d,_⟩:=h;have cc:W.cell? ⟨g,j,none⟩=a[j]?:=by simp[World.cell?,b]
 rw[cc,Array.getElem?_eq_getElem (by omega)];rfl
theorem dq.set{R:Nat->HS->Prop}(h:dq W g cap R)(hi:i<cap)(y:HS):dq ((((W.setCell ⟨g,i*4,none⟩ y.h.pod.nm).setCell ⟨g,i*4+1,none⟩ (y.h.pod.pr:Int)).setCell ⟨g,i*4+2,none⟩ (.slice y.ca y.cn y.cc)).setCell ⟨g,i*4+3,none⟩ (.slice y.ga y.gn y.gc)) g cap (λk x=>(k=i/\x=y)\/(k≠i/\R k x)):=by
 obtain⟨j,e,l,f⟩:=h;refine⟨_,aV (aV (aV (aV e (i*4) _) (i*4+1) _) (i*4+2) _) (i*4+3) _,by simp[l],?_⟩;rintro k x (⟨rfl,rfl⟩|⟨n,m⟩)
 ·unfold Has;simp only[Array.getElem?_setIfInBounds,Array.size_setIfInBounds];refine⟨?_,?_,?_,?_⟩
  ·rw[if_neg (by omega),if_neg (by omega),if_neg (by omega),if_pos trivial,if_pos (by omega)]
  ·rw[if_neg (by omega),if_neg (by omega),if_pos trivial,if_pos (by omega)]
  ·rw[if_neg (by omega),if_pos trivial,if_pos (by omega)]
  ·rw[if_pos trivial,if_pos (by omega)]
 ·obtain⟨a,b,c,d⟩:=f k x m;unfold Has;simp only[Array.getElem?_setIfInBounds];refine⟨?_,?_,?_,?_⟩
  ·rw[if_neg (by omega),if_neg (by omega),if_neg (by omega),if_neg (by omega)];exact a
  ·rw[if_neg (by omega),if_neg (by omega),if_neg (by omega),if_neg (by omega)];exact b
  ·rw[if_neg (by omega),if_neg (by omega),if_neg (by omega),if_neg (by omega)];exact c
  ·rw[if_neg (by omega),if_neg (by omega),if_neg (by omega),if_neg (by omega)];exact d
theorem dq.tail{R:Nat->HS->Prop}(l:∀k x,R k x->k<i):∀(vs:List Value) (o:Nat) (W:World),i*4<=o->dq W g cap R->dq (W.setCells g o vs) g cap R:=by
 intro vs
 induction vs with
 | nil=>intro o W _ h;exact h
 | cons v vs ih=>
  intro o W p h;rw[World.setCells];refine ih (o+1) _ (by omega) ?_;obtain⟨m,f,n,j⟩:=h;refine⟨_,aV f o v,by simp[n],λk x e=>?_⟩;obtain⟨a,b,c,d⟩:=j k x e
  have:=l k x e
  unfold Has;simp only[Array.getElem?_setIfInBounds];refine⟨?_,?_,?_,?_⟩
  ·rw[if_neg (by omega)];exact a
  ·rw[if_neg (by omega)];exact b
  ·rw[if_neg (by omega)];exact c
  ·rw[if_neg (by omega)];exact d
theorem Fp(L:List HS)(k j:Nat)(b:k<L.length)(c:j<4):((L.map HS.tri).flatMap aP)[k*4+j]?=(HS.cells L[k])[j]?:=by
 induction L generalizing k with
 | nil=>simp at b
 | cons a l ih=>
  rw[Qq,List.flatMap_cons];cases k with
  | zero=>rw[List.getElem?_append_left (by simp[aP];omega)];simp[aP,HS.tri,HS.cells]
  | succ k=>
   rw[List.getElem?_append_right (by simp[aP];omega)]
   have:=ih k (by simpa using b)
   simp only[List.getElem_cons_succ];rw[<- this]
   congr 1
   simp[aP]
   omega
theorem Fq(L:List HS):((L.map HS.tri).flatMap aP).length=L.length*4:=by
 induction L with
 | nil=>rfl
 | cons a l ih=>rw[Qq,List.flatMap_cons,Q2,ih,Qg];simp[aP];omega
theorem Vq{L:List HS}(h:W.ownsRow base 101 4 (.slice g n cap) L.length ((L.map HS.tri).flatMap aP)):dq W g cap (λk x=>k<L.length/\x=dH L k)/\base<=g/\L.length<=cap/\cap<=maxLen:=by
 rcases h.2 with⟨b,_⟩|⟨r,d,a,b,q,i,o,f,l,m⟩
 ·cases b
 ·cases b;refine⟨⟨a,i,l,?_⟩,q,o,f⟩;rintro k x ⟨c,rfl⟩;rw[uI c];have e:∀j,j<4->a[k*4+j]?=(HS.cells L[k])[j]?:=λj p=>by
   rw[<- Fp L k j c p,<- m,List.getElem?_take,if_pos (by omega),Array.getElem?_toList]
  exact⟨e 0 (by decide),e 1 (by decide),e 2 (by decide),e 3 (by decide)⟩
theorem Vr{L:List HS}(h:dq W g cap (λk x=>k<L.length/\x=dH L k))(m:base<=g)(t:L.length<=cap)(s:cap<=maxLen):W.ownsRow base 101 4 (.slice g L.length cap) L.length ((L.map HS.tri).flatMap aP):=by
 obtain⟨f,o,l,r⟩:=h;refine⟨Fq L,.inr ⟨g,cap,f,rfl,m,o,t,s,l,?_⟩⟩;have Ha:f.toList.length=cap*4:=by simpa using l
 refine List.ext_getElem? λq=>?_
 rw[List.getElem?_take]
 by_cases j:q<L.length*4
 ·rw[if_pos j];have n:q=q / 4*4+q % 4:=by omega
  have i:q / 4<L.length:=by omega
  obtain⟨a,b,c,d⟩:=r (q / 4) _ ⟨i,rfl⟩;rw[uI i] at a b c d;have p:q % 4<4:=Nat.mod_lt _ (by decide);rw[n,Fp L (q / 4) (q % 4) i p,Array.getElem?_toList]
  have:q % 4=0\/q % 4=1\/q % 4=2\/q % 4=3:=by omega
  rcases this with e|e|e|e <;> rw[e]
  ·exact a
  ·exact b
  ·exact c
  ·exact d
 ·rw[if_neg j,List.getElem?_eq_none (by rw[Fq];omega)]
def yA (nm:ByteArray):Obj:=.cells #[nm] 9
abbrev Fr:=λ(x0:HS)=>(.cells #[x0.h.pod.nm,(x0.h.pod.pr:Int),.slice x0.ca x0.cn x0.cc,.slice x0.ga x0.gn x0.gc] 101:Obj)
theorem Fs(x:HS)(nm:ByteArray)(a:Nat)(W:World)(b:W.heap[a]?=some (yA nm)):Calls prog 104 #[.agg #[x.h.pod.nm,(x.h.pod.pr:Int),.slice x.ca x.cn x.cc,.slice x.ga x.gn x.gc],a] W λe w'=>e=.returned (.bool (decide (x.h.pod.nm=nm)))/\Below W W w':=by
 have b0:cl (W.alloc (Fr x)) a (0) nm:=ad (cC b _) 0;have Ha:a≠W:=by have:=(gS b).1;omega
 have c:=qI ((Q0 W W).alloc (lR) (Fr x));have d:=qG x.h.pod.nm nm;clear b;generalize decide (x.h.pod.nm=nm)=f at *
 go_enter func104,ntmps104
 go_wp2
 go_ret;exact⟨rfl,c.o⟩
theorem Vs(p:HS->Bool):∀(l:List HS) (i:Nat),(Lib.idxByFrom (λ_ y=>p y) default l i=-1/\∀x∈l,p x=false)\/∃k,k<l.length/\Lib.idxByFrom (λ_ y=>p y) default l i=((i+k:Nat):Int)/\p (dH l k)=true/\∀x∈l.take k,p x=false:=by
 intro l
 induction l with
 | nil=>intro i;exact .inl ⟨rfl,λx a=>by cases a⟩
 | cons y r ih=>
  intro i;cases h:p y with
  | true=>exact .inr ⟨0,by simp,by simp[Lib.idxByFrom,h],by simpa[dH] using h,λx a=>by cases a⟩
  | false=>
   rcases ih (i+1) with⟨e,b⟩|⟨k,d,e,c,b⟩
   ·exact .inl ⟨by simp[Lib.idxByFrom,h,e],λx a=>by rcases List.mem_cons.1 a with rfl|a;exact h;exact b x a⟩
   ·refine .inr ⟨k+1,by simpa using d,?_,by simpa[dH] using c,λx a=>?_⟩
    ·simp only[Lib.idxByFrom,h];rw[show (if false=true then (i:Int) else Lib.idxByFrom (λ_ y=>p y) default r (i+1))=Lib.idxByFrom (λ_ y=>p y) default r (i+1) from rfl,e]
     congr 1
     omega
    ·rw[List.take_succ_cons] at a
     rcases List.mem_cons.1 a with rfl|a
     ·exact h
     ·exact b x a
theorem Vt(nm:ByteArray)(h g f:Nat)(L:List HS)(w:World)(n:w.heap[h]?=some (yA nm))(o:dq w g f (λk x=>k<L.length/\x=dH L k))(s:L.length<=100) :
  Calls prog 147 #[.slice g L.length f,.func (.func 104) #[] #[.pointer (some ⟨h,0,none⟩)]] w λe w'=>e=.returned (Lib.idxByFrom (λ_ y=>decide (y.h.pod.nm=nm)) default L 0:Int)/\Below w.heap.size w w':=by
 have p:∀args w,(callFunc 104 args).run prog w=.ok (.enter 104 args) w:=enters_of func104 (by kernel_rfl) rfl;have Hb:h<w:=(gS n).1;have r:PredBelow prog 104 #[h] (λx:HS=>.agg (HS.cells x).toArray) (λy=>decide (y.h.pod.nm=nm)) w:=λW x l=>by
  refine (Fs x nm h W ((l.block h Hb).trans n)).mono ?_;rintro e w' ⟨rfl,Hc⟩;exact⟨rfl,l.trans (Hc.mono l.size)⟩
 have Ha:=AnyQ.slices_IndexFunc Tryz.idxH 4 isAgg101 sizeOf101 HS.cells (λ_=>rfl) (λy=>decide (y.h.pod.nm=nm)) 104 #[.pointer (some ⟨h,0,none⟩)] p g 0 L.length f L w r (lR) (by omega) o.lt (λj m i v hi=>by
  have e:L[j]! = dH L j:=by rw[getElem!_pos L j m,uI m]
  rw[e] at hi;obtain⟨a,b,c,d⟩:=o.cells (k:=j) ⟨m,rfl⟩;rw[Qd]
  match i,hi with
  | 0,hi=>simp[HS.cells] at hi;subst hi;exact a
  | 1,hi=>simp[HS.cells] at hi;subst hi;exact b
  | 2,hi=>simp[HS.cells] at hi;subst hi;exact c
  | 3,hi=>simp[HS.cells] at hi;subst hi;exact d
  | q+4,hi=>simp[HS.cells] at hi)
 rw[Qh] at Ha;exact Ha
theorem Vu(w:World):(zeroValue 101).run prog w=.ok (.agg #[ByteArray.empty,(0:Int),.slice none 0 0,.slice none 0 0]) w:=by kernel_rfl
theorem Vv(w:World)(b:TypeId)(g o n c:Nat)(k:0<n)(d:∀j,j<n*4->(w.cell? ⟨g,o+j,none⟩).isSome=true)(hf:∀j,w.frozen? ⟨g,j,none⟩=false) :
  ∃vs:List Value,(Builtin.clear_ #[43] b #[.slice (some ⟨g,o,none⟩) n c]).run prog w=.ok (.tuple #[]) (w.setCells g o vs):=by
 have f:=Vu w;have He:(Value.agg #[ByteArray.empty,(0:Int),.slice none 0 0,.slice none 0 0]).cells=#[.string ByteArray.empty,.int .i64 0,.slice none 0 0,.slice none 0 0]:=by rfl
 obtain⟨vs,Ha⟩:∃vs,vs=(Builtin.zeroCells (Value.agg #[ByteArray.empty,(0:Int),.slice none 0 0,.slice none 0 0]).cells n).toList:=⟨_,rfl⟩;have Hf:vs.length=n*4:=by rw[Ha,He];simp[Builtin.zeroCells]
 have Hb:∀u∈vs,u.oneCell'=true:=λu a=>by
  rw[Ha,He] at a;simp only[Builtin.zeroCells,Array.toList_map,Qk] at a;obtain⟨q,_,rfl⟩:=a;have h:q % 4<4:=Nat.mod_lt _ (by decide)
  have:q % 4=0\/q % 4=1\/q % 4=2\/q % 4=3:=by omega
  show (#[Value.string ByteArray.empty,.int .i64 0,.slice none 0 0,.slice none 0 0][q % 4]!).oneCell'=true
  rcases this with e|e|e|e <;> rw[e] <;> rfl
 have Hc:=run_storeCells_cells (P:=prog) g o vs 0 w (λj i=>by rw[Nat.add_zero];exact d j (by omega)) (λj _=>hf _) Hb;obtain⟨m,rfl⟩:∃m,n=m+1:=⟨n - 1,by omega⟩;simp only[Nat.add_zero] at Hc;refine⟨vs,?_⟩
 simp[Builtin.clear_,run_underlying underlying43,f,<- Ha,Hc]
def kept (L:List HS) (nm:ByteArray):List HS:=L.filter λx=>!decide (x.h.pod.nm=nm)
theorem Ft{L:List HS}(h:∀x∈L,decide (x.h.pod.nm=nm)=false):kept L nm=L:=List.filter_eq_self.2 λx a=>by rw[h x a];rfl
theorem Fu{L:List HS}(a:b<L.length):kept (L.take (b+1)) nm=kept (L.take b) nm++(if decide ((dH L b).h.pod.nm=nm) then [] else [dH L b]):=by grind[uI,kept,dH,Qa]
theorem Vw{A B:List HS}(h:k<A.length):dH (A++B) k=dH A k:=by simp[dH,List.getD,List.getElem?_append_left h]
theorem Vx{A:List HS}{x:HS}:dH (A++[x]) A.length=x:=by simp[dH,List.getD]
theorem Vy{L:List HS}(h:k<b):dH (L.take b) k=dH L k:=by simp[dH,List.getD,h]
theorem rW(g:Nat):∀(vs:List Value) (o:Nat) (W:World),W.grownBy (W.setCells g o vs) (some g):=by
 intro vs
 induction vs with
 | nil=>intro o W;exact fB (Q0 _ _) _
 | cons v vs ih=>intro o W;exact (cM W ⟨g,o,none⟩ v).trans (ih (o+1) _)
theorem Vz(nm:ByteArray)(h g c:Nat)(L:List HS)(w:World)(t:w.heap[h]?=some (yA nm))(z:h≠g)(v:dq w g c (λk x=>k<L.length/\x=dH L k))(K:L.length<=c)(n:c<=maxLen)(R:L.length<=100) :
  Calls prog 103 #[.slice g L.length c,.func (.func 104) #[] #[.pointer (some ⟨h,0,none⟩)]] w λe w'=>e=.returned (.slice g (kept L nm).length c)/\dq w' g c (λk x=>k<(kept L nm).length/\x=dH (kept L nm) k)/\w.grownBy w' (some g):=by
 have C:=qI (Vt nm h g c L w t v R);have O:=qI t;have E:=qI v;have A:=v.lt;have G:h<w:=(gS t).1;have eg:∀args w,(callFunc 104 args).run prog w=.ok (.enter 104 args) w:=enters_of func104 (by kernel_rfl) rfl;have HE:c<=9223372036854775807:=by unfold maxLen at n;omega
 clear t v n
 go_enter func103,ntmps103
 go_wp2_with fail
 refine C.o.mono ?_;rintro e W1 ⟨rfl,Hw⟩;have Hp:=qI Hw;clear Hw C
 rcases Vs (λy=>decide (y.h.pod.nm=nm)) L 0 with⟨e,Hy⟩|⟨q,N,e,Hi,Hg⟩
 ·rw[e];have u:=qI (Ft Hy);clear e Hy
  go_wp2
  go_ret;rw[u.o];exact⟨rfl,E.o.block (Hp.o.block g A),fB Hp.o _⟩
 ·rw[e,Qd];have u:Hu (kept (L.take (q+1)) nm=L.take q):=by
   unfold Hu;rw[Fu N,if_pos Hi,List.append_nil,Ft Hg]
  have P:(((q:Nat):Int) == -1)=false:=by rw[Qr];omega
  clear e Hi Hg
  go_wp2_with fail
  clear P
  go_loopw [5,6] (λi j wr=>∃a b:Nat,i=.int .i64 a/\j=.int .i64 b/\a<b/\b<=L.length/\a=(kept (L.take b) nm).length/\dq wr g c (λk x=>(k<a/\x=dH (kept (L.take b) nm) k)\/(b<=k/\k<L.length/\x=dH L k))/\w.grownBy wr (some g)) (λ_ j _=>L.length - (intOf j).toNat)
  case atStart=>
   refine⟨q,q+1,rfl,by go_num,by omega,by omega,by rw[u.o,Qu];omega,(E.o.block (Hp.o.block g A)).mono ?_,fB Hp.o _⟩;rintro k x (⟨f,d⟩|⟨f,d,o⟩)
   ·rw[u.o,Vy f] at d;exact⟨by omega,d⟩
   ·exact⟨d,o⟩
  case round=>
   obtain⟨a,b,rfl,rfl,Y,HG,Hx,He,Hn⟩:=hrel;have Hh:=qI Hx;have Hc:=qI He;have Ht:=qI Hn;have S:=Hn.size;have I:=qI ((Hn.block h G λe=>z (by injection e)).trans O.o);clear Hx He Hn
   by_cases p:b<L.length
   ·obtain⟨c0,c1,c2,c3⟩:=Hc.o.cells (k:=b) (x:=dH L b) (.inr ⟨lR,p,rfl⟩);have Hk:=qI (Fu (nm:=nm) p);obtain⟨x,s⟩:∃x,x=dH L b:=⟨_,rfl⟩;rw[<- s] at c0 c1 c2 c3 Hk;have HQ:=qI s;clear s;have Hq:=qI ((Q0 wr wr).alloc (lR) (iN x.h.pod.nm x.h.pod.pr x.ca x.cn x.cc x.ga x.gn x.gc));have Hj:=qI (bd wr (iN x.h.pod.nm x.h.pod.pr x.ca x.cn x.cc x.ga x.gn x.gc) rfl);have Hz:Hu ((wr.alloc (iN x.h.pod.nm x.h.pod.pr x.ca x.cn x.cc x.ga x.gn x.gc)).heap.size=wr.heap.size+1):=by unfold Hu;simp
    have H:cl (wr.alloc (iN x.h.pod.nm x.h.pod.pr x.ca x.cn x.cc x.ga x.gn x.gc)) wr (0) x.h.pod.nm:=ad Hj.o 0;have J:cl (wr.alloc (iN x.h.pod.nm x.h.pod.pr x.ca x.cn x.cc x.ga x.gn x.gc)) wr (1) (x.h.pod.pr:Int):=ad Hj.o 1;have M:cl (wr.alloc (iN x.h.pod.nm x.h.pod.pr x.ca x.cn x.cc x.ga x.gn x.gc)) wr (2) (.slice x.ca x.cn x.cc):=ad Hj.o 2;have Q:cl (wr.alloc (iN x.h.pod.nm x.h.pod.pr x.ca x.cn x.cc x.ga x.gn x.gc)) wr (3) (.slice x.ga x.gn x.gc):=ad Hj.o 3
    go_wp2_with fail
    clear c0 c1 c2 c3 H J M Q;generalize wr.alloc (iN x.h.pod.nm x.h.pod.pr x.ca x.cn x.cc x.ga x.gn x.gc)=X at *;refine (Fs x nm h X ((Hq.o.block h (by omega)).trans I.o)).mono ?_;rintro e m ⟨rfl,Ho⟩;have Hv:=qI (Hq.o.trans (Ho.mono Hq.o.size));have Hm:=qI ((Ho.block wr (by have:=Hz.o;omega)).trans Hj.o);have HT:wr<m.heap.size:=by have:=Ho.size;have:=Hz.o;omega
    have Ha:=qI (Hc.o.block (Hv.o.block g (by omega)));have Hf:=qI (Ht.o.trans (fB Hv.o (some g)));clear Ho
    rcases two (decide (x.h.pod.nm=nm)) with r|r
    ·rw[r] at Hk ⊢;have Hb:Hu (kept (L.take (b+1)) nm=kept (L.take b) nm):=by unfold Hu;rw[Hk.o,if_pos rfl,List.append_nil]
     clear r
     go_wp2
     go_roundw
     case rel=>
      refine⟨a,b+1,rfl,by go_num,by omega,by omega,by rw[Hb.o];exact Hh.o,Ha.o.mono ?_,Hf.o⟩;rintro k y (⟨f,d⟩|⟨f,d,o⟩)
      ·rw[Hb.o] at d;exact .inl ⟨f,d⟩
      ·exact .inr ⟨by omega,d,o⟩
     case measure=>simp[intOf];omega
    ·rw[r] at Hk ⊢;have Hb:Hu (kept (L.take (b+1)) nm=kept (L.take b) nm++[x]):=by unfold Hu;rw[Hk.o];rfl
     have z0:cl m wr (0) x.h.pod.nm:=ad Hm.o 0;have z1:cl m wr (1) (x.h.pod.pr:Int):=ad Hm.o 1;have z2:cl m wr (2) (.slice x.ca x.cn x.cc):=ad Hm.o 2;have z3:cl m wr (3) (.slice x.ga x.gn x.gc):=ad Hm.o 3;have f0:=Ha.o.frozen (a*4);have f1:=Ha.o.frozen (a*4+1);have f2:=Ha.o.frozen (a*4+2);have f3:=Ha.o.frozen (a*4+3);obtain⟨o0,V⟩:=Option.isSome_iff_exists.1 (Ha.o.there (j:=a*4) (by omega));obtain⟨o1,U⟩:=Option.isSome_iff_exists.1 (Ha.o.there (j:=a*4+1) (by omega));obtain⟨T,p2⟩:=Option.isSome_iff_exists.1 (Ha.o.there (j:=a*4+2) (by omega));obtain⟨o3,Z⟩:=Option.isSome_iff_exists.1 (Ha.o.there (j:=a*4+3) (by omega));have F:a<L.length:=by omega
     have Hl:=qI (Ha.o.set (i:=a) (by omega) x);have Hr:Hu (w.grownBy ((((m.setCell ⟨g,a*4,none⟩ x.h.pod.nm).setCell ⟨g,a*4+1,none⟩ (x.h.pod.pr:Int)).setCell ⟨g,a*4+2,none⟩ (.slice x.ca x.cn x.cc)).setCell ⟨g,a*4+3,none⟩ (.slice x.ga x.gn x.gc)) (some g)):=(((Hf.o.trans (cM _ ⟨g,a*4,none⟩ _)).trans (cM _ ⟨g,a*4+1,none⟩ _)).trans (cM _ ⟨g,a*4+2,none⟩ _)).trans (cM _ ⟨g,a*4+3,none⟩ _);clear r
     go_wp2
     go_roundw
     case rel=>
      refine⟨a+1,b+1,by go_num,by go_num,by omega,by omega,by rw[Hb.o,Q2,<- Hh.o];rfl,Hl.o.mono ?_,Hr.o⟩;rintro k y (⟨f,d⟩|⟨f,d,o⟩)
      ·rw[Hb.o] at d
       by_cases l:k=a
       ·refine .inl ⟨l,?_⟩;rw[d,l,Hh.o,Vx]
       ·refine .inr ⟨l,.inl ⟨by omega,?_⟩⟩;rw[d,Vw (by rw[<- Hh.o];omega)]
      ·exact .inr ⟨by omega,.inr ⟨by omega,d,o⟩⟩
     case measure=>simp[intOf];omega
   ·have D:b=L.length:=by omega
    have B:Hu (kept (L.take b) nm=kept L nm):=by unfold Hu;rw[D,Qh]
    obtain⟨vs,W⟩:=Vv wr 0 g (a*4) (L.length - a) (c - a) (by omega) (λj hj=>Hc.o.there (by omega)) λj=>Hc.o.frozen j;have HO:¬ c=a:=by omega
    have F:a<L.length:=by omega
    clear D
    go_wp2
    go_ret;have Hs:a=(kept L nm).length:=by rw[<- B.o];exact Hh.o
    refine⟨by rw[<- Hs];rfl,dq.tail (i:=a) (λk x s=>by rw[Hs];exact s.1) vs (a*4) wr (lR) (Hc.o.mono ?_),Ht.o.trans (rW g vs (a*4) wr)⟩;rintro k x ⟨f,d⟩;rw[B.o,Hs];exact .inl ⟨f,d⟩
theorem VB(l:List Value)(o:Nat)(v:Value)(vs:List Value)(h:o<l.length):(l.set o v).take (o+1)++vs++(l.set o v).drop (o+1+vs.length)=l.take o++(v :: vs)++l.drop (o+(v :: vs).length):=by
 have a:(l.set o v).take (o+1)=l.take o++[v]:=by
  rw[Qa (by simpa using h),List.take_set_of_le (lR)]
  simp
 have b:(l.set o v).drop (o+1+vs.length)=l.drop (o+(v :: vs).length):=by
  rw[List.drop_set_of_lt (by omega)]
  congr 1
  simp only[Qg];omega
 rw[a,b]
 simp
theorem uJ{t:TypeId}:∀(vs:List Value) (o:Nat) (W:World) (a:Array Value),W.heap[g]?=some (.cells a t (0,0))->o+vs.length<=a.size->(W.setCells g o vs).heap[g]?=some (.cells (a.toList.take o++vs++a.toList.drop (o+vs.length)).toArray t (0,0)):=by
 intro vs
 induction vs with
 | nil=>intro o W a h _;rw[World.setCells,h];simp
 | cons v vs ih=>
  intro o W a h b;rw[Qg] at b;rw[World.setCells,ih (o+1) _ (a.setIfInBounds o v) (aV h o v) (by simp;omega)];rw[Array.toList_setIfInBounds,VB _ _ _ _ (by simp;omega)]
theorem VC(l:List (af × Value × Value))(i:Nat):(l.take i).flatMap aP=(l.flatMap aP).take (i*4):=by
 induction l generalizing i with
 | nil=>simp
 | cons x l ih=>
  cases i with
  | zero=>simp
  | succ i=>
   rw[List.take_succ_cons,List.flatMap_cons,List.flatMap_cons,ih i,List.take_append];have a:(aP x).length=4:=rfl;rw[List.take_of_length_le (l:=aP x) (by omega),a,show (i+1)*4 - 4=i*4 by omega]
theorem VD(l:List (af × Value × Value))(i:Nat):(l.drop i).flatMap aP=(l.flatMap aP).drop (i*4):=by
 induction l generalizing i with
 | nil=>simp
 | cons x l ih=>
  cases i with
  | zero=>simp
  | succ i=>
   rw[List.drop_succ_cons,List.flatMap_cons,ih i,List.drop_append];have a:(aP x).length=4:=rfl;rw[List.drop_eq_nil_of_le (show (aP x).length<=_ by omega),a,show (i+1)*4 - 4=i*4 by omega,List.nil_append]
theorem yB(l:List (af × Value × Value)):(l.flatMap aP).length=l.length*4:=by induction l <;> grind[aP]
theorem Fv(l:List (af × Value × Value))(i:Nat)(y:af × Value × Value):(l.take i++y :: l.drop i).flatMap aP=(l.flatMap aP).take (i*4)++aP y++(l.flatMap aP).drop (i*4):=by grind[VC,VD]
theorem VE(A Z ys B : List Value)(k m : Nat)(hA : A.length = k * 4)(hy : ys.length = 4)(hB : B.length = m * 4) : let c1 := (A ++ Z).take (k * 4) ++ ys ++ (A ++ Z).drop (k * 4 + ys.length); (c1.take ((k + 1) * 4) ++ B ++ c1.drop ((k + 1) * 4 + B.length)) = A ++ ys ++ B ++ Z.drop ((m + 1) * 4) := by
  intro c1
  have e1 : c1 = A ++ ys ++ Z.drop 4 := by
    show (A ++ Z).take (k * 4) ++ ys ++ (A ++ Z).drop (k * 4 + ys.length) = _
    rw[hy, List.take_append_of_le_length (by omega), List.take_of_length_le (by omega), List.drop_append, List.drop_eq_nil_of_le (by omega), List.nil_append]
    congr 2
    omega
  have hl : (A ++ ys).length = (k + 1) * 4 := by rw[List.length_append]; omega
  rw[e1, List.take_append_of_le_length (by omega), List.take_of_length_le (by omega), List.drop_append, List.drop_eq_nil_of_le (by omega), List.nil_append, List.drop_drop]
  congr 2
  omega
theorem VF(a R b:List Value)(i n:Nat)(g:a.length=n*4)(hi:i<n)(d:b.length=4):let c1:=(a++R).take ((i+1)*4)++a.drop (i*4)++(a++R).drop ((i+1)*4+(a.drop (i*4)).length);(c1.take (i*4)++b++c1.drop (i*4+b.length))=a.take (i*4)++b++a.drop (i*4)++R.drop 4:=by
 intro c1;have c:c1=a.take ((i+1)*4)++a.drop (i*4)++R.drop 4:=by
  show (a++R).take ((i+1)*4)++a.drop (i*4)++(a++R).drop ((i+1)*4+(a.drop (i*4)).length)=_
  have f:(a++R).drop ((i+1)*4+(a.length - i*4))=R.drop 4:=by
   rw[show (i+1)*4+(a.length - i*4)=a.length+4 by omega,List.drop_append,List.drop_eq_nil_of_le (show a.length<=_ by omega),List.nil_append]
   congr 1
   omega
  rw[List.length_drop,List.take_append_of_le_length (by omega),f]
 have e:(a.take ((i+1)*4)).length=(i+1)*4:=by rw[Qu];omega
 rw[c,List.append_assoc (a.take ((i+1)*4)),List.take_append_of_le_length (by omega),List.take_take,Nat.min_eq_left (by omega),List.drop_append,List.drop_eq_nil_of_le (by omega),List.nil_append,e,d,show i*4+4 - (i+1)*4=0 by omega,List.drop_zero,<- List.append_assoc]
theorem VG(W:World)(o:Option Nat):W.grownBy W.drew o:=fB (show Below W W W.drew from⟨rfl,rfl,rfl,lR,λ_ _=>rfl⟩) o
theorem VH(hi:i<=l.length)(D:l.length<=100):yz l i:=by
 by_cases N:i=l.length
 ·rw[N];exact Fl D
 ·have Ho:i<l.length:=by omega
  intro base v y a w Hm C Hv E H ⟨t,B,Hc⟩ Hn;have Hb:=yB l;have f:(aP y).length=4:=rfl
  rcases Hm.2 with⟨_,U⟩|⟨g,m,c,J,L,Hh,Hw,Ht,F,Hr⟩
  ·omega
  ·subst J;obtain⟨s,d,o⟩:=a;have R:w.cell? ((⟨s,d,o⟩:Addr).add 0)=some (.string y.1.pod.nm):=C 0 _ rfl;have Hf:o=none:=by simpa[Addr.add] using World.cell?_spot R
   subst Hf;have Hz:s≠g:=λe=>H (by rw[<- e];rfl)
   have Hq:∀j u,(l.flatMap aP)[j]?=some u->w.cell? ⟨g,j,none⟩=some u:=λj u h=>by
    have K:j<l.length*4:=by
     have:=(List.getElem?_eq_some_iff.1 h).1
     omega
    rw[<- Hr,List.getElem?_take,if_pos K,Array.getElem?_toList] at h
    simp[World.cell?,Hh,h]
   have Hs:∀j u,(aP y)[j]?=some u->w.cell? ⟨s,d+j,none⟩=some u:=λj u h=>by
    have:=C j u h
    rwa [Addr.add_lit] at this
   have Hp:∀u∈l.flatMap aP,u.oneCell'=true:=λu A=>by
    obtain⟨x,O,A⟩:=List.mem_flatMap.1 A;exact Hn x O u A
   have I:c.toList=l.flatMap aP++c.toList.drop (l.length*4):=by rw[<- Hr,List.take_append_drop]
   have T:c.toList.length=m*4:=by simpa using F
   by_cases n:l.length+1<=m
   ·refine (ME g l.length m i s d 1 (l.flatMap aP) (aP y) w Ho n (by unfold maxLen at Ht;omega) Hz Hb f Hq (λj h=>by
     have:j<c.size:=by omega
     simp[World.cell?,Hh,this]) (λj=>bQ Hh j) Hs Hp Hv B 101 t.size c.size (by simp[World.shape?,Hc]) (by simp[World.shape?,Hh]) (by omega) (bQ Hc d) (bQ Hc t.size)).mono ?_
    rintro e w' ⟨rfl,rfl⟩;refine⟨_,rfl,?_,((VG w (some g)).trans (rW g _ _ _)).trans (rW g _ _ _)⟩;have z:=uJ (l.flatMap aP |>.drop (i*4)) ((i+1)*4) w.drew c Hh (by rw[List.length_drop,Hb];omega);have S:(i+1)*4+((l.flatMap aP).drop (i*4)).length<=c.toList.length:=by rw[List.length_drop,Hb];omega
    have p:=uJ (aP y) (i*4) _ _ z (by
     simp only[List.size_toArray,Q2,Qu,List.length_drop,Hb,f];omega)
    simp only at p;have Ha:=VF (l.flatMap aP) (c.toList.drop (l.length*4)) (aP y) i l.length Hb Ho f;dsimp only at Ha;rw[<- I] at Ha;rw[Ha] at p;refine⟨by rw[yB];simp;omega,.inr ⟨g,m,_,rfl,L,p,n,Ht,?_,?_⟩⟩
    ·simp only[List.size_toArray,Q2,Qu,List.length_drop,Hb,f];omega
    ·rw[Fv,List.toList_toArray,List.take_append_of_le_length (by simp only[Q2,Qu,List.length_drop,Hb,f];omega),List.take_of_length_le (by simp only[Q2,Qu,List.length_drop,Hb,f];omega)]
   ·refine (MM g l.length m i s d 1 (l.flatMap aP) (aP y) w Ho Hw (by omega) D Hb f Hq Hs Hp Hv).mono ?_;rintro e w' ⟨G,P,M,rfl,rfl⟩;have Hk:∀k,(Builtin.zeroCells fX.cells k).size=k*4:=λk=>by
     have Hk:fX.cells.size=4:=rfl;simp only[Builtin.zeroCells,Array.size_map,Array.size_range,Hk]
    obtain⟨b,He⟩:∃b,b=((l.flatMap aP).take (i*4)).toArray++Builtin.zeroCells fX.cells (l.length+1 - i)++Builtin.zeroCells fX.cells (G - (l.length+1)):=⟨_,rfl⟩;have Hi:((l.flatMap aP).take (i*4)).length=i*4:=by rw[Qu,Hb];omega
    have Hj:((l.flatMap aP).drop (i*4)).length=(l.length - i)*4:=by rw[List.length_drop,Hb];omega
    have Q:b.size=G*4:=by
     rw[He];simp only[Array.size_append,List.size_toArray,Hi,Hk];omega
    have Hx:b.toList=(l.flatMap aP).take (i*4)++((Builtin.zeroCells fX.cells (l.length+1 - i)).toList++(Builtin.zeroCells fX.cells (G - (l.length+1))).toList):=by
     rw[He];simp
    rw[<- He];clear He;have Hg:(w.alloc (.cells b 101)).drew.heap[w.heap.size]?=some (.cells b 101 (0,0)):=bd w _ rfl;have z:=uJ (aP y) (i*4) _ b Hg (by rw[f];omega);obtain⟨q,Hl⟩:∃q,q=((w.alloc (.cells b 101)).drew.setCells w.heap.size (i*4) (aP y)).drew:=⟨_,rfl⟩;have r:q.heap[w.heap.size]?=some (.cells (b.toList.take (i*4)++aP y++b.toList.drop (i*4+(aP y).length)).toArray 101 (0,0)):=by rw[Hl];exact z
    have p:=uJ ((l.flatMap aP).drop (i*4)) ((i+1)*4) q _ r (by
     have:b.toList.length=G*4:=by simpa using Q
     simp only[List.size_toArray,Q2,Qu,List.length_drop,Hb,f,this];omega)
    have Hu:Below w.heap.size w q:=by
     rw[Hl];have b1:Below w.heap.size w (w.alloc (.cells b 101)).drew:=bB ((Q0 w.heap.size w).alloc (lR) _);exact bB (b1.grown (rW w.heap.size _ _ _) b1.size (λj h=>by injection h with h;omega))
    have Hy:Below w.heap.size w (q.setCells w.heap.size ((i+1)*4) ((l.flatMap aP).drop (i*4))):=Hu.grown (rW w.heap.size _ _ _) Hu.size (λj h=>by injection h with h;omega);rw[<- Hl];clear Hl z r;simp only at p;have Ha:=VE ((l.flatMap aP).take (i*4)) ((Builtin.zeroCells fX.cells (l.length+1 - i)).toList++(Builtin.zeroCells fX.cells (G - (l.length+1))).toList) (aP y) ((l.flatMap aP).drop (i*4)) i (l.length - i) Hi f Hj;dsimp only at Ha;rw[<- Hx] at Ha;rw[Ha] at p;refine⟨_,rfl,⟨by rw[yB];simp;omega,.inr ⟨w.heap.size,G,_,rfl,E,p,P,M,?_,?_⟩⟩,fB Hy _⟩
    ·simp only[List.size_toArray,Q2,Hi,Hj,f,List.length_drop,Array.length_toList,Hk];omega
    ·rw[Fv,List.toList_toArray,List.take_append_of_le_length (by simp only[Q2,Hi,Hj,f];omega),List.take_of_length_le (by simp only[Q2,Hi,Hj,f];omega)]
theorem VI{K:Nat->Prop}(h:bJ W)(b:Apart K W W')(c:¬ K 1):bJ W':=by
 refine⟨?_,Q1 h.2 b.size⟩;have a:=h.1;unfold kf Lib.TabIs World.var? at a ⊢;simp only[tK,Option.bind_some] at a ⊢;rw[b.block _ h.2 c];exact a
theorem VJ(L:List HS)(nm:ByteArray):(kept L nm).map HS.h=ii (L.map HS.h) nm:=by induction L <;> grind[kept,ii]
theorem uK{rs ws:List Rn}(h:∀a∈ws,a∈rs):dS rs ws=0:=by simp_all[dS]
theorem yC{b:List af}(h:b.Sublist hs):∀a∈aN b,a∈aN hs:=by
 intro a d;obtain⟨x,c,e⟩:=List.mem_flatMap.1 d;exact List.mem_flatMap.2 ⟨x,h.subset c,e⟩
def dr (hs:List af) (nms:List ByteArray):List af:=nms.foldl ii hs
def eS (L:List HS) (nms:List ByteArray):List HS:=nms.foldl kept L
theorem VK(a:k<nms.length):dr hs (nms.take (k+1))=ii (dr hs (nms.take k)) nms[k]:=by
 unfold dr;rw[Qa a,List.foldl_append];rfl
theorem VL{L:List HS}(a:k<nms.length):eS L (nms.take (k+1))=kept (eS L (nms.take k)) nms[k]:=by
 unfold eS;rw[Qa a,List.foldl_append];rfl
theorem pX(hs:List af)(b:List ByteArray):(dr hs b).Sublist hs:=by
 unfold dr
 induction b generalizing hs with
 | nil=>exact List.Sublist.refl _
 | cons a l ih=>exact (ih _).trans (wT hs a)
theorem uL(L:List HS)(b:List ByteArray):(eS L b).Sublist L:=by
 unfold eS
 induction b generalizing L with
 | nil=>exact List.Sublist.refl _
 | cons a l ih=>exact (ih _).trans List.filter_sublist
theorem Fw(L:List HS)(a:List ByteArray):(eS L a).map HS.h=dr (L.map HS.h) a:=by induction a generalizing L <;> grind[eS,dr,VJ]
theorem VM{t:bl}(h:fY t)(a:List ByteArray):fY ⟨t.m,t.ds,dr t.hs a⟩:=by
 obtain⟨s,hs⟩:=h.left;exact⟨h.devs,wU h.held (pX t.hs a),M2 hs (pX t.hs a)⟩
theorem Fx{M:Nat->Prop}{w:World}{L:List HS}(f:dq W g cap (λk x=>k<L.length/\x=dH L k))(h:∀j,M j->j<w.heap.size)(m:w<=g)(n:L.length<=cap)(e:cap<=maxLen)(old:∀x∈L,aQ (au M w) (.slice x.ca x.cn x.cc) x.h.pod.cs/\b7 (au M w) (.slice x.ga x.gn x.gc) x.h.gs)(b:Apart M w W):aY (au M W) (.slice g L.length cap) (L.map HS.h):=by
 have hle:aZ (au M w) (au M W):=bE (λj i c=>⟨c,b.block j i c⟩) b.size;have Ha:=Vr f m n e
 have:=Fm (N:=w.heap.size) (l:=L.map HS.tri) (M:=M) (by rw[Q9];exact Ha) h λx d=>by
  obtain⟨y,a,rfl⟩:=Qk.1 d;exact⟨(old y a).1.le hle,(old y a).2.le hle⟩
 rw[List.map_map] at this;exact this
theorem VN{c b a:Nat}{d f:Sd}{C:Rn->Prop}(h:bL W c b a n d f C){R:Nat->HS->Prop}(p:dq W g cap R)(i:W.grownBy W' (some g))(m:g≠b/\g≠a/\g≠c):bL W' c b a n d f C:=
 rR h (gm i (λj e _=>by injection e with e;exact e.symm)) m λk z e=>by
  obtain⟨l,o,_⟩:=p;rw[o] at e;cases e
section
variable{N:Nat->Prop}{Ba Bd Be Bm:Nat}{t:bl}{dk:Dk}{n:Nat}{p:aj}
theorem aI.then{w d k:World}{m:aL}{ds:List ak}{hs:List af}{f:Dk}{B o b c g db:Nat}{v v0:Value}{A:Option Addr}{G z r:Nat}{s:aE}(h:aI w N Ba Bd Be Bm t dk n)(T:w<=d.heap.size)(K:dZ (au (four N Ba Bd Bm) d) o b 0 c m)(E:0<m.l.length)(J:aY (au (four N Ba Bd Bm) d) v hs)(u:Apart (λj=>j=Ba) d k)(O:bA k Ba o m Bd Be v s.cp g)(H:ek k g db A G s)(p:d<=g)(q:0<s.ds.length->d<=db)(L:bL d Be Bd Bm B f.n f.k (λa=>a∈aN hs))(x:bA d Ba o m Bd Be v0 z r)(hi:fY ⟨m,ds,hs⟩)(Q:be m ds hs=some s)(P:Calm f)(y:(bn hs).length<=6000/\Kept f hs):aI k N Ba Bd Be Bm ⟨m,ds,hs⟩ f B:=by
 have z4:=u.size;have hf:∀j,j<d.heap.size->¬ four N Ba Bd Bm j->k.heap[j]?=d.heap[j]?:=λj i l=>u.block j (by omega) λe=>l (.inr (.inl e))
 obtain⟨V,l2,U⟩:=h.eng.lt;obtain⟨Y,W,S,q4,F,I,C,X,M⟩:=h;have Z:Ba<w:=by
  obtain⟨_,_,_,_,_,_,_,_,_,R,_⟩:=M;exact R.lt
 have D:∀j,d.heap.size<=j->¬ four N Ba Bd Bm j:=λj i e=>by
  rcases e with e|e|e|e
  ·have:=C j e;omega
  all_goals omega
 exact⟨hi,P,E,rR L u F x.notInt,F,I,λj i=>by have:=C j i;omega,y,o,b,c,v,g,db,A,G,s,O,J.le (bE (λj i l=>⟨l,hf j i l⟩) (by omega)),rU K E hf (by omega),Q,H,D g p,λh=>D db (q h)⟩
end
theorem Fy(N:Nat->Prop)(f d r h:Nat)(t:bl)(q:Dk)(n:Nat)(c:List ByteArray)(nb no nc:Nat)(w:World)(hM:aI w N f d r h t q n)(y:∀k (hk:k<c.length),w.cell? ⟨nb,no+k,none⟩=some (.string c[k]))(J:nb≠d/\nb≠h)(R:nb<w)(j2:c.length<=100)(z:0<t.hs.length)(o:n+36<=1000)(ht:∀W,Apart (three f d h) w W->bJ W) :
  Calls prog 59 #[f,.slice (some ⟨nb,no,none⟩) c.length nc] w λe w'=>e=.returned .nilIface/\(∃j1 v,(v<=n/\io w w' f)/\aI w' N f d r h ⟨t.m,t.ds,dr t.hs c⟩ j1 v)/\Apart (three f d h) w w':=by
 have hO:=qI hM;obtain⟨Q,Hk,Hw,C,h8,h7,hF,hw,T,b,tc,hv,G,db,ao,pc,s,Y,k2,k3,k4,k5,k6,k7⟩:=hM;obtain⟨a1,a2,a3⟩:=cW.1 Q.held;have HI:=qI Q;have HD:=qI Q.held;have Hf:=qI Hk;have Hy:=qI Hw;have HE:=qI C;have Jd:=qI hw;obtain⟨Zc,In,Za⟩:=C.lt;obtain⟨j6,j3,j4⟩:=C.apart;obtain⟨B,P,Zd⟩:=h8;have H7:=Y.lt;obtain⟨H,O,hY,hZ,hS⟩:=id k2;subst hY;have hg:=qI Y;have Ja:=qI k2;have hP:=qI k3;have hH:=qI k4;have HQ:=qI k5;have H8:=qI k6;have H6:=qI k7;have HT:=qI ht;have Jb:=qI y;have H5:=qI J;have hh:Hu (∀j,four N f d h j->j<w.heap.size):=λj p=>by
  rcases p with e|e|e|e
  ·exact hF j e
  all_goals omega
 have x7:w.cell? ⟨f,7,none⟩=some (.slice H t.hs.length O):=ad Y 7;have h9:=k3.op;have H1:Hu (eE t.ds):=mn Q.devs;clear Q Hk Hw C h7 hF hw Y k2 k3 k4 k5 k6 k7 a2 a3 hZ hS ht y J
 go_enter func59,ntmps59
 go_wp2_with fail
 clear x7;refine (DY (.slice H t.hs.length O) t.hs w (au (four N f d h) w) Ja.o (cJ _ _) (by omega)).mono ?_;rintro e C1 ⟨u,j0,Jx,rfl,HA,hm,hb⟩;obtain⟨l,ho,S,Z⟩:=Fo HA hm;obtain⟨L,F⟩:=Vp Z;have Hp:Hu (L.map HS.h=t.hs):=by
  unfold Hu;rw[<- ho,<- F,List.map_map];rfl
 have Hz:Hu (∀x∈L,aQ (au (four N f d h) w) (.slice x.ca x.cn x.cc) x.h.pod.cs/\b7 (au (four N f d h) w) (.slice x.ga x.gn x.gc) x.h.gs):=λx K=>Z x.tri (by rw[<- F];exact Qk.2 ⟨x,K,rfl⟩)
 have Jh:0<L.length/\L.length<=12:=by rw[<- Hp.o,Q9] at z a1;exact⟨z,a1⟩
 obtain⟨g,m,hu⟩:∃g m,u=.slice (some ⟨g,0,none⟩) L.length m:=by
  rcases S.2 with⟨_,hz⟩|⟨g,m,Ix,hX,_⟩
  ·exfalso;rw[<- F,Q9] at hz;omega
  ·exact⟨g,m,by rw[hX,<- F,Q9]⟩
 subst hu;rw[<- F,Q9] at S;obtain⟨Hi,hp,Ji,hq⟩:=Vq S;have Hm:=qI Hi;have HH:=qI hq;have Ht:Hu (Apart (gQ d h) w C1):=Apart.of_below hb;have hC:Hu (bL C1 r d h n q.n q.k λa=>a∈aN t.hs):=HE.o.below hb;clear HA hm hb ho S Z F Hi hq j0 Jx l
 go_wp2
 go_loopw [5,17] (λnx i wr=>∃k:Nat,k<=c.length/\i=.int .i64 k/\nx=.slice (some ⟨g,0,none⟩) (eS L (c.take k)).length m/\dq wr g m (λj x=>j<(eS L (c.take k)).length/\x=dH (eS L (c.take k)) j)/\(∃v,v<=n/\bL wr r d h v q.n q.k (λa=>a∈aN (dr t.hs (c.take k))))/\Apart (gQ d h) w wr) (λ_ i _=>c.length - (intOf i).toNat)
 case atStart=>exact⟨0,Nat.zero_le _,rfl,rfl,Hm.o,⟨n,lR,hC.o⟩,Ht.o⟩
 case round=>
  obtain⟨k,hk,rfl,rfl,Hi,⟨v,hN,C⟩,HY⟩:=hrel;have Hh:=qI Hi;have V:=qI C;have Hb:=qI HY;have Jf:=HY.size;have Ho:=qI (uL L (c.take k));have h2:(eS L (c.take k)).length<=L.length:=(uL L (c.take k)).length_le;have hy:Hu ((eS L (c.take k)).map HS.h=dr t.hs (c.take k)):=by unfold Hu;rw[Fw,Hp.o]
  clear Hi C HY hC Ht Hm
  by_cases E:k<c.length
  ·have c0:wr.cell? ⟨nb,no+k,none⟩=some (.string c[k]):=by
    rw[<- Jb.o k E];unfold World.cell?
    rw[Hb.o.block nb R λe=>e.elim H5.o.1 H5.o.2]
   have hi:=qI (VL (L:=L) E);have H9:=qI (VK (hs:=t.hs) E);obtain⟨nm,y⟩:∃nm,nm=c[k]:=⟨_,rfl⟩;rw[<- y] at c0 hi H9;clear y;have Hn:=qI ((Q0 wr wr).alloc (lR) (.cells #[.string nm] 9));have h3:=qI (bd wr (.cells #[.string nm] 9) rfl);have hB:g<wr.heap.size:=Hh.o.lt;have hK:Hu ((eS L (c.take (k+1))).length<=L.length):=(uL L (c.take (k+1))).length_le
   go_wp2_with fail
   clear c0;generalize wr.alloc (.cells #[.string nm] 9)=X at *;refine (Vz nm wr g m (eS L (c.take k)) X h3.o (by omega) (Hh.o.block (Hn.o.block g hB)) (by omega) HH.o (by omega)).mono ?_;rintro e I ⟨rfl,Hg,Hc⟩;rw[<- hi.o] at Hg ⊢;have Hx:=qI Hg;have Jg:=Hc.size;have Jk:=Hn.o.size;have Ha:Hu (Apart (gQ d h) w I):=⟨Hc.os.trans (Hn.o.os.trans Hb.o.os),Hc.tape.trans (Hn.o.tape.trans Hb.o.tape),Hc.output.trans (Hn.o.output.trans Hb.o.output),by omega,λj p o=>(Hc.block j (by omega) (λe=>by injection e with e;omega)).trans ((Hn.o.block j (by omega)).trans (Hb.o.block j p o))⟩;have hU:Hu (bL I r d h v q.n q.k λa=>a∈aN (dr t.hs (c.take k))):=VN (V.o.below Hn.o) (Hh.o.block (Hn.o.block g hB)) Hc ⟨by omega,by omega,by omega⟩;have x6:I.cell? ⟨f,6,none⟩=some (.pointer (some ⟨r,0,none⟩)):=ad ((Ha.o.block f H7 λe=>e.elim B P).trans hg.o) 6;have HG:Hu ((eS L (c.take (k+1))).map HS.h=dr t.hs (c.take (k+1))):=by unfold Hu;rw[Fw,Hp.o]
   have hR:Hu (aY (au (gQ d h) I) (.slice (some ⟨g,0,none⟩) (eS L (c.take (k+1))).length m) (dr t.hs (c.take (k+1)))):=by
    have:=Fx (M:=four N f d h) (w:=w) Hg hh.o hp (by have:=hK.o;omega) HH.o (λx K=>Hz.o x ((uL L (c.take (k+1))).subset K)) ⟨Ha.o.os,Ha.o.tape,Ha.o.output,Ha.o.size,λj p o=>Ha.o.block j p λe=>o (.inr (.inr e))⟩
    rw[HG.o] at this;exact this.le (bE (λj p o=>⟨λe=>o (.inr (.inr e)),rfl⟩) (lR))
   have hr:=qI (uq r d h v q.n q.k (aN (dr t.hs (c.take k))) _ _ I hU.o hR.o (wU HD.o (pX _ _)) (by omega));clear Hg Hc
   go_wp2_with fail
   refine hr.o.mono ?_;rintro e W3 ⟨rfl,⟨n2,hJ,hl⟩,hG⟩;have Jc:=qI hl;have Hs:=qI hG;have hT:Hu (n2<=n):=by
    unfold Hu;rw[uK (yC (by rw[H9.o];exact wT _ _))] at hJ;omega
   clear hl hG hJ x6 hr
   go_wp2
   go_roundw
   case rel=>exact⟨k+1,by omega,by go_num,rfl,Hx.o.block (Hs.o.block g (by omega) (by omega) (by omega)),⟨n2,hT.o,Jc.o⟩,⟨Hs.o.os.trans Ha.o.os,Hs.o.tape.trans Ha.o.tape,Hs.o.output.trans Ha.o.output,by have:=Hs.o.size;have:=Ha.o.size;omega,λj p o=>(Hs.o.block j (by omega) (λe=>o (.inl e)) λe=>o (.inr e)).trans (Ha.o.block j p o)⟩⟩
   case measure=>simp[intOf];omega
  ·have hf:c.take k=c:=List.take_of_length_le (by omega);rw[hf] at Hh V Ho h2 hy ⊢;clear hf;have HJ:Hu (aY (au (four N f d h) wr) (.slice (some ⟨g,0,none⟩) (eS L c).length m) (dr t.hs c)):=by
    have:=Fx (M:=four N f d h) (w:=w) Hh.o hh.o hp (by omega) HH.o (λx K=>Hz.o x (Ho.o.subset K)) ⟨Hb.o.os,Hb.o.tape,Hb.o.output,Hb.o.size,λj p o=>Hb.o.block j p λe=>o (.inr (.inr e))⟩
    rw[hy.o] at this;exact this
   have U:=qI (wU HD.o (pX t.hs c));have HV:=qI (ND (pX t.hs c) (NE HD.o) Jd.o.1);have H2:=qI (rI Hf.o U.o);have hA:Hu (bA wr f T t.m d r (.slice H t.hs.length O) s.cp G):=(Hb.o.block f H7 λe=>e.elim B P).trans hg.o;have x5:wr.cell? ⟨f,5,none⟩=some (.pointer (some ⟨d,0,none⟩)):=ad hA.o 5;have Hj:Hu (Apart (three f d h) w wr):=⟨Hb.o.os,Hb.o.tape,Hb.o.output,Hb.o.size,λj p o=>Hb.o.block j p λe=>o (.inr e)⟩;have h4:Hu (bz wr d q):=pR V.o.disk Hf.o;have hI:=qI (xY d q _ (dr t.hs c) wr h4.o (.inl Hf.o.2.2) (HJ.o.le (cJ _ _)) (HT.o _ Hj.o));rw[H2.o.1 HV.o,show aJ (((0:Nat)):Int)=.nilIface from rfl] at hI
   go_wp2_with fail
   refine hI.o.mono ?_;rintro e A ⟨rfl,HM,Hr⟩;have Jl:=qI HM;have HP:=qI Hr;have Jj:=Hr.size;have h5:Hu (bL A r d h v (q.save (dr t.hs c)).2.n (q.save (dr t.hs c)).2.k λa=>a∈aN (dr t.hs c)):=uH V.o Hr HM H2.o.2.2;have he:Hu (bA A f T t.m d r (.slice H t.hs.length O) s.cp G):=(Hr.block f (by omega) λe=>B (by injection e)).trans hA.o;have Hq:Hu (∀j,j<w.heap.size->¬ four N f d h j->A.heap[j]?=w.heap[j]?):=λj p o=>(Hr.block j (by omega) λe=>o (.inr (.inr (.inl (by injection e))))).trans (Hb.o.block j p λe=>o (.inr (.inr e)))
   have H0:=HQ.o.pool.lt;have HN:Hu (aF A G db ao pc t.ds s.us):=by
    have:=nh HQ.o.pool (Hq.o G H0 H8.o) (λz=>Hq.o db (HQ.o.pool.at0 z).2.2 (H6.o z)) (by omega)
    rw[kP hH.o] at this;exact this
   have hD:Hu (aY (au (four N f d h) A) (.slice (some ⟨g,0,none⟩) (eS L c).length m) (dr t.hs c)):=HJ.o.le (bE (λj p o=>⟨o,Hr.block j p λe=>o (.inr (.inr (.inl (by injection e))))⟩) (by omega));have HO:Hu (aY (au (λj=>j=f) A) (.slice (some ⟨g,0,none⟩) (eS L c).length m) (dr t.hs c)):=hD.o.le (bE (λj p o=>⟨λe=>o (.inr (.inl e)),rfl⟩) (lR));have h6:Hu (dZ (au (four N f d h) A) T b 0 tc t.m):=rU hP.o Hy.o Hq.o (by omega);have H3:=qI (VM HI.o c);obtain⟨s',HW⟩:=H3.o.left;have hW:=qI HW;have Hv:lf (dr t.hs c):=(cW.1 U.o).2.1;have Hl:(dr t.hs c).length<=100:=by have:=(cW.1 U.o).1;omega
   have Je:=qI (ux f T t.m d r (.slice H t.hs.length O) s.cp G db ao pc t.ds s.us (.slice (some ⟨g,0,none⟩) (eS L c).length m) (dr t.hs c) s' A he.o ⟨_,_,_,rfl⟩ HN.o (λe=>H8.o (.inr (.inl e))) (λz e=>H6.o (by rw[kP hH.o];exact z) (.inr (.inl e))) H1.o HO.o h9 Hv Hl HW);clear HM Hr HW Hv Hl x5
   go_wp2_with fail
   refine Je.o.mono ?_;rintro e D ⟨rfl,⟨j5,Zb,Ze,c2,HX,HZ,H4,HL⟩,He⟩;have HR:Hu (aI D N f d r h ⟨t.m,t.ds,dr t.hs c⟩ (q.save (dr t.hs c)).2 v):=hO.o.then (by omega) h6.o Hy.o hD.o He HX HZ H4 HL h5.o he.o H3.o hW.o H2.o.2.2 ⟨HV.o,ya Hf.o HJ.o.cps U.o HV.o⟩
   have HK:Hu (Apart (three f d h) w D):=(Hj.o.trans (gm HP.o λj e _=>.inr (.inl (by injection e with e;exact e.symm)))).trans ⟨He.os,He.tape,He.output,He.size,λj p o=>He.block j p λe=>o (.inl e)⟩;have hV:Hu (io w D f):=.inr (yo HX HZ (by have:=(Hj.o.trans (gm HP.o λj e _=>.inr (.inl (by injection e with e;exact e.symm)))).size;omega) (λz=>by have:=(Hj.o.trans (gm HP.o λj e _=>.inr (.inl (by injection e with e;exact e.symm)))).size;have:=HL z;omega));clear HX HZ H4 HL He
   go_wp2
   go_ret;exact⟨rfl,⟨_,v,⟨hN,hV.o⟩,HR.o⟩,HK.o⟩
theorem Fz(h:dK hs nm=false):ii hs nm=hs:=by grind[ii,rS,List.filter_eq_self]
theorem FA(N:Nat->Prop)(a f j g:Nat)(t:bl)(o:Dk)(n:Nat)(nm:ByteArray)(w:World)(v:aI w N a f j g t o n)(K:n+36<=1000)(q:∀W,Apart (three a f g) w W->bJ W) :
  Calls prog 23 #[a,nm] w λe w'=>e=.returned (aJ ((if dK t.hs nm then 0 else 6:Nat):Int))/\(∃d h,(h<=n/\io w w' a)/\aI w' N a f j g ⟨t.m,t.ds,ii t.hs nm⟩ d h)/\Apart (three a f g) w w':=by
 obtain⟨l,Hg⟩:∃l:Nat,l=if dK t.hs nm then 0 else 6:=⟨_,rfl⟩
 rw[<- Hg];have Hj:=qI Hg;clear Hg;have Hc:=qI v;have T:=qI q;obtain⟨y,Hb,Hi,A,Hn,Hs,Hx,Hr,tb,b,tc,Z,V,db,ao,pc,s,C,p,I,E,G,J,F⟩:=v;obtain⟨a1,a2,a3⟩:=cW.1 y.held;obtain⟨Q,H,O⟩:=A.lt;obtain⟨u,r,Hv,Hw,Hp⟩:=id p;subst Hv;have U:cl w a (7) (.slice u t.hs.length r):=ad C 7;have Ht:=qI (Ev (.slice u t.hs.length r) t.hs nm w (p.le (cJ _ _)) (by omega) a3);clear y Hb Hi A Hn Hs Hx Hr C p I E G J F a2 a3 Hw Hp q
 go_enter func23,ntmps23
 go_wp2_with fail
 refine Ht.o.mono ?_;rintro e i ⟨rfl,Hf⟩;have Ha:=qI Hf;have Hz:=Hf.size;clear Hf U
 rcases two (dK t.hs nm) with c|c
 ·have m:=qI c;rw[c];have Hh:0<t.hs.length:=by
   obtain⟨x,P,_⟩:=rS.1 c;exact List.length_pos_of_mem P
  clear c;have He:=qI (Ha.o.alloc Ha.o.size (.cells #[nm] 9));have Ho:=qI (bd i (.cells #[nm] 9) rfl);have Y:(i.alloc (.cells #[nm] 9)).heap.size=i.heap.size+1:=by simp
  go_wp2_with fail
  generalize i.alloc (.cells #[nm] 9)=X at *;refine (Fy N a f j g t o n [nm] i 0 1 X (Hc.o.keep He.o) (λk B=>by
   have Hq:k=0:=by simp at B;exact B
   subst Hq;exact ad Ho.o 0) ⟨by omega,by omega⟩ (by omega) (by simp) Hh K λW R=>T.o W ((Apart.of_below He.o).trans R)).mono ?_
  rintro e z ⟨rfl,Hl,Hk⟩;have Hm:Hu (∃d h,(h<=n/\io w z a)/\aI z N a f j g ⟨t.m,t.ds,ii t.hs nm⟩ d h):=by
   obtain⟨S,n2,⟨M,L⟩,D⟩:=Hl;exact⟨S,n2,⟨M,L.old He.o Hc.o.poolAt.1⟩,D⟩
  have Hy:=qI Hk;clear Hl Hk
  go_wp2
  go_ret;exact⟨by rw[show l=0 by rw[Hj.o,m.o];rfl];rfl,Hm.o,(Apart.of_below He.o).trans Hy.o⟩
 ·have m:=qI c;rw[c];clear c
  go_wp2
  go_ret;exact⟨by rw[show l=6 by rw[Hj.o,m.o];rfl];rfl,by rw[Fz m.o];exact⟨o,n,⟨lR,.inl (Ha.o.block a Hc.o.poolAt.1)⟩,Hc.o.keep Ha.o⟩,Apart.of_below Ha.o⟩
