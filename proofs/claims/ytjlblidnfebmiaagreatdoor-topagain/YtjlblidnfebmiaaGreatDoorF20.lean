import Derived.Test.YtjlblidnfebmiaaGreatDoorF19
import Derived.Test.YtjlblidnfebmiaaGreatDoorF13
set_option maxRecDepth 100000
set_option maxHeartbeats 16000000
open Go Go.RowKit Go.Shelf
attribute [local go_sem] Oper.semAt_some
open Go.Proofs.Tryz
namespace Go.Proofs.YtjlblidnfebmiaaGreatDoor
variable{A W W' W6 X w:World}{B base cap g gcap k m:Nat}{K:Nat->Prop}{b t:aS}{d:Bool}{dv nv v v0 v1:Value}{dvs:List Int}{el:List Hp}{hs:List af}{l:Int}{la la':Hp}{o:Obj}{wl:List (List (List UInt8))}{ws:List (List UInt8)}
theorem Do(h:gK W base v el la)(c:Apart K W W')(f:∀j,K j->j<base):gK W' base v el la:=by
 have d:∀j,base<=j->¬ K j:=λj a e=>by have:=f j e;omega
 have Ha:∀p,gJ W base (bY base v la) p->gJ W' base (bY base v la) p:=λp b=>
  b.apart c (λj a=>d j a.1) (λj _ a=>a) (λj a=>d j (b.rc.lt j a).1) λj a=>d j (b.rg.lt j a).1
 exact⟨lL h.row c λj a=>d j (h.row.lt j a).1,λp b=>⟨Ha p (h.hel p b).1,(h.hel p b).2⟩,Ha _ h.hla,h.vc,h.vg,h.cg⟩
def jD (W:World) (base:Nat) (v:Value) (hs:List af):Prop:=(hs=[]/\v=.slice none 0 0)\/∃el la,gK W base v el la/\hs=(el++[la]).map Hp.hd
theorem jD.apart(h:jD W base v hs)(a:Apart K W W')(b:∀j,K j->j<base):jD W' base v hs:=by
 rcases h with h|⟨c,la,h,e⟩
 ·exact .inl h
 ·exact .inr ⟨c,la,Do h a b,e⟩
theorem jD.plain(h:jD W base v hs):aY W v hs:=by
 rcases h with⟨rfl,rfl⟩|⟨a,la,h,rfl⟩
 ·exact⟨none,0,rfl,⟨lR,by unfold maxLen;omega⟩,λh=>by simp at h⟩
 ·exact h.plain
theorem jD.slice{v:Value}(h:jD W base v hs):∃a c,v=.slice a hs.length c:=by
 rcases h with⟨rfl,rfl⟩|⟨d,la,h,rfl⟩
 ·exact⟨none,0,rfl⟩
 ·obtain⟨a,c,b,_⟩:=py h.row;exact⟨a,c,by rw[b];simp⟩
theorem P9(w:World)(nm:ByteArray)(pr:Int)(t:TypeId):∀j u,(fu ⟨nm,pr,[],[],.slice none 0 0,.slice none 0 0⟩)[j]?=some u->(w.alloc (.cells #[nm,pr,.slice none 0 0,.slice none 0 0] t)).cell? ((w.heap.size:Addr).add j)=some u:=by simp_all[Addr.add_lit,fu]
theorem Qy(nm:ByteArray)(pr:Int):∀u∈fu ⟨nm,pr,[],[],.slice none 0 0,.slice none 0 0⟩,u.oneCell'=true:=by
 intro u a
 simp[fu] at a
 rcases a with rfl|rfl|rfl <;> rfl
theorem Dp:(prog.info? 101).map (λi=>(i.zero,i.size,i.bytes))=some (some (.agg #[ByteArray.empty,(0:Int),.slice none 0 0,.slice none 0 0]),4,72):=by kernel_rfl
theorem jD.push(h:jD W base v hs):∃f,W.ownsRow base 101 4 v hs.length f/\∀(o:Obj) (b:World) (a:Value) (nm:ByteArray) (pr:Int),(W.alloc o).grownBy b v.ownBlock->b.ownsRow base 101 4 a (hs.length+1) (f++fu ⟨nm,pr,[],[],.slice none 0 0,.slice none 0 0⟩)->(a.ownBlock=v.ownBlock\/a.ownBlock=some (W.alloc o).heap.size)->jD b base a (hs++[⟨⟨nm,pr,[]⟩,[]⟩]):=by
 rcases h with⟨rfl,rfl⟩|⟨c,la,h,rfl⟩
 ·exact⟨[],Qw _ _ _ _,λo b a nm pr _ e _=>.inr ⟨[],_,PC (by simpa using e),rfl⟩⟩
 ·refine⟨jc (c++[la]),by simpa using h.row,λo b a nm pr g e d=>.inr ⟨c++[la],_,PB h g (by simpa using e) d,?_⟩⟩;rw[List.map_append (l₁:=c++[la])];rfl
structure rl (w A:World) (wl:List (List (List UInt8))) (k:Nat) (W:World):Prop where
 le:k<=wl.length
 b0:Boxed W w 43 (.slice none 0 0)
 b1:Boxed W (w.heap.size+1) 4 false
 held:∃v hs,Boxed W (w.heap.size+1+1) 43 v/\jD W (A.heap.size+2) v hs/\eQ bW ct [] (wl.take k)=some hs/\hs.length<=k/\∀h∈hs,h.pod.cs.length<=k/\h.gs.length<=k
 below:Below w w W
theorem rl.apart{B C:World}(h:rl w A wl k B)(m:A=w.heap.size+1+1+1+1)(a:Apart (λj=>j=w.heap.size+1+1+1\/j=A.heap.size+1) B C):rl w A wl k C:=by
 obtain⟨c,d,l,⟨v,hs,f,i,e⟩,b⟩:=h;exact⟨c,a.boxed d (by omega),a.boxed l (by omega),⟨v,hs,a.boxed f (by omega),i.apart a (λj g=>by omega),e⟩,a.below b (lR) (λj g=>by omega)⟩
theorem Qz(a:k<wl.length)(h:eQ bW ct [] (wl.take k)=some hs):eQ bW ct [] (wl.take (k+1))=fi bW ct hs (wl.getD k []):=by
 rw[Qa a,tD,h,Option.bind_some,show wl.getD k []=wl[k] by simp[a]];unfold eQ;cases fi bW ct hs wl[k] <;> rfl
theorem QA(a:k<wl.length)(h:eQ bW ct [] (wl.take k)=some hs)(b:fi bW ct hs (wl.getD k [])=none):eQ bW ct [] wl=none:=by
 rw[<- List.take_append_drop k wl,tD,h,Option.bind_some,List.drop_eq_getElem_cons a,eQ,<- show wl.getD k []=wl[k] by simp[a],b]
theorem QB{nm:ByteArray}{pr:Int}(h:∀h∈hs,h.pod.cs.length<=k/\h.gs.length<=k):∀h∈hs++[⟨⟨nm,pr,[]⟩,[]⟩],h.pod.cs.length<=k+1/\h.gs.length<=k+1:=by grind
theorem Dq{n:Nat}(h:gK W base (.slice m n cap) el la){j:Nat}(b:j<4):W.cell? ⟨m,el.length*4+j,none⟩=(fu la)[j]?:=by
 obtain⟨g,c,a,_,_,_,_,Ha⟩:=rh h.row (by omega);cases a;rw[Ha _ (by omega)]
 have:=rf fu 4 (λx=>rfl) (el++[la]) el.length j (by simp) b
 rw[show jc (el++[la])=(el++[la]).flatMap fu from rfl,this]
 simp
theorem QC{c:aB}{g:aR}(h:la'.hd=tC la.hd c g):kH ((el++[la]).map Hp.hd) c g=(el++[la']).map Hp.hd:=by grind[BE]
theorem QD(d:la'.cl.length=la.cl.length+1)(c:la'.gl.length=la.gl.length+1)(h:∀h∈(el++[la]).map Hp.hd,h.pod.cs.length<=k/\h.gs.length<=k):∀h∈(el++[la']).map Hp.hd,h.pod.cs.length<=k+1/\h.gs.length<=k+1:=by
 intro x a;rw[Qj,List.map_singleton] at a h
 rcases Qi.1 a with a|a
 ·have:=h x (List.mem_append_left _ a);omega
 ·rw[Qm.1 a];have b:=h la.hd (by simp);simp only[Hp.hd,Q9] at b ⊢;omega
theorem QE{d:Nat}{la:Hp}{c:aB}{cv:Value}(h:gK W base (.slice m (el.length+1) cap) el la)(r:kh W (bY base (.slice m (el.length+1) cap) la) nv c.ds)
  (ag:jb W (bY base (.slice m (el.length+1) cap) la) dv dvs) (n:la.cv=cv) (q:(W.alloc o).grownBy W6 cv.ownBlock) (t:W6.ownsRow base 65 6 (.slice g (la.cl.length+1) gcap) (la.cl.length+1) (ol la.cl++kk (c,nv)))
  (i:cv.ownBlock=some g\/g=(W.alloc o).heap.size) (f:bY base (.slice m (el.length+1) cap) la d) (k:d<W) :
  ∃b:Hp,b={ la with cl:=la.cl++[(c,nv)],cv:=.slice g (la.cl.length+1) gcap }/\gK (W6.setCell ⟨m,el.length*4+2,none⟩ (.slice g (la.cl.length+1) gcap)) base (.slice m (el.length+1) cap) el b/\
   jb (W6.setCell ⟨m,el.length*4+2,none⟩ (.slice g (la.cl.length+1) gcap)) (bY base (.slice m (el.length+1) cap) b) dv dvs/\
   Apart (λj=>base<=j) W (W6.setCell ⟨m,el.length*4+2,none⟩ (.slice g (la.cl.length+1) gcap))/\(W6.setCell ⟨m,el.length*4+2,none⟩ (.slice g (la.cl.length+1) gcap)).heap[d]?=W.heap[d]?:=by
 subst n;have Ha:(Value.slice g (la.cl.length+1) gcap).ownBlock=la.cv.ownBlock\/(Value.slice g (la.cl.length+1) gcap).ownBlock=some (W.alloc o).heap.size:=by
  rcases i with e|e
  ·exact .inl e.symm
  ·exact .inr (by rw[<- e];rfl)
 have He:(W.alloc o).heap.size=W.heap.size+1:=by simp
 have s:=h.row.lt m rfl;have Hb:Apart (λj=>la.cv.ownBlock=some j\/j=m) W (W6.setCell ⟨m,el.length*4+2,none⟩ (.slice g (la.cl.length+1) gcap)):=((oq q).wide λ_=>.inl).trans (Apart.setCell (.inr rfl) _ _ _);have Hc:∀j,bY base (.slice m (el.length+1) cap) la j->¬ (la.cv.ownBlock=some j\/j=m):=λj hf a=>by
  rcases a with a|rfl
  ·exact hf.2.2.1 a
  ·exact hf.2.1 rfl
 refine⟨_,rfl,PD rfl h r q t Ha,ag.apart Hb Hc λj u hf=>⟨hf.1,hf.2.1,λe=>?_,hf.2.2.2⟩,Hb.wide λj a=>?_,Hb.block d k (Hc d f)⟩
 ·rcases Ha with l|l
  ·exact hf.2.2.1 (by rw[<- l];exact e)
  ·have p:some (W.alloc o).heap.size=some j:=l.symm.trans e;injection p with p;omega
 ·rcases a with a|rfl
  ·exact (h.hla.rc.lt j a).1
  ·exact s.1
theorem QF{cp:Nat}{la a:Hp}{c:aB}{u cv:Value}(hla:a={ la with cl:=la.cl++[(c,nv)],cv:=u })(h:gK W base (.slice m (el.length+1) cap) el a)
  (ag:jb W (bY base (.slice m (el.length+1) cap) a) dv dvs) (f:cp<18446744073709551616) (n:a.gv=cv) (p:(W.alloc o).grownBy W6 cv.ownBlock) (s:W6.ownsRow base 123 2 (.slice g (la.gl.length+1) gcap) (la.gl.length+1) (om la.gl++jC (⟨cp,dvs⟩,dv)))
  (d:cv.ownBlock=some g\/g=(W.alloc o).heap.size) (l:hs=(el++[la]).map Hp.hd) (i:∀h∈hs,h.pod.cs.length<=k/\h.gs.length<=k) :
  jD (W6.setCell ⟨m,el.length*4+3,none⟩ (.slice g (la.gl.length+1) gcap)) base (.slice m (el.length+1) cap) (kH hs c ⟨cp,dvs⟩)/\(kH hs c ⟨cp,dvs⟩).length=el.length+1/\(∀h∈kH hs c ⟨cp,dvs⟩,h.pod.cs.length<=k+1/\h.gs.length<=k+1)/\
   Apart (λj=>base<=j) W (W6.setCell ⟨m,el.length*4+3,none⟩ (.slice g (la.gl.length+1) gcap)):=by
 subst n;subst hla;subst l;have Hb:(Value.slice g (la.gl.length+1) gcap).ownBlock=la.gv.ownBlock\/(Value.slice g (la.gl.length+1) gcap).ownBlock=some (W.alloc o).heap.size:=by
  rcases d with e|e
  ·exact .inl e.symm
  ·exact .inr (by rw[<- e];rfl)
 have r:=h.row.lt m rfl;have Hc:Apart (λj=>la.gv.ownBlock=some j\/j=m) W (W6.setCell ⟨m,el.length*4+3,none⟩ (.slice g (la.gl.length+1) gcap)):=((oq p).wide λ_=>.inl).trans (Apart.setCell (.inr rfl) _ _ _);have q:=PF (c:=⟨cp,dvs⟩) rfl h ag f p s Hb;have Ha:kH ((el++[la]).map Hp.hd) c ⟨cp,dvs⟩=(el++[({ la with cl:=la.cl++[(c,nv)],cv:=u,gl:=la.gl++[(⟨cp,dvs⟩,dv)],gv:=.slice g (la.gl.length+1) gcap }:Hp)]).map Hp.hd:=QC (by simp[Hp.hd,tC]);refine⟨.inr ⟨el,_,q,Ha⟩,by rw[Ha];simp,by rw[Ha];exact QD (by simp) (by simp) i,Hc.wide λj b=>?_⟩
 rcases b with b|rfl
 ·exact (h.hla.rg.lt j b).1
 ·exact r.1
theorem Apart.masked(M:Nat->Prop)(W:World):Apart M W (au M W):=⟨rfl,rfl,rfl,by rw[bX];exact lR,λ_ _ h=>b9 h⟩
def QG (w:World) (t:List UInt8) (e:Ending) (w':World):Prop:=
 ∃v,e=.returned (.tuple #[v,.bool (gD t).isSome])/\(∀hs,gD t=some hs->aY (au (λj=>j<w.heap.size) w') v hs)/\(∃a n c,v=.slice a n c)/\Below w w w'
def QH (w:World) (t:List UInt8) (e:Ending) (w':World):Prop:=
 ∃v,e=.returned (.tuple #[v,.bool (gD t).isSome])/\(∀hs,gD t=some hs->aY w' v hs)/\(∃a n c,v=.slice a n c)/\Below w w w'
theorem QI{t:List UInt8}(a:k<(dm t).length):∃b:k<(gE t).length,(gE t)[k]=#[Value.string ⟨((dm t).getD k []).toArray⟩]:=⟨by rw[wD];exact a,by simp[gE,a]⟩
theorem QJ(t:List UInt8):∀x∈dm t,x.length<=t.length+1:=by
 intro x a;unfold dm at a
 rcases Qi.1 a with a|a
 ·obtain⟨y,b,rfl⟩:=Qk.1 a
  have:=pu 10 t y ((List.dropLast_sublist _).subset b)
  simp;omega
 ·split at a
  ·simp at a
  ·have Ha:=nw 10 t;simp only[Qm] at a;rw[a,List.getLastD_eq_getLast?,List.getLast?_eq_some_getLast Ha,Option.getD_some]
   have:=pu 10 t _ (List.getLast_mem Ha)
   omega
theorem QK(t:List UInt8):(dm t).length<=t.length+1:=by grind[dm,tP,aH,nw]
theorem QL(x:List UInt8):(Lib.trimSuffix x [10]).length<=x.length:=NL x [10]
theorem QM(x:List UInt8):((ByteArray.mk x.toArray).toList == [112,111,100])=decide (x=[112,111,100]):=by
 rw[Qs]
 by_cases h:x=[112,111,100] <;> simp[h]
theorem QN(x:List UInt8):((ByteArray.mk x.toArray).toList == [99,111,110,116])=decide (x=[99,111,110,116]):=by
 rw[Qs]
 by_cases h:x=[99,111,110,116] <;> simp[h]
theorem tT(b:¬ jw ws=true)(a:nR ws=true->¬ 0<hs.length):fi bW ct hs ws=none:=by
 unfold fi;rw[if_neg b,if_neg λh=>a h.1 h.2]
theorem Dr(b:ar ws 0=[112,111,100])(a:ws.length=3):jw ws=true:=by simp[jw,b,a]
theorem QO(c:ar ws 0=[112,111,100])(b:ws.length=3)(a:gOf (ar ws 2)=false):fi bW ct hs ws=none:=by
 unfold fi;rw[if_pos (Dr c b),kS,a];rfl
theorem QP(c:ar ws 0=[112,111,100])(b:ws.length=3)(a:gOf (ar ws 2)=true):fi bW ct hs ws=some (hs++[⟨⟨⟨(ar ws 1).toArray⟩,nOf (ar ws 2),[]⟩,[]⟩]):=by
 unfold fi;rw[if_pos (Dr c b),kS,a];rfl
theorem QQ(l:List (List UInt8)):∀a:Nat,a<18446744073709551616->(lY a l).1<18446744073709551616:=by
 induction l with
 | nil=>intro a h;exact h
 | cons x r ih=>
  intro a h;unfold lY;cases hs:iq x with
  | none=>show (0:Nat)<_;omega
  | some p=>
   obtain⟨f,u⟩:=p;have hle:=CJ x f u hs;dsimp only
   split
   ·show (0:Nat)<_;omega
   ·exact ih _ (Nat.or_lt_two_pow (n:=64) h (CK _ _ (by omega)))
theorem QR(l:List UInt8):gH l<18446744073709551616:=by grind[gH,dM,QQ]
theorem Ds(h:okC ws=true):(gOf (ar ws 2)=true/\gOf (ar ws 3)=true)/\(gOf (ar ws 4)=true/\gOf (ar ws 5)=true)/\(∃ds,bV ct (ar ws 6)=some ds)/\jA (ar ws 7)=true/\∃a,bV bW (ar ws 8)=some a:=by
 simp only[okC,Bool.and_eq_true] at h;obtain⟨⟨⟨⟨c,d⟩,e⟩,b⟩,f⟩:=h;exact⟨c,d,Option.isSome_iff_exists.1 e,b,Option.isSome_iff_exists.1 f⟩
theorem QS{ds:List ap}{a:List Int}(h:okC ws=true)(b:bV ct (ar ws 6)=some ds)(c:bV bW (ar ws 8)=some a) :
  ph bW ct ws=some (⟨⟨(ar ws 1).toArray⟩,nOf (ar ws 2),nOf (ar ws 3),nOf (ar ws 4),nOf (ar ws 5),ds⟩,⟨gH (ar ws 7),a⟩):=by grind[Ds,ph,kS,CN]
theorem QT(h:okC ws=false):ph bW ct ws=none:=by
 unfold ph;unfold okC at h;rw[kS,kS,kS,kS,CN];cases g2:gOf (ar ws 2) <;> cases g3:gOf (ar ws 3) <;> cases g4:gOf (ar ws 4) <;> cases g5:gOf (ar ws 5) <;> cases g7:jA (ar ws 7) <;> cases g6:bV ct (ar ws 6) <;> cases g8:bV bW (ar ws 8) <;> first|rfl|(simp[g2,g3,g4,g5,g6,g7,g8] at h)
theorem Dt(b:ar ws 0=[99,111,110,116])(a:ws.length=9):nR ws=true/\jw ws=false:=by simp[nR,jw,b,a]
theorem QU(a:ar ws 0=[99,111,110,116])(d:ws.length=9)(c:okC ws=false):fi bW ct hs ws=none:=by
 obtain⟨e,b⟩:=Dt a d;unfold fi;rw[if_neg (by rw[b];simp),QT c]
 split <;> rfl
theorem QV(d:ar ws 0=[99,111,110,116])(g:ws.length=9)(c:okC ws=true)(f:0<hs.length):∃ds a,bV ct (ar ws 6)=some ds/\bV bW (ar ws 8)=some a/\gH (ar ws 7)<18446744073709551616/\
  fi bW ct hs ws=some (kH hs ⟨⟨(ar ws 1).toArray⟩,nOf (ar ws 2),nOf (ar ws 3),nOf (ar ws 4),nOf (ar ws 5),ds⟩ ⟨gH (ar ws 7),a⟩):=by
 obtain⟨e,h⟩:=Dt d g;obtain⟨_,_,⟨ds,ag⟩,_,⟨a,b⟩⟩:=Ds c;refine⟨ds,a,ag,b,QR _,?_⟩;unfold fi;rw[if_neg (by rw[h];simp),if_pos ⟨e,f⟩,QS c ag b];rfl
theorem pA{p q:Nat}{s z:TypeId}(a:Apart (λ_=>False) w X)(c:Boxed w p s v0)(b:Boxed w q z v1):X.cell? p=some v0/\X.frozen? p=false/\X.cell? q=some v1/\X.frozen? q=false:=⟨(a.boxed c id).cell,(a.boxed c id).frozen,(a.boxed b id).cell,(a.boxed b id).frozen⟩
theorem pB{d:World}{t:List UInt8}{a:Act}(b:Apart (λ_=>False) d X)(i:Boxed d w 43 v0)(g:Boxed d (w.heap.size+1) 4 v1)(m:Below w w d)(l:A+2<=d.heap.size)(o:A=w.heap.size+1+1+1+1)(n:gD t=none) :
  BB (λj=>j=w.heap.size+1+1+1) A (λW=>rl w A wl k W) (λc W=>c=Code.ret/\Boxed W w 43 (.slice none 0 0)/\Boxed W (w.heap.size+1) 4 false/\Below w w W/\gD t=none) d Exit.ret a ((X.setCell w (.slice none 0 0)).setCell (w.heap.size+1:Nat) false):=by
 have e:=b.boxed i id;have g1:=b.boxed g id;have Ha:=((b.wide (K':=λj=>j=w.heap.size\/j=w.heap.size+1) λ_ h=>h.elim).trans (Apart.setCell (.inl rfl) X 0 (Value.slice none 0 0))).trans (Apart.setCell (.inr rfl) _ 0 (Value.bool false));exact⟨λj f=>Ha.block j (by omega) (by omega),rfl,(Apart.setCell (K:=λj=>j=w.heap.size+1) rfl _ 0 _).boxed (e.set _) (by omega),((Apart.setCell (K:=λj=>j=w.heap.size) rfl _ 0 _).boxed g1 (by omega)).set _,Ha.below m (lR) (λj f=>by omega),n⟩
abbrev iI:=λ(x0:ByteArray) (x1 x2 x3 x4:Int) (x5:Option Addr) (x6 x7:Nat)=>(.cells #[x0,x1,x2,x3,x4,.slice x5 x6 x7] 65:Obj)
abbrev gL:=λ(x0:ByteArray) (x1:Int)=>(.cells #[x0,x1,.slice none 0 0] 49:Obj)
abbrev xB:=λ(x0:ByteArray) (x1:Int)=>(.cells #[x0,x1,.slice none 0 0,.slice none 0 0] 101:Obj)
theorem Du(t:List UInt8)(w:World)(ht:t.length<=7000)(hm:cS w) :
  Calls prog 157 #[.string ⟨t.toArray⟩] w (QG w t):=by
 obtain⟨i0,hi,JE,JR,JQ⟩:=info_parts Dp;have x0:=((Boxed.new w 43 (.slice none 0 0)).alloc (.cells #[false] 4)).alloc (.cells #[.slice none 0 0] 43);have x1:=(Boxed.new (w.alloc (.cells #[.slice none 0 0] 43)) 4 false).alloc (.cells #[.slice none 0 0] 43);have x2:=Boxed.new ((w.alloc (.cells #[.slice none 0 0] 43)).alloc (.cells #[false] 4)) 43 (.slice none 0 0);simp only[World.size_alloc] at x1 x2;have Ja:=qI ((((Q0 w w).alloc (lR) (.cells #[.slice none 0 0] 43)).alloc (by simp) (.cells #[false] 4)).alloc (by simp;omega) (.cells #[.slice none 0 0] 43));have Je:(((w.alloc (.cells #[.slice none 0 0] 43)).alloc (.cells #[false] 4)).alloc (.cells #[.slice none 0 0] 43)).heap.size=w.heap.size+1+1+1:=by simp
 have X0:=qI x0;have X1:=qI x1;have X2:=qI x2;have HM:=qI hm;clear x0 x1 x2 hm;refine (callsIn_wide (n:=3)).1 ?_;refine callsIn_of_wp_marks func157 rfl trivial ?_ rfl;simp only[ntmps157,List.size_toArray,Qg,List.length_nil,Nat.reduceAdd,Nat.reduceSub,Array.replicate_succ,Array.replicate_zero,List.push_toArray,List.append_toArray,List.nil_append,List.cons_append]
 gi_wp2_with fail
 generalize (((w.alloc (.cells #[.slice none 0 0] 43)).alloc (.cells #[false] 4)).alloc (.cells #[.slice none 0 0] 43))=V at *;refine⟨trivial,(callsIn_wide.2 (Mv _ V)).mono ?_⟩;rintro e A0 ⟨rfl,rfl⟩;have Jg:=Boxed.new V 9 (.string ⟨t.toArray⟩);have HU:=(Q0 V V).alloc (lR) (.cells #[.string ⟨t.toArray⟩] 9);have Hf:(V.alloc (.cells #[.string ⟨t.toArray⟩] 9)).heap.size=V.heap.size+1:=by simp
 generalize V.alloc (.cells #[.string ⟨t.toArray⟩] 9)=A at *;have JD:=qI (Ja.o.trans (HU.mono Ja.o.size));have Za:=qI (show Boxed A _ _ _ from (HU.block _ X0.o.lt).trans X0.o);have Ix:=qI (show Boxed A _ _ _ from (HU.block _ X1.o.lt).trans X1.o);have j5:=qI (show Boxed A _ _ _ from (HU.block _ X2.o.lt).trans X2.o);have He:=Mw 2 (by omega) V t A Jg (by omega);rw[Je] at Hf He ⊢;clear HU X0 X1 X2 Ja Jg Je;have hK:=qI (P7 t);have hu:=qI (QJ t);have Jc:=qI (QK t);have hE:Hu (∀k,(G:k<(dm t).length)->∃JO:k<(gE t).length,(gE t)[k]=#[Value.string ⟨((dm t).getD k []).toArray⟩]):=λk G=>QI G
 have hV:Hu ((gE t).length=(dm t).length):=wD t;have hB:Hu (∀x∈gE t,x.size=1):=by
  intro x I;obtain⟨y,_,rfl⟩:=Qk.1 I;rfl
 have hC:Hu (∀k,k<(dm t).length->(mR t).getD k []=aH 32 (Lib.trimSuffix ((dm t).getD k []) [10])):=λk G=>by simp[mR,G]
 have HR:Hu ((mR t).length=(dm t).length):=by unfold Hu mR;simp
 generalize mR t=wl at *;generalize hxs:dm t=T at *;clear hxs
 gi_wp2_with fail
 refine wA rfl (by omega) (gf:=243) rfl trivial (enters_of func243 (by kernel_rfl) rfl) (K:=λj=>j=w.heap.size+1+1+1) (ts:=gE t) (λj q=>by omega) He hB.o
  (λk W=>rl w A wl k W) (λc W=>c=.ret/\Boxed W w 43 (.slice none 0 0)/\Boxed W (w.heap.size+1) 4 false/\Below w w W/\gD t=none)
  (λk B C hi Hc=>hi.apart Hf Hc) (λc B C I Hc=>⟨I.1,Hc.boxed I.2.1 (by omega),Hc.boxed I.2.2.1 (by omega),Hc.below I.2.2.2.1 (lR) (λj q=>by omega),I.2.2.2.2⟩)
  ⟨Nat.zero_le _,Za.o,Ix.o,⟨_,[],j5.o,.inl ⟨rfl,rfl⟩,rfl,lR,by simp⟩,JD.o⟩
  (λk=>{ tmps:=List.toArray (Value.string ⟨t.toArray⟩ :: undef :: Value.pointer (some ⟨w,0,none⟩) :: Value.pointer (some ⟨w.heap.size+1,0,none⟩) :: Value.pointer (some ⟨w.heap.size+1+1,0,none⟩) :: Value.string ⟨(T.getD k []).toArray⟩ :: undef :: undef :: undef :: undef :: undef :: undef :: undef :: Value.string ⟨t.toArray⟩ :: Value.func (Fn.func 243) #[] #[Value.pointer (some ⟨w.heap.size+1+1+1,0,none⟩)] :: Value.string ⟨(T.getD k []).toArray⟩ :: undef :: undef :: undef :: undef :: undef :: undef :: undef :: undef :: undef :: undef :: undef :: undef :: undef :: undef :: undef :: undef :: undef :: undef :: undef :: undef :: undef :: undef :: undef :: undef :: undef :: undef :: undef :: undef :: undef :: undef :: undef :: undef :: undef :: undef :: undef :: undef :: undef :: undef :: undef :: undef :: undef :: undef :: undef :: undef :: undef :: undef :: undef :: undef :: undef :: undef :: undef :: undef :: undef :: undef :: undef :: undef :: undef :: undef :: undef :: undef :: undef :: undef :: undef :: undef :: undef :: undef :: undef :: undef :: undef :: undef :: undef :: undef :: undef :: undef :: undef :: undef :: []),defers:=[] }) ?assign ?body ?done ?stop
 case assign=>
  intro l k G W R hR;rw[hV.o] at G;obtain⟨JO,e⟩:=hE.o k G;rw[e];clear e;generalize T.getD k []=x at *
  gi_wp2_with fail
  exact hR
 case body=>
  intro l k W G h6 hI;rw[hV.o] at G;obtain⟨hle,HP,HO,⟨v,hs,Hi,Y,HE,H6,Jt⟩,Hm⟩:=hI;have h7:=qI Jt;clear Jt;have Jk:T.getD k []∈T:=by simp[G]
  have JM:=hu.o _ Jk;have J4:=Jc.o;have JG:=QL (T.getD k []);have he:=qI (Qz (by rw[HR.o];exact G) HE);have Hx:Hu (fi bW ct hs (wl.getD k [])=none->gD t=none):=λM=>by rw[hK.o];exact QA (by rw[HR.o];exact G) HE M
  rw[hC.o k G] at he Hx;generalize T.getD k []=x at *;have h9:=qI (Tryz.strings_TrimSuffix ⟨x.toArray⟩ ⟨#[10]⟩ W (by show x.length<=_;omega));rw[show (ByteArray.mk x.toArray).data.toList=x by simp,show (ByteArray.mk #[10]).data.toList=[10] from rfl] at h9;generalize Lib.trimSuffix x [10]=tr at *;have Jm:=qI (P0 tr W (by omega) (HM.o.below Hm));have hS:0<(aH 32 tr).length:=List.length_pos_iff.2 (nw 32 tr);have hz:Hu (∀y∈aH 32 tr,y.length<=10000):=λy hy=>by have:=pu 32 tr y hy;omega
  generalize aH 32 tr=ws at *;have Hj:=qI HP;have Hk:=qI HO;have HK:=qI Hi;have hh:=qI Y;have Hb:=qI Hm;have Hy:=qI h6;clear HE He hE hB hu Jc hC hK Jk JM JG;obtain⟨S,vc,hv⟩:=Y.slice;subst hv;clear HP HO Hi Y Hm hle
  gi_wp2_with fail
  refine⟨trivial,(CallsIn.inRound l (callsIn_wide.2 h9.o)).mono ?_⟩;rintro e L ⟨rfl,JC⟩;subst JC
  gi_wp2_with fail
  refine⟨trivial,(CallsIn.inRound l (callsIn_wide.2 Jm.o)).mono ?_⟩;rintro e U ⟨rfl,hZ,hL⟩;have Ha:Apart (λ_=>False) L U:=Apart.of_below hL;have s0:=hZ.2 0 hS;have ho:=qI hZ;have Jo:=qI hL;clear hZ hL Jm h9;have q0:=QM (ar ws 0);have Z:=QN (ar ws 0)
  by_cases P:ar ws 0=[112,111,100]
  ·rw[Qc P] at q0;have j6:decide (ar ws 0=[99,111,110,116])=false:=Q7 (by rw[P];decide);rw[j6] at Z
   by_cases E:ws.length=3
   ·rcases two (gOf (ar ws 2)) with hg|hg
    ·skip
     have h2:=qI (he.o.trans (QP P E hg));have HI:=qI (C5 L ws.length ws U ho.o E hz.o);rw[hg] at HI;rw[E] at HI;generalize hnm:ByteArray.mk (ar ws 1).toArray=nm at *;generalize nOf (ar ws 2)=pr at *
     gi_wp2_with fail
     refine⟨trivial,(CallsIn.inRound l (callsIn_wide.2 HI.o)).mono ?_⟩;rintro e d ⟨rfl,Hi⟩;have Hg:Apart (λ_=>False) L (d.alloc (gL nm pr)):=(Ha.trans (Apart.of_below Hi)).trans (Apart.alloc _ _ _);have p0:(d.alloc (gL nm pr)).cell? d=some (.string nm):=by simp
     have p1:(d.alloc (gL nm pr)).cell? ⟨d,1,none⟩=some (.int .i64 pr):=by simp
     have p2:(d.alloc (gL nm pr)).cell? ⟨d,2,none⟩=some (.slice none 0 0):=by simp
     have Jq:A.heap.size+2<=(d.alloc (gL nm pr)).heap.size:=Q5 h6 Hg.size;clear Hi s0 q0 Z;have H:=Hg.boxed HK.o id;have c2:=H.cell;have H3:=hh.o.apart Hg λj q=>q.elim;obtain⟨ys,HZ,Ht⟩:=H3.push;have JH:=qI Ht;have JZ:hs.length+1<=10000:=by omega
     have HF:=P9 (d.alloc (gL nm pr)) nm pr 101;rw[show (d.alloc (gL nm pr)).heap.size=d.heap.size+1 by simp] at HF;have JT:=qI HF;clear HF;have JV:A.heap.size+2<=((d.alloc (gL nm pr)).alloc (xB nm pr)).heap.size:=Q5 Jq (((Q0 _ (d.alloc (gL nm pr))).alloc (lR) _).size);clear Ht H3;generalize hhn:hs.length=M at *
     gi_wp2_with (gi_at_builtin;refine wpListIn_append_own_at _ rfl _ _ 43 rfl (A.heap.size+2) 101 i0 _ 4 72 underlying43 hi JE JR JQ rfl (by decide) _ _ _ rfl (HZ.alloc _) ⟨_,0,none⟩ 1 1 (fu ⟨nm,pr,[],[],.slice none 0 0,.slice none 0 0⟩) rfl rfl JT.o (Qy nm pr) (by unfold maxLen;omega) (by omega) JV ?_;intro v' W4 Hw Ho _ HT;obtain⟨f,nc,rfl⟩:=gI Hw;have Jf:((d.alloc (gL nm pr)).alloc (xB nm pr)).grownBy W4 (Value.slice S M vc).ownBlock:=Ho;have hJ:(Value.slice f (M+1) nc).ownBlock=(Value.slice S M vc).ownBlock\/(Value.slice f (M+1) nc).ownBlock=some ((d.alloc (gL nm pr)).alloc (xB nm pr)).heap.size:=HT;clear Ho HT;have H4:=xw HZ Jf;have g4:=H4.boxed H (by omega);have c4:=g4.cell;have f4:=g4.frozen)
     have Hc:Apart (λj=>A.heap.size+2<=j\/j=w.heap.size+1+1) L (W4.setCell ⟨w.heap.size+1+1,0,none⟩ (.slice f (M+1) nc)):=(((Hg.wide λ_ h=>h.elim).trans (H4.wide λ_=>.inl))).trans (Apart.setCell (.inr rfl) _ _ _);have JX:=Hy.o;refine⟨λj q=>Hc.block j (by omega) (by omega),by rw[HR.o];omega,Hc.boxed Hj.o (by omega),Hc.boxed Hk.o (by omega),⟨_,_,g4.set _,(JH.o _ _ _ nm pr Jf Hw hJ).apart (Apart.setCell (K:=λj=>j=w.heap.size+1+1) rfl W4 0 _) (λj q=>by omega),h2.o,by rw[Q2,hhn];simp;omega,QB h7.o⟩,Hc.below Hb.o (lR) (λj q=>by omega)⟩
    ·skip
     have Hq:=qI (Hx.o (QO P E hg));have HI:=qI (C5 L ws.length ws U ho.o E hz.o);rw[hg] at HI;rw[E] at HI;generalize hnm:ByteArray.mk (ar ws 1).toArray=nm at *;generalize nOf (ar ws 2)=pr at *
     gi_wp2_with fail
     refine⟨trivial,(CallsIn.inRound l (callsIn_wide.2 HI.o)).mono ?_⟩;rintro e d ⟨rfl,Hi⟩;have Hg:Apart (λ_=>False) L (d.alloc (gL nm pr)):=(Ha.trans (Apart.of_below Hi)).trans (Apart.alloc _ _ _);have p0:(d.alloc (gL nm pr)).cell? d=some (.string nm):=by simp
     have p1:(d.alloc (gL nm pr)).cell? ⟨d,1,none⟩=some (.int .i64 pr):=by simp
     have p2:(d.alloc (gL nm pr)).cell? ⟨d,2,none⟩=some (.slice none 0 0):=by simp
     have Jq:A.heap.size+2<=(d.alloc (gL nm pr)).heap.size:=Q5 h6 Hg.size;clear Hi s0 q0 Z;obtain⟨c0,f0,c1,f1⟩:=pA Hg Hj.o Hk.o
     gi_wp2_with fail
     exact pB Hg Hj.o Hk.o Hb.o Hy.o Hf Hq.o
   ·have JF:((ws.length:Int) == 3)=false:=by simp;omega
    have Hq:=qI (Hx.o (tT (by simp[jw,E]) (λh=>by simp[nR,P] at h)));obtain⟨c0,f0,c1,f1⟩:=pA Ha Hj.o Hk.o
    gi_wp2_with fail
    exact pB Ha Hj.o Hk.o Hb.o Hy.o Hf Hq.o
  ·rw[Q7 P] at q0
   by_cases hc:ar ws 0=[99,111,110,116]
   ·rw[Qc hc] at Z
    by_cases D:ws.length=9
    ·by_cases h0:0<hs.length
     ·rcases two (okC ws) with H0|H0
      ·skip
       obtain⟨ds,j4,Jl,H2,JS,Hv⟩:=QV hc D H0 h0;have h2:=qI (he.o.trans Hv);clear Hv;have Hn:=qI (Dd L ws.length ws U ho.o D hz.o (HM.o.below (Hb.o.trans (Jo.o.mono Hb.o.size))));unfold xz at Hn;rw[H0] at Hn;rw[D] at Hn;have H:=Ha.boxed HK.o id;have c2:=H.cell;rw[Jl] at Hn;rw[H2] at Hn;generalize ByteArray.mk (ar ws 1).toArray=nm at *;generalize nOf (ar ws 2)=n2 at *;generalize nOf (ar ws 3)=p at *;generalize nOf (ar ws 4)=i at *;generalize nOf (ar ws 5)=o at *;generalize gH (ar ws 7)=cp at *
       gi_wp2_with fail
       refine⟨trivial,(CallsIn.inRound l (callsIn_wide.2 Hn.o)).mono ?_⟩;rintro e d ⟨nv,dv,rfl,hr,hw,⟨f,u,nc,rfl,hA⟩,⟨s,z,r,rfl,hf⟩,Hi⟩;have Hl:Apart (λ_=>False) L ((d.alloc (iI nm n2 p i o f u nc)).alloc (.cells #[.int .u64 cp,.slice s z r] 123)):=((Ha.trans (Apart.of_below Hi)).trans (Apart.alloc _ _ _)).trans (Apart.alloc _ _ _);clear s0 q0 Z H c2;have JP:=qI (hr ds rfl);have JA:=qI (hw j4 rfl);have Jx:=qI hA;have JB:=qI hf;have hN:=qI Hi;clear hr hw hA hf Hi;have g4:=Hl.boxed HK.o id
       rcases hh.o with⟨h1,_⟩|⟨J,la,X,He⟩
       ·rw[h1] at h0;simp at h0
       have H8:hs.length=J.length+1:=by rw[He];simp
       have Jd:=qI He;clear He;have Jn:Hu (la.cl.length<=100000/\la.gl.length<=100000):=by
        have O:=h7.o la.hd (by rw[Jd.o];simp);simp only[Hp.hd,Q9] at O;exact⟨by omega,by omega⟩
       have Jh:=qI H6;clear H6 he Hx Hn h0 Jl H2;generalize hs.length=M at *;subst H8;obtain⟨m,Zb,hv,J2,J1,hH,JY,_⟩:=rh X.row (by omega);cases hv;have hq:=Do X Hl λj q=>q.elim;have HQ:=qI hq;obtain⟨ca,cc,ha,_,_⟩:=py X.hla.rc;obtain⟨ga,gc,JL,_,_⟩:=py X.hla.rg;have HH:=Q1 hH Hl.size;have JJ:L<=U.heap.size:=Ha.size;have J0:U<=d.heap.size:=hN.o.size;have h3:Hu (∀b,U.heap.size<=b->bY (A.heap.size+2) (.slice m (J.length+1) vc) la b):=λb O=>⟨by omega,λe=>by have e2:some m=some b:=e;injection e2 with e2;omega,λe=>by have:=(X.hla.rc.lt b e).2;omega,λe=>by have:=(X.hla.rg.lt b e).2;omega⟩
       have HA:Below d d ((d.alloc (iI nm n2 p i o f u nc)).alloc (.cells #[.int .u64 cp,.slice s z r] 123)):=((Q0 _ _).alloc (lR) _).alloc (by simp) _;have Jv:=qI (kh.of (Q:=bY (A.heap.size+2) (.slice m (J.length+1) vc) la) (JP.o.below HA) ⟨_,_,_,rfl,Jx.o⟩ λb O _=>h3.o b O);have Jz:=qI (jb.of (Q:=bY (A.heap.size+2) (.slice m (J.length+1) vc) la) (JA.o.below HA) ⟨_,_,_,rfl,JB.o⟩ λb O _=>h3.o b O);have r2:((d.alloc (iI nm n2 p i o f u nc)).alloc (.cells #[.int .u64 cp,.slice s z r] 123)).cell? ⟨m,J.length*4+2,none⟩=some la.cv:=Dq hq (j:=2) (by omega);have j1:=hq.row.frozenAt (J.length*4+2);rw[ha] at r2;have c4:=g4.cell;have e0:((d.alloc (iI nm n2 p i o f u nc)).alloc (.cells #[.int .u64 cp,.slice s z r] 123)).cell? d=some (.string nm):=by simp
       have e1:((d.alloc (iI nm n2 p i o f u nc)).alloc (.cells #[.int .u64 cp,.slice s z r] 123)).cell? ⟨d,1,none⟩=some (.int .i64 n2):=by simp
       have e2:((d.alloc (iI nm n2 p i o f u nc)).alloc (.cells #[.int .u64 cp,.slice s z r] 123)).cell? ⟨d,2,none⟩=some (.int .i64 p):=by simp
       have e3:((d.alloc (iI nm n2 p i o f u nc)).alloc (.cells #[.int .u64 cp,.slice s z r] 123)).cell? ⟨d,3,none⟩=some (.int .i64 i):=by simp
       have e4:((d.alloc (iI nm n2 p i o f u nc)).alloc (.cells #[.int .u64 cp,.slice s z r] 123)).cell? ⟨d,4,none⟩=some (.int .i64 o):=by simp
       have e5:((d.alloc (iI nm n2 p i o f u nc)).alloc (.cells #[.int .u64 cp,.slice s z r] 123)).cell? ⟨d,5,none⟩=some (.slice f u nc):=by simp
       have hF:=hq.hla.rc;rw[ha] at hF;have hY:=qI hF;have H7:(Value.slice ca la.cl.length cc).ownBlock≠some m:=λe=>X.vc m (by rw[ha];exact e) rfl
       have HV:la.cl.length<=100000:=Jn.o.1;have Js:Hu (A.heap.size+2<=((d.alloc (iI nm n2 p i o f u nc)).alloc (.cells #[.int .u64 cp,.slice s z r] 123)).heap.size):=Q5 JY (Nat.le_of_lt HH);have J3:wrap64 ((J.length:Nat):Int)=J.length:=by have:=Jh.o;unfold wrap64;omega
       clear hF HA hq
       gi_wp2_with fail
       refine BO (PY (c:=⟨nm,n2,p,i,o,ds⟩) (base:=A.heap.size+2) ((d.alloc (iI nm n2 p i o f u nc)).alloc (.cells #[.int .u64 cp,.slice s z r] 123)) r2 j1 e0 e1 e2 e3 e4 e5 hY.o Js.o HV HH H7) ?_;rintro _ W5 ⟨F,rfl,g,In,W6,rfl,Jr,Ji,H1⟩;dsimp only;have Hz:bY (A.heap.size+2) (.slice m (J.length+1) vc) la (d.heap.size+1):=h3.o _ (by omega);obtain⟨N,HJ,HL,Jj,Hr,HD⟩:=QE HQ.o Jv.o Jz.o ha Ji Jr H1 Hz (by simp);have e6:((d.alloc (iI nm n2 p i o f u nc)).alloc (.cells #[.int .u64 cp,.slice s z r] 123)).cell? (d.heap.size+1:Nat)=some (.int .u64 cp):=by simp
       have e7:((d.alloc (iI nm n2 p i o f u nc)).alloc (.cells #[.int .u64 cp,.slice s z r] 123)).cell? ⟨d.heap.size+1,1,none⟩=some (.slice s z r):=by simp
       replace e6:=(World.cell?_of_block (a:=⟨d.heap.size+1,0,none⟩) HD).trans e6
       replace e7:=(World.cell?_of_block (a:=⟨d.heap.size+1,1,none⟩) HD).trans e7
       have Hs:N.gv=.slice ga la.gl.length gc:=by rw[HJ];exact JL
       have h8:N.gl=la.gl:=by rw[HJ]
       have JK:=qI HL;have Jw:=qI Jj;have hM:=qI (Hl.wide (K':=λj=>A.heap.size+2<=j) (λ_ h=>h.elim) |>.trans Hr);have hX:=Q1 HH Hr.size;have r3:=Dq HL (j:=3) (by omega);have j3:(fu N)[3]?=some N.gv:=rfl;rw[j3,Hs] at r3;have j0:=HL.row.frozenAt (J.length*4+3);have hG:=HL.hla.rg;rw[h8,Hs] at hG;have JN:=qI hG;have hT:(Value.slice ga la.gl.length gc).ownBlock≠some m:=λe=>HL.vg m (by rw[Hs];exact e) rfl
       have hO:la.gl.length<=100000:=Jn.o.2;have hW:=qI (Q5 Js.o Hr.size);clear HL Jj Hr HD hG Jr Ji H1 r2 j1 e0 e1 e2 e3 e4 e5 j3 H7 HV Hz;generalize World.setCell W6 ⟨m,J.length*4+2,none⟩ (.slice g (la.cl.length+1) In)=W5 at *
       gi_wp2_with fail
       refine BO (PZ (c:=⟨cp,j4⟩) (base:=A.heap.size+2) W5 r3 j0 e6 e7 JN.o hW.o hO hX hT) ?_;rintro _ W7 ⟨F2,rfl,H,j2,W8,rfl,Jp,Ju,H5⟩;dsimp only;obtain⟨H9,HY,HW,HX⟩:=QF HJ JK.o Jw.o JS Hs Ju Jp H5 Jd.o h7.o;have hU:=qI H9;have Jb:=qI HW;have Hc:Apart (λj=>A.heap.size+2<=j) L _:=hM.o.trans HX;clear H9 HW Jp Ju H5 r3 j0 e6 e7 HX;generalize World.setCell W8 ⟨m,J.length*4+3,none⟩ (.slice H (la.gl.length+1) j2)=W9 at *
       gi_wp2_with fail
       have JX:=Hy.o;refine⟨λj q=>Hc.block j (by omega) (by omega),by rw[HR.o];omega,Hc.boxed Hj.o (by omega),Hc.boxed Hk.o (by omega),⟨_,_,Hc.boxed HK.o (by omega),hU.o,h2.o,by rw[HY];exact Nat.le_succ_of_le Jh.o,Jb.o⟩,Hc.below Hb.o (lR) (λj q=>by omega)⟩
      ·skip
       have Hq:=qI (Hx.o (QU hc D H0));have Hn:=qI (Dd L ws.length ws U ho.o D hz.o (HM.o.below (Hb.o.trans (Jo.o.mono Hb.o.size))));unfold xz at Hn;rw[H0] at Hn;rw[D] at Hn;have H:=Ha.boxed HK.o id;have c2:=H.cell;generalize ByteArray.mk (ar ws 1).toArray=nm at *;generalize nOf (ar ws 2)=n2 at *;generalize nOf (ar ws 3)=p at *;generalize nOf (ar ws 4)=i at *;generalize nOf (ar ws 5)=o at *;generalize gH (ar ws 7)=cp at *
       gi_wp2_with fail
       refine⟨trivial,(CallsIn.inRound l (callsIn_wide.2 Hn.o)).mono ?_⟩;rintro e d ⟨nv,dv,rfl,hr,hw,⟨f,u,nc,rfl,hA⟩,⟨s,z,r,rfl,hf⟩,Hi⟩;have Hl:Apart (λ_=>False) L ((d.alloc (iI nm n2 p i o f u nc)).alloc (.cells #[.int .u64 cp,.slice s z r] 123)):=((Ha.trans (Apart.of_below Hi)).trans (Apart.alloc _ _ _)).trans (Apart.alloc _ _ _);clear s0 q0 Z H c2;obtain⟨c0,f0,c1,f1⟩:=pA Hl Hj.o Hk.o;clear hr hw hA hf Hi
       gi_wp2_with fail
       exact pB Hl Hj.o Hk.o Hb.o Hy.o Hf Hq.o
     ·have JI:hs.length=0:=by omega
      have Hq:=qI (Hx.o (tT (by simp[jw,P]) λ_=>h0));have H:=Ha.boxed HK.o id;have c2:=H.cell;rw[JI] at c2 H;obtain⟨c0,f0,c1,f1⟩:=pA Ha Hj.o Hk.o
      gi_wp2_with fail
      exact pB Ha Hj.o Hk.o Hb.o Hy.o Hf Hq.o
    ·have Jy:((ws.length:Int) == 9)=false:=by simp;omega
     have Hq:=qI (Hx.o (tT (by simp[jw,P]) (λh=>by simp[nR,D] at h)));obtain⟨c0,f0,c1,f1⟩:=pA Ha Hj.o Hk.o
     gi_wp2_with fail
     exact pB Ha Hj.o Hk.o Hb.o Hy.o Hf Hq.o
   ·rw[Q7 hc] at Z;have Hq:=qI (Hx.o (tT (by simp[jw,P]) (λh=>by simp[nR,hc] at h)));obtain⟨c0,f0,c1,f1⟩:=pA Ha Hj.o Hk.o
    gi_wp2_with fail
    exact pB Ha Hj.o Hk.o Hb.o Hy.o Hf Hq.o
 case done=>
  intro W hI hD;rw[hV.o,<- HR.o] at hI;obtain⟨_,HP,HO,⟨v,hs,Hi,Y,HE,_⟩,Hm⟩:=hI;rw[Qh] at HE;have HS:=qI (hK.o.trans HE);have hh:=qI Y;have c2:=Hi.cell;have c1:=HO.cell;have c0:=HP.cell;have f1:=HO.frozen;have f0:=HP.frozen;have Hb:=qI Hm;have Hj:=qI HP;have Hk:=qI HO;obtain⟨S,vc,rfl⟩:=Y.slice;clear Hm Y He hE hB HE hu hC;generalize hs.length=hl at *
  gi_wp2_with fail
  have Hc:Apart (λj=>j=w.heap.size\/j=w.heap.size+1) W ((W.setCell w (.slice S hl vc)).setCell (w.heap.size+1:Nat) true):=(Apart.setCell (.inl rfl) _ _ _).trans (Apart.setCell (.inr rfl) _ _ _);have d0:=(Apart.setCell (K:=λj=>j=w.heap.size+1) rfl _ 0 true).boxed (Hj.o.set (.slice S hl vc)) (by omega);have d1:=((Apart.setCell (K:=λj=>j=w.heap.size) rfl W 0 (.slice S hl vc)).boxed Hk.o (by omega)).set true;have JU:=(Hc.block A (gS hD).1 (by omega)).trans hD;generalize (W.setCell w (.slice S hl vc)).setCell (w.heap.size+1:Nat) true=W5 at *;have Hh:Apart (λj=>j=A.heap.size) W5 (W5.putObj A (.deferred none)):=Apart.putObj (K:=λj=>j=A.heap.size) rfl _ _;have e1:=(Hh.boxed d0 (by omega)).cell;have e2:=(Hh.boxed d1 (by omega)).cell;have JW:=qI (((hh.o.apart Hc (λj q=>by omega)).apart Hh (λj q=>by omega)).apart (Apart.masked (λj=>j<w.heap.size) _) (λj q=>by omega)).plain;have hP:=qI (Hh.below (Hc.below Hb.o (lR) (λj q=>by omega)) (lR) (λj q=>by omega));refine⟨by simp,.inl ⟨_,_,rfl,run_takeDeferred JU,?_⟩⟩;refine⟨.tuple #[.slice S hl vc,true],?_,.slice S hl vc,by rw[HS.o];rfl,λT I=>?_,⟨_,_,_,rfl⟩,hP.o⟩
  ·generalize W5.putObj A (Obj.deferred none)=W6 at *;rw[mO rfl];go_simp
  ·rw[HS.o] at I;cases I;exact JW.o
 case stop=>
  rintro c W ⟨rfl,h4,h5,O,M⟩ hD;have c1:=h4.cell;have c2:=h5.cell;have HN:=qI M;have HB:=qI O;clear M O He hE hB hu hC
  gi_wp2_with fail
  have Hh:Apart (λj=>j=A.heap.size) W (W.putObj A (.deferred none)):=Apart.putObj (K:=λj=>j=A.heap.size) rfl _ _;have e1:=(Hh.boxed h4 (by omega)).cell;have e2:=(Hh.boxed h5 (by omega)).cell;have hP:=qI (Hh.below HB.o (lR) (λj q=>by omega));refine⟨by simp,.inl ⟨_,_,rfl,run_takeDeferred hD,?_⟩⟩;refine⟨.tuple #[.slice none 0 0,false],?_,.slice none 0 0,by rw[HN.o];rfl,λT I=>?_,⟨_,_,_,rfl⟩,hP.o⟩
  ·generalize W.putObj A (Obj.deferred none)=W6 at *;rw[mO rfl];go_simp
  ·rw[HN.o] at I;cases I
theorem QW(t:List UInt8)(w:World)(a:t.length<=7000)(b:cS w):Calls prog 157 #[.string ⟨t.toArray⟩] w (QH w t):=
 (Du t w a b).mono λ_ _ ⟨v,he,h,hs,hb⟩=>⟨v,he,λl c=>(h l c).le (cJ _ _),hs,hb⟩
def fZ:aS:=[115,117,109,32]
def kp (t:aS):Int:=Lib.lastIndex t fZ
def eR (t:aS):Option aS:=if 0<=kp t then if t.drop (kp t).toNat=dB (t.take (kp t).toNat) then some (t.take (kp t).toNat) else none else none
def ou (t:aS):aS:=if 0<=kp t then t.take (kp t).toNat else []
theorem xC(t:aS)(j:Nat):Lib.occAt t fZ j=true↔(t.drop j).take 4=fZ:=by
 unfold Lib.occAt;rw[List.isPrefixOf_iff_prefix,List.prefix_iff_eq_take];exact⟨λh=>h.symm,λh=>h.symm⟩
theorem Dv(t:aS):(kp t=-1/\∀j,(t.drop j).take 4≠fZ)\/∃i:Nat,kp t=i/\i+4<=t.length/\(t.drop i).take 4=fZ/\∀j,i<j->(t.drop j).take 4≠fZ:=by
 have Ha:∀j,t.length<j+4->(t.drop j).take 4≠fZ:=λj b e=>by
  have:=congrArg List.length e
  simp[fZ] at this
  omega
 unfold kp Lib.lastIndex
 by_cases a:fZ.length<=t.length
 ·rw[if_pos a];have Hc:4<=t.length:=a
  rcases Lib.lastOcc_spec t fZ (t.length - fZ.length+1) with⟨c,d⟩|⟨i,c,d,g,k⟩
  ·refine .inl ⟨c,λj=>?_⟩
   by_cases b:t.length<j+4
   ·exact Ha j b
   ·have:=d j (by show j<t.length - 4+1;omega)
    exact λe=>by rw[(xC t j).2 e] at this;cases this
  ·have Hb:i<t.length - 4+1:=c;refine .inr ⟨i,d,by omega,?_,λj b=>?_⟩
   ·exact (xC t i).1 g
   ·by_cases f:t.length<j+4
    ·exact Ha j f
    ·have:=k j b (by show j<t.length - 4+1;omega)
     exact λe=>by rw[(xC t j).2 e] at this;cases this
 ·rw[if_neg a];refine .inl ⟨rfl,λj=>Ha j ?_⟩
  have:t.length<4:=by have h:¬ 4<=t.length:=a;omega
  omega
theorem QX(h:eR t=some b):t=b++dB b:=by grind[eR,List.take_append_drop]
theorem QY(b:aS)(k:Nat):0<k->((dB b).drop k).take 4≠fZ:=by
 intro c e;have Ha:(115:UInt8)∈(dB b).drop k:=by
  have:(115:UInt8)∈((dB b).drop k).take 4:=by rw[e];simp[fZ]
  exact List.mem_of_mem_take this
 have a:(115:UInt8)∈(dB b).drop 1:=by
  obtain⟨j,rfl⟩:∃j,k=1+j:=⟨k - 1,by omega⟩;rw[<- List.drop_drop] at Ha;exact List.mem_of_mem_drop Ha
 unfold dB at a
 simp at a
 exact oO _ 115 (by decide) a
theorem QZ(b:aS):kp (b++dB b)=b.length:=by
 have Ha:((b++dB b).drop b.length).take 4=fZ:=by
  rw[List.drop_left];unfold dB fZ
  simp
 rcases Dv (b++dB b) with⟨_,h⟩|⟨i,c,e,a,d⟩
 ·exact absurd Ha (h _)
 ·rw[c]
  rcases Nat.lt_trichotomy i b.length with h|h|h
  ·exact absurd Ha (d _ h)
  ·rw[h]
  ·exfalso
   obtain⟨j,rfl⟩:∃j,i=b.length+j:=⟨i - b.length,by omega⟩;rw[<- List.drop_drop,List.drop_left] at a;exact QY b j (by omega) a
theorem Ra(b:aS):eR (b++dB b)=some b:=by
 unfold eR;rw[QZ]
 simp
theorem Rb(h:eR t=some b):ou t=b:=by grind[eR,ou]
theorem Rc(h:eR t=some b):b.length<=t.length:=by rw[QX h];simp
theorem Rd(t:List UInt8)(w:World)(p:t.length<=1000000)(a:bJ w):Calls prog 156 #[.string ⟨t.toArray⟩] w λe w'=>
  e=.returned (.tuple #[.string ⟨(ou t).toArray⟩,.bool (eR t).isSome])/\Below w w w':=by
 have k:=qI a;have Ha:=qI (Tryz.strings_LastIndex ⟨t.toArray⟩ ⟨#[115,117,109,32]⟩ (by simp[ByteArray.size];omega) w);rw[show (ByteArray.mk t.toArray).data.toList=t by simp,show (ByteArray.mk #[115,117,109,32]).data.toList=fZ from rfl,show Lib.lastIndex t fZ=kp t from rfl] at Ha
 rcases Dv t with⟨b,d⟩|⟨i,b,d,l,n⟩
 ·have c:Hu (eR t=none):=by
   unfold Hu eR;rw[b];rfl
  have Hc:Hu (ou t=[]):=by unfold Hu ou;rw[b];rfl
  rw[b] at Ha;clear b d a
  go_enter func156,ntmps156
  go_wp2_with fail
  refine Ha.o.mono ?_;rintro e f ⟨rfl,rfl⟩
  go_wp2
  go_ret2;exact⟨by rw[c.o,Hc.o];rfl,Q0 _ _⟩
 ·have c:Hu (eR t=if t.drop i=dB (t.take i) then some (t.take i) else none):=by
   unfold Hu eR;rw[b,if_pos (by omega)];rfl
  rw[b] at Ha;have He:Hu ((ByteArray.mk t.toArray).extract 0 i=⟨(t.take i).toArray⟩):=by unfold Hu;apply ByteArray.ext;simp
  have Hh:Hu ((ByteArray.mk t.toArray).extract i t.length=⟨(t.drop i).toArray⟩):=by unfold Hu;apply ByteArray.ext;simp;exact List.take_of_length_le (by simp)
  have Hi:(decide ((i:Int)<0))=false:=by simp
  have hle:i<=t.length:=by omega
  have Hc:Hu (ou t=t.take i):=by unfold Hu ou;rw[b,if_pos (by omega)];rfl
  have Hf:Hu ((t.drop i == dB (t.take i))=(eR t).isSome):=by
   unfold Hu;rw[c.o]
   by_cases h:t.drop i=dB (t.take i)
   ·rw[h];simp
   ·rw[if_neg h]
    simpa using h
  clear b d l n a c
  go_enter func156,ntmps156
  go_wp2_with fail
  refine Ha.o.mono ?_;rintro e f ⟨rfl,rfl⟩
  go_wp2_with fail
  refine wp_region_held_drew (S:=(λ_=>True)) (by kernel_rfl) trivial λm=>?_;refine tk 0 ?_;refine tk 1 ?_;refine tk 2 ?_;refine tk 3 ?_;refine tk 4 ?_;refine tk 5 ?_;refine tk 6 ?_;refine tk 7 ?_;refine tk 8 ?_;refine rd 9 λK g=>?_;go_simp
  go_wp2_with fail
  rw[He.o,Hh.o];have Hb:=qI (jB (Q0 f f));refine (Ct (t.take i) _ (by simp;omega) (k.o.below Hb.o).1).mono ?_;rintro e o ⟨rfl,j⟩;have Hg:=qI (Hb.o.trans (j.mono Hb.o.size));clear j
  go_wp2_with fail
  refine g.o _ _ trivial λm=>?_;clear g K;refine tk 10 ?_;refine tk 11 ?_;refine tk 12 ?_;refine Qn (by kernel_rfl) ?_ _
  go_wp2
  go_ret2;exact⟨by rw[Hc.o,<- Hf.o];rfl,Hg.o⟩
def fH (t:aS):Nat × List af:=
 if 6000<t.length then (2,[]) else
 match eR t with
 | none=>(12,[])
 | some b=>match gD b with
  | none=>(4,[])
  | some hs=>if bw hs=0/\bn hs=t then (0,hs) else (4,[])
theorem Dw(h:6000<t.length):fH t=(2,[]):=if_pos h
theorem Dx(h:¬ 6000<t.length)(a:eR t=none):fH t=(12,[]):=by
 unfold fH;rw[if_neg h,a]
theorem Dy(h:¬ 6000<t.length)(c:eR t=some b)(a:gD b=none):fH t=(4,[]):=by
 unfold fH;rw[if_neg h,c];dsimp only;rw[a]
theorem xD(h:¬ 6000<t.length)(c:eR t=some b)(a:gD b=some hs):fH t=if bw hs=0/\bn hs=t then (0,hs) else (4,[]):=by
 unfold fH;rw[if_neg h,c];dsimp only;rw[a]
theorem Re(e:lA hs)(hf:bw hs=0)(a:(bn hs).length<=6000):fH (bn hs)=(0,hs):=by grind[eR,bn,dj,Ra,xD,L9]
theorem Dz(h:(fH t).1=0):bw (fH t).2=0/\bn (fH t).2=t/\t.length<=6000:=by
 by_cases a:6000<t.length
 ·rw[Dw a] at h;cases h
 ·cases h1:eR t with
  | none=>rw[Dx a h1] at h;cases h
  | some b=>
   cases h2:gD b with
   | none=>rw[Dy a h1 h2] at h;cases h
   | some hs=>
    rw[xD a h1 h2] at h ⊢
    by_cases c:bw hs=0/\bn hs=t
    ·rw[if_pos c];exact⟨c.1,c.2,by omega⟩
    ·rw[if_neg c] at h;cases h
def WP (w:World) (t:List UInt8) (e:Ending) (w':World):Prop:=
 ∃v,e=.returned (.tuple #[v,aJ ((fH t).1:Nat)])/\aY w' v (fH t).2/\Below w w w'
def Rf (w:World) (t:List UInt8) (e:Ending) (w':World):Prop:=
 ∃v,e=.returned (.tuple #[v,aJ ((fH t).1:Nat)])/\aY (au (λj=>j<w.heap.size) w') v (fH t).2/\Below w w w'
theorem kq(w:World):aY w (.slice none 0 0) []:=⟨none,0,rfl,⟨lR,by unfold maxLen;omega⟩,λh=>by simp at h⟩
theorem Rg(t:List UInt8)(w:World)(y:t.length<=1000000)(f:bJ w)(s:cS w):Calls prog 116 #[.string ⟨t.toArray⟩] w (Rf w t):=by
 have i:=qI f;have q:=qI s;clear f s
 by_cases l:6000<t.length
 ·have d:=qI (Dw l);have u:decide ((6000:Int)<(t.length:Int))=true:=by simp;omega
  go_enter func116,ntmps116
  go_wp2
  go_ret2;exact⟨_,by rw[d.o];rfl,by rw[d.o];exact kq _,Q0 _ _⟩
 ·have u:decide ((6000:Int)<(t.length:Int))=false:=by simp;omega
  have Hf:=qI (Rd t w y i.o);cases h1:eR t with
  | none=>
   have d:=qI (Dx l h1);rw[h1] at Hf;clear h1
   go_enter func116,ntmps116
   go_wp2_with fail
   refine Hf.o.mono ?_;rintro e k ⟨rfl,He⟩;have Hb:=qI He;clear He
   go_wp2
   go_ret2;exact⟨_,by rw[d.o];rfl,by rw[d.o];exact kq _,Hb.o⟩
  | some b=>
   rw[Rb h1,h1] at Hf;have Hs:b.length<=t.length:=Rc h1;cases h2:gD b with
   | none=>
    have d:=qI (Dy l h1 h2);clear h1;have Hj:Hu (∀W,cS W->Calls prog 157 #[.string ⟨b.toArray⟩] W λe w'=>∃a n c,e=.returned (.tuple #[.slice a n c,false])/\Below W.heap.size W w'):=λW p=>(QW b W (by omega) p).mono (by
     rintro e w' ⟨v,rfl,_,⟨a,n,c,rfl⟩,o⟩;exact⟨a,n,c,by rw[h2];rfl,o⟩)
    clear h2
    go_enter func116,ntmps116
    go_wp2_with fail
    refine Hf.o.mono ?_;rintro e k ⟨rfl,He⟩;have Hb:=qI He;clear He
    go_wp2_with fail
    refine (Hj.o k (q.o.below Hb.o)).mono ?_;rintro e m ⟨a,n,c,rfl,Hi⟩;have Ha:=qI (Hb.o.trans (Hi.mono Hb.o.size));clear Hi
    go_wp2
    go_ret2;exact⟨_,by rw[d.o];rfl,by rw[d.o];exact kq _,Ha.o⟩
   | some hs=>
    have d:=qI (xD l h1 h2);clear h1;have Hj:Hu (∀W,cS W->Calls prog 157 #[.string ⟨b.toArray⟩] W λe w'=>∃a n c,e=.returned (.tuple #[.slice a n c,true])/\aY (au (λj=>j<W.heap.size) w') (.slice a n c) hs/\Below W.heap.size W w'):=λW p=>(Du b W (by omega) p).mono (by
     rintro e w' ⟨v,rfl,h,⟨a,n,c,rfl⟩,o⟩;exact⟨a,n,c,by rw[h2];rfl,h hs h2,o⟩)
    clear h2
    go_enter func116,ntmps116
    go_wp2_with fail
    refine Hf.o.mono ?_;rintro e k ⟨rfl,He⟩;have Hb:=qI He;clear He
    go_wp2_with fail
    refine (Hj.o k (q.o.below Hb.o)).mono ?_;rintro e m ⟨a,n,c,rfl,Hm,Hi⟩;have Ha:=qI (Hb.o.trans (Hi.mono Hb.o.size));have Ho:=qI Hm;have Hk:=qI (Hm.le (cJ _ _));have Hp:=Hb.o.size;clear Hi Hm Hj Hf
    by_cases hf:bw hs=0
    ·have Hg:Hu (ja hs=.tuple #[.string ⟨(bn hs).toArray⟩,.nilIface]):=by unfold Hu ja;rw[if_pos hf]
     by_cases g:bn hs=t
     ·rw[if_pos ⟨hf,g⟩] at d;rw[g] at Hg;clear hf g
      go_wp2_with fail
      refine (tR _ hs m Hk.o (i.o.below Ha.o)).mono ?_;rintro e r ⟨rfl,Hc⟩;have Hh:=qI (Ha.o.trans (Hc.mono Ha.o.size));have Hl:=qI (Ho.o.le (nV (M':=λj=>j<w.heap.size) (Apart.of_below Hc) (λj _ z=>by omega)));clear Hc;rw[Hg.o]
      go_wp2
      go_ret2;exact⟨_,by rw[d.o];rfl,by rw[d.o];exact Hl.o,Hh.o⟩
     ·rw[if_neg λh=>g h.2] at d;have Hr:(bn hs == t)=false:=by simpa using g
      have Hn:(bn hs != t)=true:=by simpa using g
      generalize bn hs=x at *;clear hf g
      go_wp2_with fail
      refine (tR _ hs m Hk.o (i.o.below Ha.o)).mono ?_;rintro e r ⟨rfl,Hc⟩;have Hh:=qI (Ha.o.trans (Hc.mono Ha.o.size));clear Hc;rw[Hg.o]
      go_wp2
      go_ret2;exact⟨_,by rw[d.o];rfl,by rw[d.o];exact kq _,Hh.o⟩
    ·rw[if_neg λh=>hf h.1] at d;have Hg:Hu (ja hs=.tuple #[.string ⟨#[]⟩,aJ (bw hs:Nat)]):=by unfold Hu ja;rw[if_neg hf]
     have Hq:=qI (eP hf);clear hf
     go_wp2_with fail
     refine (tR _ hs m Hk.o (i.o.below Ha.o)).mono ?_;rintro e r ⟨rfl,Hc⟩;have Hh:=qI (Ha.o.trans (Hc.mono Ha.o.size));clear Hc;rw[Hg.o,Hq.o]
     go_wp2
     go_ret2;exact⟨_,by rw[d.o];rfl,by rw[d.o];exact kq _,Hh.o⟩
structure Dk where
 n:Sd
 k:Sd
 wt:Option Chg
 l:Int
 d:Bool
def bz (W:World) (B:Nat) (s:Dk):Prop:=(-9223372036854775808<=s.l/\s.l<=9223372036854775807)/\∃v,aU W B s.n s.k v s.l s.d/\
 match s.wt with
 | none=>v=.slice none 0 0
 | some c=>∃g cap,v=.slice (some ⟨g,0,none⟩) 1 cap/\1<=cap/\g≠B/\kR W g c.wr c.bs
theorem bz.lt{s:Dk}(h:bz W B s):B<W:=by
 obtain⟨_,v,h,_⟩:=h;exact h.lt
theorem bz.below{s:Dk}(h:bz W B s)(f:Below W W W'):bz W' B s:=by
 obtain⟨j,v,d,a⟩:=h;refine⟨j,v,d.block (f.block B d.lt),?_⟩;cases hw:s.wt with
 | none=>rw[hw] at a;exact a
 | some c=>
  rw[hw] at a;obtain⟨g,b,e,k,i,Ha⟩:=a;exact⟨g,b,e,k,i,Ha.block (f.block g Ha.1)⟩
def Dk.fresh:Dk:=⟨⟨false,⟨#[]⟩,false,⟨#[]⟩⟩,⟨false,⟨#[]⟩,false,⟨#[]⟩⟩,none,-1,false⟩
theorem Rh(w:World):Calls prog 26 #[] w λe w'=>e=.returned w/\bz w' w Dk.fresh/\Below w w w':=by
 go_enter func26,ntmps26
 go_wp2
 go_ret;exact⟨rfl,⟨⟨by decide,by decide⟩,_,World.alloc_heap_new w _,rfl⟩,(Q0 _ _).alloc (lR) _⟩
theorem bz.only{s a:Dk}(h:bz W B s)(j:W.grownBy W' (some B))(k:a.wt=s.wt)(l:-9223372036854775808<=a.l/\a.l<=9223372036854775807)(ag:∀v,aU W B s.n s.k v s.l s.d->aU W' B a.n a.k v a.l a.d):bz W' B a:=by
 obtain⟨_,v,i,b⟩:=h;refine⟨l,v,ag v i,?_⟩;rw[k];cases hw:s.wt with
 | none=>rw[hw] at b;exact b
 | some c=>
  rw[hw] at b;obtain⟨g,d,e,m,f,Ha⟩:=b;exact⟨g,d,e,m,f,Ha.block (j.block g Ha.1 λe=>f (by injection e with e))⟩
theorem Ri(w:World)(j:Int):Sem.run prog (binOp .eql 40 .nilIface (.iface 108 j)) w=.ok false w:=by
 rfl
theorem DA(w:World)(i j:Int):Sem.run prog (binOp .eql 40 (.iface 108 i) (.iface 108 j)) w=.ok (.bool (i == j)) w:=by
 rfl
def Dk.load (s:Dk):Nat × List af:=if s.d=true then (11,[]) else if s.n.ft=true then fH s.n.fb.data.toList else (0,[])
def xE (w:World) (s:Dk) (e:Ending) (w':World):Prop:=∃v,e=.returned (.tuple #[v,aJ ((s.load.1:Nat):Int)])/\aY (au (λj=>j<w.heap.size) w') v s.load.2/\Below w w w'
theorem DB(B:Nat)(s:Dk)(w:World)(h:bz w B s)(hs:s.n.fb.data.toList.length<=1000000)(l:bJ w)(m:cS w):Calls prog 71 #[B] w (xE w s):=by
 obtain⟨_,v,f,_⟩:=h;have b:=qI (My B s.n s.k v s.l s.d w f);clear f;unfold wG at b
 by_cases ag:s.d=true
 ·have a:Hu (s.load=(11,[])):=by unfold Hu Dk.load;rw[if_pos ag]
  rw[if_pos ag] at b
  go_enter func71,ntmps71
  go_wp2_with fail
  refine b.o.mono ?_;rintro e d ⟨rfl,rfl⟩
  go_wp2_with fail
  rw[DA]
  go_wp2
  go_ret2;exact⟨_,by rw[a.o];rfl,by rw[a.o];exact kq _,Q0 _ _⟩
 ·rw[if_neg ag] at b
  by_cases hf:s.n.ft=true
  ·have a:Hu (s.load=fH s.n.fb.data.toList):=by unfold Hu Dk.load;rw[if_neg ag,if_pos hf]
   rw[if_pos hf] at b;have i:=qI (Rg s.n.fb.data.toList w hs l m);rw[show (ByteArray.mk s.n.fb.data.toList.toArray)=s.n.fb by simp] at i;generalize s.n.fb=fb at *
   go_enter func71,ntmps71
   go_wp2_with fail
   refine b.o.mono ?_;rintro e d ⟨rfl,rfl⟩
   go_wp2_with fail
   rw[Ri]
   go_wp2_with fail
   refine i.o.mono ?_;rintro e n ⟨u,rfl,c,g⟩;have j:=qI c;have k:=qI g;clear c g
   go_wp2
   go_ret2;exact⟨u,by rw[a.o];rfl,by rw[a.o];exact j.o,k.o⟩
  ·have a:Hu (s.load=(0,[])):=by unfold Hu Dk.load;rw[if_neg ag,if_neg hf]
   rw[if_neg hf] at b
   go_enter func71,ntmps71
   go_wp2_with fail
   refine b.o.mono ?_;rintro e d ⟨rfl,rfl⟩
   go_wp2_with fail
   rw[DA]
   go_wp2
   go_ret2;exact⟨_,by rw[a.o];rfl,by rw[a.o];exact kq _,Q0 _ _⟩
def Dk.fall (s:Dk):Dk:={ s with l:=bx s.l s.d,d:=true }
def Dk.apply (s:Dk) (c:Chg):Nat × Dk:=if cu s.l s.d=0 then (0,⟨c.on s.n,s.k,some c,bx s.l s.d,false⟩) else (11,s.fall)
def Dk.sync (s:Dk):Nat × Dk:=if cu s.l s.d=0 then (0,⟨s.n,s.n,none,bx s.l s.d,false⟩) else (11,s.fall)
def Dk.write (s:Dk) (t:ByteArray):Nat × Dk:=if 6000<t.size then (2,s) else s.apply ⟨true,t⟩
theorem tU(h:-9223372036854775808<=l/\l<=9223372036854775807):-9223372036854775808<=bx l d/\bx l d<=9223372036854775807:=by
 unfold bx
 split
 ·exact h
 ·split <;> omega
theorem xF(h:cu l d≠0):cu l d=11/\fV l d=true:=by
 rcases qP l d with a|a
 ·exact a
 ·exact absurd a.1 h
theorem bz.fall{s:Dk}(h:bz W B s)(a:W.grownBy W' (some B))(ag:∀v,aU W B s.n s.k v s.l s.d->aU W' B s.n s.k v (bx s.l s.d) true):bz W' B s.fall:=
 h.only a rfl (tU h.1) ag
theorem bz.waits{n k:Sd}{l:Int}{c:Chg}(j:B<W)(d:-9223372036854775808<=l/\l<=9223372036854775807)(h:tL W W' B n k l c.wr c.bs):bz W' B ⟨n,k,some c,l,false⟩:=by
 obtain⟨g,a,b,⟨i,f⟩,e⟩:=h;exact⟨d,_,b,g,a,rfl,f,by omega,e⟩
theorem bz.val{s:Dk}(h:bz W B s):∃v,aU W B s.n s.k v s.l s.d/\(∀v2,aU W B s.n s.k v2 s.l s.d->v2=v)/\(s.wt=none->v=.slice none 0 0):=by
 obtain⟨_,v,c,d⟩:=h;refine⟨v,c,λv2 b=>?_,λe=>?_⟩
 ·have f:=c.rest.1;have a:=b.rest.1;rw[f] at a;injection a with a;exact a.symm
 ·rw[e] at d;exact d
theorem DC(B:Nat)(s:Dk)(w:World)(h:bz w B s):Calls prog 70 #[B] w λe w'=>e=.returned (aJ (s.sync.1:Nat))/\bz w' B s.sync.2/\w.grownBy w' (some B):=by
 obtain⟨v,j,g,k⟩:=h.val;refine (Mz B s.n s.k v s.l s.d w j h.1).mono ?_
 by_cases a:cu s.l s.d=0
 ·have Ha:s.sync=(0,⟨s.n,s.n,none,bx s.l s.d,false⟩):=by unfold Dk.sync;rw[if_pos a]
  have f:fV s.l s.d=false:=by
   rcases qP s.l s.d with c|c
   ·rw[a] at c;exact absurd c.1 (by decide)
   ·exact c.2
  rw[Ha,a,if_pos rfl,if_pos rfl,f];rintro e w' ⟨rfl,ag,b⟩;exact⟨rfl,⟨tU h.1,_,ag,rfl⟩,b.1⟩
 ·have Ha:s.sync=(11,s.fall):=by unfold Dk.sync;rw[if_neg a]
  obtain⟨i,f⟩:=xF a;rw[Ha,i,if_neg (by decide),if_neg (by decide),f];rintro e w' ⟨rfl,ag,b⟩;exact⟨rfl,h.fall b.1 (λv2 d=>by rw[g v2 d];exact ag),b.1⟩
theorem Rj(B:Nat)(s:Dk)(w:World)(h:bz w B s)(g:s.n.dt=true)(k:s.wt=none):Calls prog 98 #[B] w λe w'=>e=.returned (aJ ((s.apply ⟨false,⟨#[]⟩⟩).1:Nat))/\bz w' B (s.apply ⟨false,⟨#[]⟩⟩).2/\w.grownBy w' (some B):=by
 obtain⟨v,f,i,j⟩:=h.val
 by_cases b:cu s.l s.d=0
 ·have Ha:s.apply ⟨false,⟨#[]⟩⟩=(0,⟨Chg.on ⟨false,⟨#[]⟩⟩ s.n,s.k,some ⟨false,⟨#[]⟩⟩,bx s.l s.d,false⟩):=by unfold Dk.apply;rw[if_pos b]
  rw[Ha];have Hb:=f;rw[j k] at Hb;refine (N4 B s.n s.k s.l s.d w Hb h.1 b g).mono ?_;rintro e w' ⟨rfl,ag,a⟩;exact⟨rfl,bz.waits (c:=⟨false,⟨#[]⟩⟩) f.lt (tU h.1) ag,a⟩
 ·have Ha:s.apply ⟨false,⟨#[]⟩⟩=(11,s.fall):=by unfold Dk.apply;rw[if_neg b]
  rw[Ha];refine (N5 B s.n s.k v s.l s.d w f h.1 (xF b).1 g).mono ?_;rintro e w' ⟨rfl,ag,a⟩;exact⟨rfl,h.fall a (λv2 d=>by rw[i v2 d];exact ag),a⟩
theorem Rk(B:Nat)(s:Dk)(t:ByteArray)(w:World)(h:bz w B s)(b:s.wt=none\/s.d=true)(l:t.size<=maxLen):Calls prog 97 #[B,t] w λe w'=>e=.returned (aJ ((s.write t).1:Nat))/\bz w' B (s.write t).2/\w.grownBy w' (some B):=by
 obtain⟨v,i,j,k⟩:=h.val
 by_cases f:6000<t.size
 ·have Ha:s.write t=(2,s):=if_pos f;rw[Ha];refine (N1 B t w f l).mono ?_;rintro e w' ⟨rfl,rfl⟩;exact⟨rfl,h,⟨rfl,rfl,rfl,lR,λ_ _ _=>rfl⟩⟩
 ·have Hc:s.write t=s.apply ⟨true,t⟩:=if_neg f
  by_cases a:cu s.l s.d=0
  ·have Ha:s.write t=(0,⟨Chg.on ⟨true,t⟩ s.n,s.k,some ⟨true,t⟩,bx s.l s.d,false⟩):=by rw[Hc];unfold Dk.apply;rw[if_pos a]
   rw[Ha];have He:s.wt=none:=by
    rcases b with b|b
    ·exact b
    ·unfold cu at a;rw[if_pos (.inl b)] at a;cases a
   have Hb:=i;rw[k He] at Hb;refine (N2 B s.n s.k s.l s.d t w Hb h.1 a (by omega)).mono ?_;rintro e w' ⟨rfl,ag,d⟩;exact⟨rfl,bz.waits (c:=⟨true,t⟩) i.lt (tU h.1) ag,d⟩
  ·have Ha:s.write t=(11,s.fall):=by rw[Hc];unfold Dk.apply;rw[if_neg a]
   rw[Ha];refine (N3 B s.n s.k v s.l s.d t w i h.1 (xF a).1 (by omega)).mono ?_;rintro e w' ⟨rfl,ag,d⟩;exact⟨rfl,h.fall d (λv2 g=>by rw[j v2 g];exact ag),d⟩
def Dk.act (t:ByteArray) (k:Nat) (s:Dk):Nat × Dk:=if k=0 then s.write t else if k=2 then s.apply ⟨false,⟨#[]⟩⟩ else s.sync
def Dk.run (s:Dk) (t:ByteArray):Nat->Dk
 | 0=>s
 | k+1=>(Dk.act t k (Dk.run s t k)).2
def Dk.err (s:Dk) (t:ByteArray) (k:Nat):Nat:=(Dk.act t k (s.run t k)).1
def Dk.from (s:Dk) (t:ByteArray) (k:Nat):Nat × Dk:=
 if k<4 then if s.err t k≠0 then (s.err t k,s.run t (k+1)) else Dk.from s t (k+1) else (0,s.run t k)
termination_by 4 - k
theorem Dk.from_no{s:Dk}{t:ByteArray}(a:k<4)(h:s.err t k≠0):s.from t k=(s.err t k,s.run t (k+1)):=by rw[Dk.from,if_pos a,if_pos h]
theorem Dk.from_yes{s:Dk}{t:ByteArray}(a:k<4)(h:s.err t k=0):s.from t k=s.from t (k+1):=by rw[Dk.from,if_pos a,if_neg (by simp[h])]
theorem Dk.from_end{s:Dk}{t:ByteArray}:s.from t 4=(0,s.run t 4):=by rw[Dk.from,if_neg (by decide)]
def Dk.save (s:Dk) (hs:List af):Nat × Dk:=if bw hs=0 then s.from ⟨(bn hs).toArray⟩ 0 else (bw hs,s)
theorem tV{s:Dk}{t:ByteArray}{k:Nat}(h:(Dk.act t k s).1=0):(Dk.act t k s).2=(if k=0 then ⟨Chg.on ⟨true,t⟩ s.n,s.k,some ⟨true,t⟩,bx s.l s.d,false⟩ else if k=2 then ⟨Chg.on ⟨false,⟨#[]⟩⟩ s.n,s.k,some ⟨false,⟨#[]⟩⟩,bx s.l s.d,false⟩ else ⟨s.n,s.n,none,bx s.l s.d,false⟩):=by grind[Dk.act,Dk.write,Dk.apply,Dk.sync]
theorem DD{s:Dk}{t:ByteArray}(a:s.err t 0=0):s.run t 1=⟨Chg.on ⟨true,t⟩ s.n,s.k,some ⟨true,t⟩,bx s.l s.d,false⟩:=tV (k:=0) a
theorem tW{s:Dk}{t:ByteArray}(a:s.err t 0=0)(b:s.err t 1=0):s.run t 2=⟨Chg.on ⟨true,t⟩ s.n,Chg.on ⟨true,t⟩ s.n,none,bx (bx s.l s.d) false,false⟩:=by
 refine (tV (k:=1) b).trans ?_;rw[if_neg (by decide),if_neg (by decide),DD a]
theorem DE{s:Dk}{t:ByteArray}(b:s.err t 0=0)(a:s.err t 1=0)(c:s.err t 2=0):s.run t 3=⟨⟨true,t,false,⟨#[]⟩⟩,Chg.on ⟨true,t⟩ s.n,some ⟨false,⟨#[]⟩⟩,bx (bx (bx s.l s.d) false) false,false⟩:=by
 refine (tV (k:=2) c).trans ?_;rw[if_neg (by decide),if_pos rfl,tW b a];rfl
theorem DF{s:Dk}{t:ByteArray}(b:s.err t 0=0)(a:s.err t 1=0)(c:s.err t 2=0)(d:s.err t 3=0):s.run t 4=⟨⟨true,t,false,⟨#[]⟩⟩,⟨true,t,false,⟨#[]⟩⟩,none,bx (bx (bx (bx s.l s.d) false) false) false,false⟩:=by
 refine (tV (k:=3) d).trans ?_;rw[if_neg (by decide),if_neg (by decide),DE b a c]
