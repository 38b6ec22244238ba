import Derived.Test.YtjlblidnfebmiaaGreatDoorE18
import Derived.Laws.OwnMore
set_option maxRecDepth 100000
set_option maxHeartbeats 16000000
open Go Go.RowKit Go.Shelf
attribute [local go_sem] Oper.semAt_some
open Go.Proofs.Tryz
namespace Go.Proofs.YtjlblidnfebmiaaGreatDoor
variable {B N base bc cap k l m n nc nn p q vc vn:Nat} {K:Act->World->Prop} {Q:Exit->Act->World->Prop} {V W W2 w:World} {a:Act} {c1 c11 c13 c14 c15 c16 c17 c18 c19 c2 c20 c21 c22 c23 c24 c25 c26 c27 c28 c29 c3 c30 c31 c32 c33 c34 c35 c36 c37 c38 c39 c4 c40 c41 c42 c43 c44 c45 c46 c47 c48 c49 c5 c50 c51 c52 c53 c54 c55 c56 c57 c58 c59 c6 c60 c61 c62 c63 c64 c65 c66 c67 c68 c7 c8 c91 nv u v v' v0 v1 v2 v3 v4 v5 z0 z1 z5:Value} {el:List Hp} {la:Hp} {na va:Option Addr} {nm:ByteArray} {o:Obj} {r:Option Nat} {t ty:TypeId} {xs:List Value}
theorem nT (a:(W.alloc o).grownBy W2 r):Apart (λj=>r=some j) W W2:=
 (Apart.alloc _ W o).trans ⟨a.os,a.tape,a.output,a.size,λj c b=>a.block j c λe=>b e.symm⟩
theorem mE:Value.ownBlock (.slice none 0 0)=none:=rfl
theorem OH {pr:Int} (h:gA W base v el la) (i:(W.alloc o).grownBy W2 v.ownBlock)
  (n:W2.ownsRow base 101 4 v' (el.length+1+1) (iS (el++[la])++fk ⟨nm,pr,[],[],.slice none 0 0,.slice none 0 0⟩)) (g:v'.ownBlock=v.ownBlock\/v'.ownBlock=some (W.alloc o).heap.size) :
  gA W2 base v' (el++[la]) ⟨nm,pr,[],[],.slice none 0 0,.slice none 0 0⟩:=by
 have Hc:=nT i;have He:(W.alloc o).heap.size=W.heap.size+1:=by simp
 have Ha:∀ j,j<W.heap.size->base<=j->v.ownBlock≠some j->bV base v' ⟨nm,pr,[],[],.slice none 0 0,.slice none 0 0⟩ j:=λj a l m=>by
  refine ⟨l,λe=>?_,by simp [mE],by simp [mE]⟩
  rcases g with f|f
  ·exact m (by rw [<- f];exact e)
  ·rw [f] at e;injection e with e;omega
 have Hb:∀ p,gw W base (bV base v la) p->(∀ j,p.cv.ownBlock=some j->v.ownBlock≠some j)->(∀ j,p.gv.ownBlock=some j->v.ownBlock≠some j)->
   gw W2 base (bV base v' ⟨nm,pr,[],[],.slice none 0 0,.slice none 0 0⟩) p/\(∀ j,p.cv.ownBlock=some j->bV base v' ⟨nm,pr,[],[],.slice none 0 0,.slice none 0 0⟩ j)/\(∀ j,p.gv.ownBlock=some j->bV base v' ⟨nm,pr,[],[],.slice none 0 0,.slice none 0 0⟩ j):=λp b d c=>
  ⟨b.apart Hc (λj a=>a.2.1) (λj a hf=>Ha j a hf.1 hf.2.1) d c,λj a=>Ha j (b.rc.lt j a).2 (b.rc.lt j a).1 (d j a),λj a=>Ha j (b.rg.lt j a).2 (b.rg.lt j a).1 (c j a)⟩
 refine ⟨?_,λp b=>?_,⟨Qw _ _ _ _,Qw _ _ _ _,by simp,by simp⟩,by simp [mE],by simp [mE],by simp [mE]⟩
 ·rw [CD,Q2];exact n
 ·rcases Qi.1 b with b|b
  ·obtain ⟨d,c,k⟩:=h.hel p b;exact Hb p d (λj a=>(c j a).2.1) λj a=>(k j a).2.1
  ·rw [Qm.1 b];exact Hb la h.hla h.vc h.vg
theorem OI {pr:Int} (a:W2.ownsRow base 101 4 v' 1 (fk ⟨nm,pr,[],[],.slice none 0 0,.slice none 0 0⟩)) :
  gA W2 base v' [] ⟨nm,pr,[],[],.slice none 0 0,.slice none 0 0⟩:=
 ⟨by simpa [iS] using a,by simp,⟨Qw _ _ _ _,Qw _ _ _ _,by simp,by simp⟩,by simp [mE],by simp [mE],by simp [mE]⟩
theorem CE {a:Hp} {j:Nat} (_:j<4) (hs:(fk la).set j u=fk a):(iS (el++[la])).set (el.length*4+j) u=iS (el++[a]):=by induction el <;> grind [iS,fk,CD]
theorem OJ {la:Hp} {c:aA} (r:v=.slice m (el.length+1) cap) (h:gA W base v el la) (t:jT W (bV base v la) nv c.ds) (l:(W.alloc o).grownBy W2 la.cv.ownBlock)
  (w:W2.ownsRow base 65 6 u (la.cl.length+1) (nR la.cl++jU (c,nv))) (i:u.ownBlock=la.cv.ownBlock\/u.ownBlock=some (W.alloc o).heap.size) :
  gA (W2.setCell ⟨m,el.length*4+2,none⟩ u) base v el { la with cl:=la.cl++[(c,nv)],cv:=u }:=by
 have Hi:(W.alloc o).heap.size=W.heap.size+1:=by simp
 have He:v.ownBlock=some m:=by rw [r];rfl
 have Hh:m<W:=(h.row.lt m He).2;have Hb:Apart (λj=>la.cv.ownBlock=some j\/j=m) W (W2.setCell ⟨m,el.length*4+2,none⟩ u):=((nT l).wide λ_=>.inl).trans (Apart.setCell (.inr rfl) _ _ _);have Ha:∀ j,bV base v la j->¬ (la.cv.ownBlock=some j\/j=m):=λj hf b=>by
  rcases b with b|rfl
  ·exact hf.2.2.1 b
  ·exact hf.2.1 He
 have k:∀ j,j<W.heap.size->bV base v la j->bV base v { la with cl:=la.cl++[(c,nv)],cv:=u } j:=λj a hf=>by
  have s:u.ownBlock≠some j:=λe=>by
   rcases i with d|d
   ·exact hf.2.2.1 (by rw [<- d];exact e)
   ·rw [d] at e;injection e with e;omega
  exact ⟨hf.1,hf.2.1,s,hf.2.2.2⟩
 have Hf:∀ p,gw W base (bV base v la) p->(∀ j,p.cv.ownBlock=some j->bV base v la j)->(∀ j,p.gv.ownBlock=some j->bV base v la j)->
   gw (W2.setCell ⟨m,el.length*4+2,none⟩ u) base (bV base v { la with cl:=la.cl++[(c,nv)],cv:=u }) p/\(∀ j,p.cv.ownBlock=some j->bV base v { la with cl:=la.cl++[(c,nv)],cv:=u } j)/\(∀ j,p.gv.ownBlock=some j->bV base v { la with cl:=la.cl++[(c,nv)],cv:=u } j):=λp g q n=>
  ⟨g.apart Hb Ha k (λj a=>Ha j (q j a)) λj a=>Ha j (n j a),λj a=>k j (g.rc.lt j a).2 (q j a),λj a=>k j (g.rg.lt j a).2 (n j a)⟩
 have Hg:u.ownBlock≠some m:=λe=>by
  rcases i with d|d
  ·exact h.vc m (by rw [<- d];exact e) He
  ·rw [d] at e;injection e with e;omega
 have Hc:W2.ownsRow base 101 4 v (el.length+1) (iS (el++[la])):=jV h.row (nT l) λj a b=>h.vc j b a;subst r;refine ⟨?_,λp g=>Hf p (h.hel p g).1 (h.hel p g).2.1 (h.hel p g).2.2,⟨?_,?_,?_,?_⟩,?_,?_,?_⟩
 ·rw [<- CE (la:=la) (j:=2) (by omega) (by rfl)];exact (Hc.stored _ _).1
 ·show World.ownsRow _ base 65 6 u (la.cl++[(c,nv)]).length (nR (la.cl++[(c,nv)]))
  rw [OD,Q2];exact jV w (Apart.setCell (K:=λj=>j=m) rfl W2 _ _) (λj a b=>by subst b;exact Hg a)
 ·exact jV h.hla.rg Hb (λj a b=>by
   rcases b with b|rfl
   ·exact h.cg j b a
   ·exact h.vg j a He)
 ·intro x f
  rcases Qi.1 f with f|f
  ·exact (h.hla.nc x f).apart Hb Ha k
  ·rw [Qm.1 f];exact t.apart Hb Ha k
 ·exact λx f=>⟨(h.hla.ng x f).1.apart Hb Ha k,(h.hla.ng x f).2⟩
 ·intro j a e;exact Hg (by rw [show (some m:Option Nat)=some j from e];exact a)
 ·exact λj a e=>h.vg j a e
 ·intro j a e
  rcases i with d|d
  ·exact h.cg j (by rw [<- d];exact a) e
  ·have:=(h.hla.rg.lt j e).2
   rw [d] at a;injection a with a;omega
theorem OK {la:Hp} {c:aP} (t:v=.slice m (el.length+1) cap) (h:gA W base v el la) (y:iR W (bV base v la) nv c.dv) (l:c.cp<18446744073709551616) (n:(W.alloc o).grownBy W2 la.gv.ownBlock)
  (z:W2.ownsRow base 123 2 u (la.gl.length+1) (nS la.gl++jr (c,nv))) (i:u.ownBlock=la.gv.ownBlock\/u.ownBlock=some (W.alloc o).heap.size) :
  gA (W2.setCell ⟨m,el.length*4+3,none⟩ u) base v el { la with gl:=la.gl++[(c,nv)],gv:=u }:=by
 have Hi:(W.alloc o).heap.size=W.heap.size+1:=by simp
 have He:v.ownBlock=some m:=by rw [t];rfl
 have Hh:m<W:=(h.row.lt m He).2;have Hb:Apart (λj=>la.gv.ownBlock=some j\/j=m) W (W2.setCell ⟨m,el.length*4+3,none⟩ u):=((nT n).wide λ_=>.inl).trans (Apart.setCell (.inr rfl) _ _ _);have Ha:∀ j,bV base v la j->¬ (la.gv.ownBlock=some j\/j=m):=λj hf b=>by
  rcases b with b|rfl
  ·exact hf.2.2.2 b
  ·exact hf.2.1 He
 have k:∀ j,j<W.heap.size->bV base v la j->bV base v { la with gl:=la.gl++[(c,nv)],gv:=u } j:=λj a hf=>by
  have w:u.ownBlock≠some j:=λe=>by
   rcases i with d|d
   ·exact hf.2.2.2 (by rw [<- d];exact e)
   ·rw [d] at e;injection e with e;omega
  exact ⟨hf.1,hf.2.1,hf.2.2.1,w⟩
 have Hf:∀ p,gw W base (bV base v la) p->(∀ j,p.cv.ownBlock=some j->bV base v la j)->(∀ j,p.gv.ownBlock=some j->bV base v la j)->
   gw (W2.setCell ⟨m,el.length*4+3,none⟩ u) base (bV base v { la with gl:=la.gl++[(c,nv)],gv:=u }) p/\(∀ j,p.cv.ownBlock=some j->bV base v { la with gl:=la.gl++[(c,nv)],gv:=u } j)/\(∀ j,p.gv.ownBlock=some j->bV base v { la with gl:=la.gl++[(c,nv)],gv:=u } j):=λp g s q=>
  ⟨g.apart Hb Ha k (λj a=>Ha j (s j a)) λj a=>Ha j (q j a),λj a=>k j (g.rc.lt j a).2 (s j a),λj a=>k j (g.rg.lt j a).2 (q j a)⟩
 have Hg:u.ownBlock≠some m:=λe=>by
  rcases i with d|d
  ·exact h.vg m (by rw [<- d];exact e) He
  ·rw [d] at e;injection e with e;omega
 have Hc:W2.ownsRow base 101 4 v (el.length+1) (iS (el++[la])):=jV h.row (nT n) λj a b=>h.vg j b a;subst t;refine ⟨?_,λp g=>Hf p (h.hel p g).1 (h.hel p g).2.1 (h.hel p g).2.2,⟨?_,?_,?_,?_⟩,?_,?_,?_⟩
 ·rw [<- CE (la:=la) (j:=3) (by omega) (by rfl)];exact (Hc.stored _ _).1
 ·exact jV h.hla.rc Hb (λj a b=>by
   rcases b with b|rfl
   ·exact h.cg j a b
   ·exact h.vc j a He)
 ·show World.ownsRow _ base 123 2 u (la.gl++[(c,nv)]).length (nS (la.gl++[(c,nv)]))
  rw [OE,Q2];exact jV z (Apart.setCell (K:=λj=>j=m) rfl W2 _ _) (λj a b=>by subst b;exact Hg a)
 ·exact λx f=>(h.hla.nc x f).apart Hb Ha k
 ·intro x f
  rcases Qi.1 f with f|f
  ·exact ⟨(h.hla.ng x f).1.apart Hb Ha k,(h.hla.ng x f).2⟩
  ·rw [Qm.1 f];exact ⟨y.apart Hb Ha k,l⟩
 ·exact λj a e=>h.vc j a e
 ·intro j a e;exact Hg (by rw [show (some m:Option Nat)=some j from e];exact a)
 ·intro j a e
  rcases i with d|d
  ·exact h.cg j a (by rw [<- d];exact e)
  ·have:=(h.hla.rc.lt j a).2
   have r:some j=some (W.alloc o).heap.size:=by rw [<- d];exact e.symm
   injection r with r;omega
theorem OL {fn:Func} {p q u:Tmp} {c:TypeId} (h:fn.results=#[.cell p ty,.cell q c,.tmp u]) (tmps:Array Value) (P:Program) (w:World) :
  (results fn tmps).run P w =
   ((asAddr (tmps.getD p undef)).run P w).andThen λa g=>((loadVar ty a).run P g).andThen λv f=>((asAddr (tmps.getD q undef)).run P f).andThen λb e=>((loadVar c b).run P e).andThen λx d=>.ok (.tuple #[v,x,tmps.getD u undef]) d:=by
 simp only [results,h]
 simp [Sem.run_bind,Result.andThen]
def okC (ws:List (List UInt8)):Bool:=(((gOf (aj ws 2) && gOf (aj ws 3)) && (gOf (aj ws 4) && gOf (aj ws 5))) && (bS ce (aj ws 6)).isSome && jp (aj ws 7)) && (bS bT (aj ws 8)).isSome
def iT (V:World) (B:Nat) (v0 v1 v2 v3 v4 v5:Value):World:=(((((V.setCell B v0).setCell ⟨B,1,none⟩ v1).setCell ⟨B,2,none⟩ v2).setCell ⟨B,3,none⟩ v3).setCell ⟨B,4,none⟩ v4).setCell ⟨B,5,none⟩ v5
def iU (V:World) (B:Nat) (v0 v1:Value):World:=(V.setCell B v0).setCell ⟨B,1,none⟩ v1
theorem set_other {j:Nat} (h:k≠B):(V.setCell ⟨B,j,none⟩ v).heap[k]?=V.heap[k]?:=Below.heap_setCell V ⟨B,j,none⟩ v k h
theorem wU (h:k≠B):(iT V B v0 v1 v2 v3 v4 v5).heap[k]?=V.heap[k]?:=by
 unfold iT;rw [set_other h,set_other h,set_other h,set_other h,set_other h,set_other h]
theorem wV (h:k≠B):(iU V B v0 v1).heap[k]?=V.heap[k]?:=by
 unfold iU;rw [set_other h,set_other h]
theorem ON {a v2 v3 v4 z1 z2 z3 z4:Value} (h:V.heap[B]?=some (.cells #[z0,z1,z2,z3,z4,z5] t (0,0))):(iT V B v0 a v2 v3 v4 v5).heap[B]?=some (.cells #[v0,a,v2,v3,v4,v5] t (0,0)):=
 aO (aO (aO (aO (aO (aO h 0 v0) 1 a) 2 v2) 3 v3) 4 v4) 5 v5
theorem OO (h:V.heap[B]?=some (.cells #[z0,z1] t (0,0))):(iU V B v0 v1).heap[B]?=some (.cells #[v0,v1] t (0,0)):=
 aO (aO h 0 v0) 1 v1
theorem OP (h:Below N w V) (a:N<=B):Below N w (iT V B v0 v1 v2 v3 v4 v5):=
 (((((h.setCell (p:=B) a _).setCell (p:=⟨B,1,none⟩) a _).setCell (p:=⟨B,2,none⟩) a _).setCell (p:=⟨B,3,none⟩) a _).setCell (p:=⟨B,4,none⟩) a _).setCell (p:=⟨B,5,none⟩) a _
theorem OQ:Apart (λj=>j=B) V (iT V B v0 v1 v2 v3 v4 v5):=
 (((((Apart.setCell (K:=λj=>j=B) rfl V 0 v0).trans (Apart.setCell (K:=λj=>j=B) rfl _ 1 v1)).trans (Apart.setCell (K:=λj=>j=B) rfl _ 2 v2)).trans (Apart.setCell (K:=λj=>j=B) rfl _ 3 v3)).trans (Apart.setCell (K:=λj=>j=B) rfl _ 4 v4)).trans (Apart.setCell (K:=λj=>j=B) rfl _ 5 v5)
theorem OR {H:Nat}:Apart (λj=>j=H\/j=H+1) V (iU V (H+1) v0 v1):=
 (Apart.setCell (K:=λj=>j=H\/j=H+1) (.inr rfl) V 0 v0).trans (Apart.setCell (K:=λj=>j=H\/j=H+1) (.inr rfl) _ 1 v1)
theorem OS (h:Below N w V) (a:N<=B):Below N w (iU V B v0 v1):=(h.setCell (p:=B) a _).setCell (p:=⟨B,1,none⟩) a _
theorem OT {n2 d f e:Int} {z1 z2 z3 z4:Value} {pos:String} {after:Array Edge} {guard:Option (Nat × Bool)} 
  (b:W.heap[B]?=some (.cells #[z0,z1,z2,z3,z4,z5] 65 (0,0))) (j:a.tmps[p]?.getD undef=.pointer (some ⟨B,0,none⟩)) (l:a.tmps[q]?.getD undef=.agg #[nm,n2,d,f,e,.slice na nn nc])
  (c:K a (iT W B nm n2 d f e (.slice na nn nc))) :
  Oper.wp prog { dst:=none,op:=Op.store 65 (Operand.tmp p) (Operand.tmp q),type:=ty,pos:=pos,after:=after,guard:=guard } a W K Q:=by
 unfold iT at c;have g:=qI c;clear c;have c0:W.cell? B=some z0:=by simp [World.cell?,b]
 have c1:W.cell? ⟨B,1,none⟩=some z1:=by simp [World.cell?,b]
 have c2:W.cell? ⟨B,2,none⟩=some z2:=by simp [World.cell?,b]
 have c3:W.cell? ⟨B,3,none⟩=some z3:=by simp [World.cell?,b]
 have k:W.cell? ⟨B,4,none⟩=some z4:=by simp [World.cell?,b]
 have i:W.cell? ⟨B,5,none⟩=some z5:=by simp [World.cell?,b]
 have f0:W.frozen? B=false:=by simp [World.frozen?,b]
 have f1:W.frozen? ⟨B,1,none⟩=false:=by simp [World.frozen?,b]
 have f2:W.frozen? ⟨B,2,none⟩=false:=by simp [World.frozen?,b]
 have f3:W.frozen? ⟨B,3,none⟩=false:=by simp [World.frozen?,b]
 have m:W.frozen? ⟨B,4,none⟩=false:=by simp [World.frozen?,b]
 have h:W.frozen? ⟨B,5,none⟩=false:=by simp [World.frozen?,b]
 clear b;go_simp;exact g.o
theorem OU {cp:Nat} {pos:String} {after:Array Edge} {guard:Option (Nat × Bool)} 
  (b:W.heap[B]?=some (.cells #[z0,z1] 123 (0,0))) (f:a.tmps[p]?.getD undef=.pointer (some ⟨B,0,none⟩)) (e:a.tmps[q]?.getD undef=.agg #[.int .u64 cp,.slice na nn nc])
  (c:K a (iU W B (.int .u64 cp) (.slice na nn nc))) :
  Oper.wp prog { dst:=none,op:=Op.store 123 (Operand.tmp p) (Operand.tmp q),type:=ty,pos:=pos,after:=after,guard:=guard } a W K Q:=by
 unfold iU at c;have d:=qI c;clear c;have c0:W.cell? B=some z0:=by simp [World.cell?,b]
 have c1:W.cell? ⟨B,1,none⟩=some z1:=by simp [World.cell?,b]
 have f0:W.frozen? B=false:=by simp [World.frozen?,b]
 have f1:W.frozen? ⟨B,1,none⟩=false:=by simp [World.frozen?,b]
 clear b;go_simp;exact d.o
def wW (w:World) (ws:List (List UInt8)) (e:Ending) (w':World):Prop:=
 ∃ nv dv,e=.returned (.tuple #[.agg #[.string ⟨(aj ws 1).toArray⟩,(nOf (aj ws 2):Int),(nOf (aj ws 3):Int),(nOf (aj ws 4):Int),(nOf (aj ws 5):Int),nv],.agg #[.int .u64 (gu (aj ws 7):Nat),dv],.bool (okC ws)])/\
  (∀ ds,bS ce (aj ws 6)=some ds->bO w' nv ds)/\(∀ xs,bS bT (aj ws 8)=some xs->bA w' dv xs)/\(∃ a n c,nv=.slice a n c/\∀ x,a=some x->w.heap.size<=x.block)/\(∃ a n c,dv=.slice a n c/\∀ x,a=some x->w.heap.size<=x.block)/\Below w w w'
theorem aa {cs:Array Value} (h:W.heap[B]?=some (.cells cs t (0,0))) (j:Nat):W.cell? ⟨B,j,none⟩=cs[j]?:=by simp [World.cell?,h]
abbrev jW:=(.cells #[.string ⟨#[]⟩,(0:Int),(0:Int),(0:Int),(0:Int),.slice none 0 0] 65:Obj)
abbrev nU:=λ(x0:Array UInt8) (x1 x2 x3 x4:Int) (x5:Option Addr) (x6 x7:Nat)=>(.cells #[.string ⟨x0⟩,x1,x2,x3,x4,.slice x5 x6 x7] 65 (0,0):Obj)
abbrev qL:=λ(x0:Array UInt8) (x1 x2 x3 x4:Int) (x5:Option Addr) (x6 x7:Nat)=>(.cells #[.string ⟨x0⟩,x1,x2,x3,x4,.slice x5 x6 x7] 65:Obj)
abbrev o9:=λ(x0:Int) (x1:Option Addr) (x2 x3:Nat)=>(.cells #[.int .u64 x0,.slice x1 x2 x3] 123 (0,0):Obj)
abbrev CF:=(.cells #[.string ⟨#[]⟩,(0:Int),(0:Int),(0:Int),(0:Int),.slice none 0 0] 65 (0,0):Obj)
abbrev wX:=(.cells #[.int .u64 0,.slice none 0 0] 123 (0,0):Obj)
theorem CG (b wc:Nat) (ws:List (List UInt8)) (w:World) (h:o7 w b ws) (hl:ws.length=9) (hs:∀ x∈ws,x.length<=10000) (hm:cO w) :
  Calls prog 193 #[.slice b 9 wc] w (wW w ws):=by
 have Ha:∀ k,k<9->(aj ws k).length<=10000:=λk hk=>hs _ (Cx (by omega))
 have hA:=((Q0 w w).alloc (lR) (jW)).alloc (by simp) (.cells #[.int .u64 0,.slice none 0 0] 123);have HA:=qI hA;have B:=qI (h.below hA);have HM:=qI hm;have R1:=qI λW=>Ck ⟨(aj ws 2).toArray⟩ ⟨(aj ws 3).toArray⟩ W (by unfold maxLen;have:=Ha 2 (by omega);show (aj ws 2).length<=_;omega) (by unfold maxLen;have:=Ha 3 (by omega);show (aj ws 3).length<=_;omega);have R:=qI λW=>Ck ⟨(aj ws 4).toArray⟩ ⟨(aj ws 5).toArray⟩ W (by unfold maxLen;have:=Ha 4 (by omega);show (aj ws 4).length<=_;omega) (by unfold maxLen;have:=Ha 5 (by omega);show (aj ws 5).length<=_;omega);have R3:=qI λW (hb:Below w w W)=>Oz ⟨(aj ws 6).toArray⟩ W (by have:=Ha 6 (by omega);show (aj ws 6).length<=_;omega) (HM.o.below hb);have Y:=qI λW (hb:Below w w W)=>NS ⟨(aj ws 7).toArray⟩ W (by unfold maxLen;have:=Ha 7 (by omega);show (aj ws 7).length<=_;omega) (HM.o.below hb);have X:=qI λW=>Ok ⟨(aj ws 8).toArray⟩ W (by have:=Ha 8 (by omega);show (aj ws 8).length<=_;omega);have hH:((w.alloc (jW)).alloc (.cells #[.int .u64 0,.slice none 0 0] 123)).heap.size=w.heap.size+1+1:=by simp
 have HZ:=qI (show ((w.alloc (jW)).alloc (.cells #[.int .u64 0,.slice none 0 0] 123)).heap[w.heap.size]?=some (CF) from (Below.heap_alloc _ _ _ (by simp)).trans (heap_alloc_new w _));have hh:=qI (show ((w.alloc (jW)).alloc (.cells #[.int .u64 0,.slice none 0 0] 123)).heap[w.heap.size+1]?=some (wX) from by have:=heap_alloc_new (w.alloc (jW)) (.cells #[.int .u64 0,.slice none 0 0] 123);rwa [World.size_alloc] at this);have hu:Hu (okC ws=((((gOf (aj ws 2) && gOf (aj ws 3)) && (gOf (aj ws 4) && gOf (aj ws 5))) && (bS ce (aj ws 6)).isSome && jp (aj ws 7)) && (bS bT (aj ws 8)).isSome)):=rfl;dsimp only at R1 R R3 Y X;clear hA h hs hm Ha
 go_enter func193,ntmps193
 go_wp2_with fail
 generalize ((w.alloc (jW)).alloc (.cells #[.int .u64 0,.slice none 0 0] 123))=U at *;refine CA (OA (P:=fun|2=>.pointer (some ⟨w,0,none⟩)|3=>.pointer (some ⟨w.heap.size+1,0,none⟩)|_=>.bool false) U B.o.1 (B.o.2 2 (by omega)) (B.o.2 3 (by omega)) R1) ?_;rintro _ W1 ⟨F,rfl,B1,H2,hi,J,hJ,Hq⟩;have HP:=qI J;have HK:=qI Hq;have Hw:=qI (B.o.below J);have HT:=qI J.size;clear J Hq;dsimp only;rw [H2,hi];clear H2 hi
 go_wp2_with fail
 refine CA (OB (P:=fun|2=>.pointer (some ⟨w,0,none⟩)|3=>.pointer (some ⟨w.heap.size+1,0,none⟩)|4=>.bool false|5=>.pointer (some ⟨B1,0,none⟩)|6=>.bool (gOf (aj ws 2) && gOf (aj ws 3))|n=>F n) W1 Hw.o.1 (Hw.o.2 4 (by omega)) (Hw.o.2 5 (by omega)) R) ?_;rintro _ W2 ⟨G,rfl,B2,H4,hn,D,hI,Hn⟩;have Hf:=qI (HP.o.trans (D.mono HP.o.size));have Hl:=qI ((D.block B1 (gS HK.o).1).trans HK.o);have HU:=qI Hn;have u:=qI (Hw.o.below D);clear D Hn HK HP Hw;dsimp only;rw [H4,hn];clear H4 hn;have Hb:=qI (HA.o.trans (Hf.o.mono HA.o.size));have w6:=u.o.2 6 (by omega)
 go_wp2_with fail
 refine (R3.o _ Hb.o).mono ?_;rintro e M ⟨nv,rfl,H0,⟨f,c,nc,rfl,ha⟩,E⟩;have H7:=qI ha;clear ha;have hD:=qI H0;have I:=qI E;have Hx:=qI (Hb.o.trans (E.mono Hb.o.size));have w7:=(u.o.below E).2 7 (by omega);clear H0 E w6
 go_wp2_with fail
 refine (Y.o _ Hx.o).mono ?_;rintro e W4 ⟨rfl,HQ⟩;have Hv:=qI (I.o.trans (HQ.mono I.o.size));have Hj:=qI HQ;have w8:=(u.o.below Hv.o).2 8 (by omega);clear HQ w7
 go_wp2_with fail
 refine (X.o _).mono ?_;rintro e d ⟨hL,rfl,hc,⟨m,p,o,rfl,H6⟩,HJ⟩;have hg:=qI H6;clear H6;have hr:=qI hc;have Hi:=qI (Hv.o.trans (HJ.mono Hv.o.size));have He:=qI (Hj.o.trans (HJ.mono Hj.o.size));have hG:=qI (show w+1<W2.heap.size from Q1 (by omega) Hf.o.size);have ht:=qI (show W2<=W4.heap.size from Hv.o.size);have hw:=qI (show w+1<M.heap.size from Q1 (Q1 (by omega) Hf.o.size) I.o.size);have Hc:=qI (Hb.o.trans (Hi.o.mono Hb.o.size));have w1:=(u.o.below Hi.o).2 1 (by omega);have Hq:=(Hi.o.block B1 (gS Hl.o).1).trans Hl.o;have Hn:=(Hi.o.block B2 (gS HU.o).1).trans HU.o;have a0:=aa Hq 0;have a1:=aa Hq 1;have a2:=aa Hn 0;have a3:=aa Hn 1;have HN:=qI (((Hf.o.trans (Hi.o.mono Hf.o.size)).block w (by omega)).trans HZ.o);have H:=qI (((Hf.o.trans (Hi.o.mono Hf.o.size)).block (w.heap.size+1) (by omega)).trans hh.o);clear hc HJ w8 Hq Hn Hf Hv Hj Hi u B HM HZ hh Hl HU HA Hb Hx R1 R R3 Y X;have hB:Hu (∃ y,y=aj ws 1):=⟨_,rfl⟩;generalize hp1:(gOf (aj ws 2) && gOf (aj ws 3))=s at *;generalize hp2:(gOf (aj ws 4) && gOf (aj ws 5))=C at *;generalize hp3:(bS ce (aj ws 6)).isSome=O at *;generalize hp4:jp (aj ws 7)=p4 at *;generalize hp5:(bS bT (aj ws 8)).isSome=p5 at *;generalize Ht:aj ws 1=q at *;generalize H9:nOf (aj ws 2)=n2 at *;generalize H8:nOf (aj ws 3)=l at *;generalize H3:nOf (aj ws 4)=g at *;generalize HV:nOf (aj ws 5)=i at *;generalize H1:gu (aj ws 7)=cp at *;have hy:=qI (And.intro Ht (And.intro H9 (And.intro H8 (And.intro H3 (And.intro HV H1)))));clear hB Ht H9 H8 H3 HV H1 hp1 hp2 hp3 hp4 hp5;simp only [List.getElem?_toArray,List.getElem?_cons_zero,List.getElem?_cons_succ] at a0 a1 a2 a3;have z1:=de w1 (jW);have z2:=de a0 (jW);have z3:=de a1 (jW);have z4:=de a2 (jW);have z5:=de a3 (jW)
 go_wp2_with fail
 go_region
 have HX:=qI (And.intro Hc (And.intro He (And.intro HN H)));clear z1 z2 z3 z4 z5 w1 a0 a1 a2 a3
 go_wp2_with fail
 have Ho:Below d d ((d.alloc (qL q.toArray n2 l g i f c nc)).alloc (.cells #[.int .u64 cp,.slice m p o] 123)).drew:=jq (((Q0 _ _).alloc (lR) _).alloc (by simp) _);have H5:((d.alloc (qL q.toArray n2 l g i f c nc)).alloc (.cells #[.int .u64 cp,.slice m p o] 123)).drew.heap[d.heap.size]?=some (nU q.toArray n2 l g i f c nc):=(Below.heap_alloc _ _ _ (by simp)).trans (heap_alloc_new d _);have Ht:((d.alloc (qL q.toArray n2 l g i f c nc)).alloc (.cells #[.int .u64 cp,.slice m p o] 123)).drew.heap[d.heap.size+1]?=some (o9 cp m p o):=by have:=heap_alloc_new (d.alloc (qL q.toArray n2 l g i f c nc)) (.cells #[.int .u64 cp,.slice m p o] 123);rwa [World.size_alloc] at this
 have hf:=qI (And.intro H5 Ht);have Hy:=qI (Hc.o.trans (Ho.mono Hc.o.size));have HB:=qI (He.o.trans (Ho.mono He.o.size));have Hz:=qI Ho;have h5:w+1<d.heap.size:=(gS H.o).1;have Hs:=qI ((Ho.block w (by omega)).trans HN.o);have Hp:=qI ((Ho.block (w.heap.size+1) h5).trans H.o);clear H5 Ht Ho HX HN H Hc He;generalize ((d.alloc (qL q.toArray n2 l g i f c nc)).alloc (.cells #[.int .u64 cp,.slice m p o] 123)).drew=r at *;have HS:=qI (show r.drew.heap[d.heap.size]?=some (nU q.toArray n2 l g i f c nc)/\r.drew.heap[d.heap.size+1]?=some (o9 cp m p o) from hf.o);have he:=qI (show r.drew.heap[w.heap.size]?=some (CF) from Hs.o);have hC:=qI (show r.drew.heap[w.heap.size+1]?=some (wX) from Hp.o);have ho:=qI (show Below w w r.drew from jq Hy.o);have hE:=qI (show Below M M r.drew from jq HB.o);have hF:=qI (show Below d d r.drew from jq Hz.o);have h3:w+1<M.heap.size:=by have:=hw.o;omega
 clear hf Hs Hp Hy HB Hz;clear HT I;have Hp:Hu ((iT r.drew w (.string ⟨q.toArray⟩) (n2:Int) (l:Int) (g:Int) (i:Int) (.slice f c nc)).heap[w.heap.size+1]?=some (wX)):=(wU (by omega)).trans hC.o;have Hs:Hu ((iT r.drew w (.string ⟨q.toArray⟩) (n2:Int) (l:Int) (g:Int) (i:Int) (.slice f c nc)).heap[w.heap.size]?=some (nU q.toArray n2 l g i f c nc)):=ON he.o;have Hm:Hu (Below w w (iT r.drew w (.string ⟨q.toArray⟩) (n2:Int) (l:Int) (g:Int) (i:Int) (.slice f c nc))):=OP ho.o (lR);have Hk:Hu (Apart (λj=>j=w.heap.size) r.drew (iT r.drew w (.string ⟨q.toArray⟩) (n2:Int) (l:Int) (g:Int) (i:Int) (.slice f c nc))):=OQ;have L:Hu ((λw'=>w'.heap[d.heap.size]?=some (nU q.toArray n2 l g i f c nc)/\w'.heap[d.heap.size+1]?=some (o9 cp m p o)) (iT r.drew w (.string ⟨q.toArray⟩) (n2:Int) (l:Int) (g:Int) (i:Int) (.slice f c nc))):=⟨(wU (by omega)).trans HS.o.1,(wU (by omega)).trans HS.o.2⟩;obtain ⟨t,Q⟩:∃ P,P=(iT r.drew w (.string ⟨q.toArray⟩) (n2:Int) (l:Int) (g:Int) (i:Int) (.slice f c nc)):=⟨_,rfl⟩;rw [<- Q] at Hp Hs Hm Hk L;have HL:Hu ((iU t (w.heap.size+1) (.int .u64 cp) (.slice m p o)).heap[w.heap.size+1]?=some (o9 cp m p o)):=OO Hp.o;have Hh:Hu ((iU t (w.heap.size+1) (.int .u64 cp) (.slice m p o)).heap[w.heap.size]?=some (nU q.toArray n2 l g i f c nc)):=(wV (by omega)).trans Hs.o;have Hr:Hu (Below w w (iU t (w.heap.size+1) (.int .u64 cp) (.slice m p o))):=OS Hm.o (Nat.le_succ _);have Hg:Hu (Apart (λj=>j=w.heap.size\/j=w.heap.size+1) r.drew (iU t (w.heap.size+1) (.int .u64 cp) (.slice m p o))):=(Hk.o.wide λ_=>.inl).trans OR;have HY:Hu ((λw'=>w'.heap[d.heap.size]?=some (nU q.toArray n2 l g i f c nc)/\w'.heap[d.heap.size+1]?=some (o9 cp m p o)) (iU t (w.heap.size+1) (.int .u64 cp) (.slice m p o))):=⟨(wV (by omega)).trans L.o.1,(wV (by omega)).trans L.o.2⟩;obtain ⟨P8,HO⟩:∃ P,P=(iU t (w.heap.size+1) (.int .u64 cp) (.slice m p o)):=⟨_,rfl⟩;rw [<- HO] at HL Hh Hr Hg HY;have hz:=qI Q;have hq:=qI HO;clear Q HO Hm Hk;have hp:s=false\/(s=true/\C=false)\/(s=true/\C=true/\O=false)\/(s=true/\C=true/\O=true/\p4=false)\/(s=true/\C=true/\O=true/\p4=true):=by cases s <;> cases C <;> cases O <;> cases p4 <;> simp
 rcases hp with rfl|⟨rfl,rfl⟩|⟨rfl,rfl,rfl⟩|⟨rfl,rfl,rfl,rfl⟩|⟨rfl,rfl,rfl,rfl⟩
 all_goals
  refine wp_region_held_drew (S:=(λw'=>w'.heap[d.heap.size]?=some (nU q.toArray n2 l g i f c nc)/\w'.heap[d.heap.size+1]?=some (o9 cp m p o))) (by kernel_rfl) HS.o λhHeld=>?_;refine tq 0 (v:=.agg #[.string ⟨q.toArray⟩,(n2:Int),(l:Int),(g:Int),(i:Int),.slice f c nc]) (λw' a=>?_) ?_
  ·(try dsimp only at a);have T:=aa a.1 0;have z:=aa a.1 1;have q2:=aa a.1 2;have q3:=aa a.1 3;have q4:=aa a.1 4;have Z:=aa a.1 5;simp only [List.getElem?_toArray,List.getElem?_cons_zero,List.getElem?_cons_succ] at T z q2 q3 q4 Z;go_simp;try rfl
  (try simp only [Act.put,s1,s2,s3]);refine tq 1 (v:=.agg #[.int .u64 cp,.slice m p o]) (λw' a=>?_) ?_
  ·(try dsimp only at a);have T:=aa a.2 0;have z:=aa a.2 1;simp only [List.getElem?_toArray,List.getElem?_cons_zero,List.getElem?_cons_succ] at T z;go_simp;try rfl
  (try simp only [Act.put,s1,s2,s3]);refine tk 2 ?_;refine tk 3 ?_
  first|refine tk 4 ?_|refine ts 4 ?_
  refine tk 5 ?_;refine tk 6 ?_
  first|refine tk 7 ?_|refine ts 7 ?_
  refine tk 8 ?_;refine tk 9 ?_
  first|refine tk 10 ?_|refine ts 10 ?_
  refine tk 11 ?_;refine tk 12 ?_
  first|refine tk 13 ?_|refine ts 13 ?_
  refine tk 14 ?_;refine rd 15 λK A=>?_;rw [if_pos (by rfl)];refine OT he.o rfl rfl ?_;rw [<- hz.o];refine A.o _ _ L.o λhHeld=>?_;clear A K;refine rd 16 λK A=>?_;rw [if_pos (by rfl)];refine OU Hp.o rfl rfl ?_;rw [<- hq.o];refine A.o _ _ HY.o λhHeld=>?_;clear A K;refine tk 17 ?_;refine Qn (by kernel_rfl) ?_ _;have e0:=aa Hh.o 0;have e1:=aa Hh.o 1;have e2:=aa Hh.o 2;have e3:=aa Hh.o 3;have e4:=aa Hh.o 4;have e5:=aa Hh.o 5;have e6:=aa HL.o 0;have e7:=aa HL.o 1;simp only [List.getElem?_toArray,List.getElem?_cons_zero,List.getElem?_cons_succ] at e0 e1 e2 e3 e4 e5 e6 e7;clear hHeld
  go_wp2_with fail
  (try simp only [Exit.inBlock,Exit.then]);have h2:=hG.o;have h4:=ht.o;have hv:=hu.o
  simp at hv
  obtain ⟨z,q2,q3,q4,Z,q6⟩:=hy.o;refine bodyPost_ret (v:=.tuple #[.agg #[.string ⟨q.toArray⟩,(n2:Int),(l:Int),(g:Int),(i:Int),.slice f c nc],.agg #[.int .u64 cp,.slice m p o],.bool (okC ws)]) ?_ rfl ⟨.slice f c nc,.slice m p o,?_,λds hd=>?_,λxs hd=>?_,⟨_,_,_,rfl,λx V=>Q5 (by omega) (H7.o x V)⟩,⟨_,_,_,rfl,λx V=>Q5 (by omega) (hg.o x V)⟩,Hr.o⟩
  ·rw [OL rfl,hv];go_simp
  ·rw [z,q2,q3,q4,Z,q6]
  ·exact Ov (N:=W2.heap.size) ((hD.o ds hd).below hE.o) ⟨_,_,_,rfl,H7.o⟩ Hg.o (λj hj=>by omega)
  ·exact ((hr.o xs hd).below hF.o).apart (N:=W4.heap.size) ⟨_,_,_,rfl,hg.o⟩ Hg.o (λj hj=>by omega)
def jX:Code->List Code
 | .seq a b=>jX a++jX b
 | .cond _ a b=>jX a++jX b
 | .block _ c=>jX c
 | .scope c=>jX c
 | .loop c=>jX c
 | .rangeFunc _ _ a b=>jX a++jX b
 | .region i o d=>[.region i o d]
 | _=>[]
def CH (n:Nat) (l:List Code):Code:=(l.find? λc=>match c with|.region i _ _=>i == n|_=>false).getD .skip
theorem CI {a:Array Oper} (h:(a.toList.all λo=>match o.op with|.defer _=>false|_=>true)=true):∀ (i:Nat) (o:Oper) c,a[i]?=some o->o.op≠Op.defer c:=by grind
theorem CJ {A B:World} (h:A.drew.grownBy B r):A.grownBy B r:=⟨h.os,h.tape,h.output,h.size,h.block⟩
theorem CK:(prog.info? 65).map (λi=>(i.zero,i.size,i.bytes))=some (some (.agg #[ByteArray.empty,(0:Int),(0:Int),(0:Int),(0:Int),.slice none 0 0]),6,72):=by kernel_rfl
theorem CM:(prog.info? 123).map (λi=>(i.zero,i.size,i.bytes))=some (some (.agg #[.int .u64 0,.slice none 0 0]),2,32):=by kernel_rfl
theorem OV (w:World) (c:aA) (dv:Value) (t:TypeId):∀ j u,(jU (c,dv))[j]?=some u->(w.alloc (.cells #[c.nm,(c.am:Int),(c.ab:Int),(c.cm:Int),(c.cb:Int),dv] t)).drew.cell? ((w.heap.size:Addr).add j)=some u:=by simp_all [Addr.add_lit,jU,dF]
theorem OW (w:World) (c:aP) (dv:Value) (t:TypeId):∀ j u,(jr (c,dv))[j]?=some u->(w.alloc (.cells #[.int .u64 c.cp,dv] t)).drew.cell? ((w.heap.size:Addr).add j)=some u:=by simp_all [Addr.add_lit,jr]
theorem OX (c:aA) (a:Option Addr) (n k:Nat):∀ u∈jU (c,.slice a n k),u.oneCell'=true:=by
 intro u b
 simp [jU,dF] at b
 rcases b with rfl|rfl|rfl|rfl|rfl|rfl <;> rfl
theorem OY (c:aP) (a:Option Addr) (n k:Nat):∀ u∈jr (c,.slice a n k),u.oneCell'=true:=by
 intro u b
 simp [jr] at b
 rcases b with rfl|rfl <;> rfl
noncomputable def CN:Code:=CH 16 ((Tryz.f157.body.map jX).getD [])
abbrev qM:=λ(x0:aA) (x1:Option Addr) (x2 x3:Nat)=>(.cells #[.string x0.nm,.int .i64 x0.am,.int .i64 x0.ab,.int .i64 x0.cm,.int .i64 x0.cb,.slice x1 x2 x3] 65:Obj)
theorem OZ {c0 c10 w x t u p q r v y s G z J M H A L I B C D E:Value} {k:Nat} {c:aA} (W:World) (N:W.cell? ⟨m,k+2,none⟩=some (Value.slice va vn vc)) (hf:W.frozen? ⟨m,k+2,none⟩=false) (e0:W.cell? bc=some (.string c.nm)) (e1:W.cell? ⟨bc,1,none⟩=some (.int .i64 c.am)) (Z:W.cell? ⟨bc,2,none⟩=some (.int .i64 c.ab)) (X:W.cell? ⟨bc,3,none⟩=some (.int .i64 c.cm)) (V:W.cell? ⟨bc,4,none⟩=some (.int .i64 c.cb)) (T:W.cell? ⟨bc,5,none⟩=some (.slice na nn nc))
  (h:W.ownsRow base 65 6 (Value.slice va vn vc) vn xs) (P:base<=W) (o:vn<=100000) (Q:m<W) (j:(Value.slice va vn vc).ownBlock≠some m) :
  CN.wpIn (Fence.wide.inRound l) n prog (mx (FrV (λF=>{ tmps:=List.toArray (c0 :: c1 :: c2 :: c3 :: c4 :: c5 :: c6 :: c7 :: c8 :: .pointer (some ⟨bc,0,none⟩) :: c10 :: c11 :: .pointer (some ⟨m,k,none⟩) :: c13 :: c14 :: c15 :: c16 :: c17 :: c18 :: c19 :: c20 :: c21 :: c22 :: c23 :: c24 :: c25 :: c26 :: c27 :: c28 :: c29 :: c30 :: c31 :: c32 :: c33 :: c34 :: c35 :: c36 :: c37 :: c38 :: c39 :: c40 :: c41 :: c42 :: c43 :: c44 :: c45 :: c46 :: c47 :: c48 :: c49 :: c50 :: c51 :: c52 :: c53 :: c54 :: c55 :: c56 :: c57 :: c58 :: c59 :: c60 :: c61 :: c62 :: c63 :: c64 :: c65 :: c66 :: c67 :: c68 :: F 69 :: F 70 :: F 71 :: F 72 :: F 73 :: F 74 :: F 75 :: F 76 :: F 77 :: F 78 :: F 79 :: F 80 :: w :: x :: t :: u :: p :: q :: r :: v :: y :: s :: c91 :: []),defers:=[] }) λ_ W'=>∃ g f i,W'=i.setCell ⟨m,k+2,none⟩ (Value.slice (some ⟨g,0,none⟩) (vn+1) f)/\i.ownsRow base 65 6 (Value.slice (some ⟨g,0,none⟩) (vn+1) f) (vn+1) (xs++jU (c,.slice na nn nc))/\(W.alloc (qM c na nn nc)).grownBy i (Value.slice va vn vc).ownBlock/\((Value.slice va vn vc).ownBlock=some g\/g=(W.alloc (qM c na nn nc)).heap.size)))
   { tmps:=List.toArray (c0 :: c1 :: c2 :: c3 :: c4 :: c5 :: c6 :: c7 :: c8 :: .pointer (some ⟨bc,0,none⟩) :: c10 :: c11 :: .pointer (some ⟨m,k,none⟩) :: c13 :: c14 :: c15 :: c16 :: c17 :: c18 :: c19 :: c20 :: c21 :: c22 :: c23 :: c24 :: c25 :: c26 :: c27 :: c28 :: c29 :: c30 :: c31 :: c32 :: c33 :: c34 :: c35 :: c36 :: c37 :: c38 :: c39 :: c40 :: c41 :: c42 :: c43 :: c44 :: c45 :: c46 :: c47 :: c48 :: c49 :: c50 :: c51 :: c52 :: c53 :: c54 :: c55 :: c56 :: c57 :: c58 :: c59 :: c60 :: c61 :: c62 :: c63 :: c64 :: c65 :: c66 :: c67 :: c68 :: G :: z :: J :: M :: H :: A :: L :: I :: B :: C :: D :: E :: w :: x :: t :: u :: p :: q :: r :: v :: y :: s :: c91 :: []),defers:=[] } W:=by
 obtain ⟨i0,hi,Hi,Hj,Hn⟩:=info_parts CK;have Hf:=qI h;have Ho:=qI j;have R:=qI P;have Hh:=qI o;have O:=qI Q;clear h j P o Q
 conv=>enter [4];unfold CN;whnf
 refine A5 (S:=λ_=>True) (by kernel_rfl) (CI (by kernel_rfl)) (A4 _) ?_;have d:(λ_:World=>True) W:=trivial;refine tk 0 ?_;refine tk 1 ?_;refine tk 2 ?_;refine tk 3 ?_;refine tk 4 ?_;refine rd2 5 6 (λK b=>?_) λK b=>?_
 focus
  go_simp
  go_wp2_with fail
  refine b.o _ _ trivial λd=>?_;clear b K;refine rd 6 λK b=>?_;go_simp
  go_wp2_with fail
  refine b.o _ _ trivial λd=>?_;clear b K;refine rd 7 λK b=>?_;go_simp
  go_wp2_with fail
  refine b.o _ _ trivial λd=>?_;clear b K
 rotate_left
 focus
  go_simp
  go_wp2_with fail
  refine b.o _ _ trivial λd=>?_;clear b K;refine rd2 5 7 (λK b=>?_) λK b=>?_
 focus
  go_simp
  go_wp2_with fail
  refine b.o _ _ trivial λd=>?_;clear b K;refine rd 7 λK b=>?_;go_simp
  go_wp2_with fail
  refine b.o _ _ trivial λd=>?_;clear b K
 rotate_left
 focus
  go_simp
  go_wp2_with fail
  refine b.o _ _ trivial λd=>?_;clear b K;have Hp:=de N (qM c na nn nc);refine rd 5 λK b=>?_;go_simp
  go_wp2_with fail
  refine b.o _ _ trivial λd=>?_;clear b K
 all_goals
  refine rd 8 λK b=>?_;rw [if_pos (by rfl)];refine wp_append_lies _ _ _ 47 rfl base 65 i0 _ 6 72 underlying47 hi Hi Hj Hn rfl (by decide) (Value.slice va vn vc) vn xs rfl (Hf.o.alloc (qM c na nn nc)).drew W 1 1 (jU (c,.slice na nn nc)) rfl rfl (OV W c _ _) (OX c na nn nc) (by decide) (by have:=Hh.o;unfold maxLen;omega) (by have:=Hh.o;omega) (by have:=R.o;simp;omega) (W.alloc (qM c na nn nc)).heap.size rfl ?_;intro g f i Hb Hc Hg Hk;have Hc:=CJ Hc;have Ha:i.heap[m]?=W.heap[m]?:=(Hc.block m (Q1 O.o (by simp)) λe=>Ho.o e.symm).trans (Below.heap_alloc _ _ _ O.o);have U:cl i m (k+2) (Value.slice va vn vc):=(World.cell?_of_block (a:=⟨m,k+2,none⟩) Ha).trans N;have Y:i.frozen? ⟨m,k+2,none⟩=false:=(World.frozen?_of_block (a:=⟨m,k+2,none⟩) Ha).trans hf;have He:=qI Hb;have Hl:=qI Hc;have Hm:=qI Hg;clear Hb Hc Hg Ha Hk;refine b.o _ _ trivial λd=>?_;clear b K;refine tk 9 ?_;refine tk 10 ?_;refine tk 11 ?_;refine rd 12 λK b=>?_;go_simp
  go_wp2_with fail
  refine b.o _ _ trivial λd=>?_;clear b K;refine Qn (by kernel_rfl) ?_ _;refine mx.mk (FrV.mk (by kernel_rfl) ?_);exact ⟨g,f,i,rfl,He.o,Hl.o,Hm.o⟩
noncomputable def CO:Code:=CH 17 ((Tryz.f157.body.map jX).getD [])
abbrev qN:=λ(x0:aP) (x1:Option Addr) (x2 x3:Nat)=>(.cells #[.int .u64 x0.cp,.slice x1 x2 x3] 123:Obj)
theorem O0 {c0 Q q x o A z t y v u s j w J D C I H E G M B L:Value} {k:Nat} {c:aP} (W:World) (N:W.cell? ⟨m,k+3,none⟩=some (Value.slice va vn vc)) (hf:W.frozen? ⟨m,k+3,none⟩=false) (X:W.cell? bc=some (.int .u64 c.cp)) (Y:W.cell? ⟨bc,1,none⟩=some (.slice na nn nc))
  (h:W.ownsRow base 123 2 (Value.slice va vn vc) vn xs) (P:base<=W) (r:vn<=100000) (R:m<W) (p:(Value.slice va vn vc).ownBlock≠some m) :
  CO.wpIn (Fence.wide.inRound l) n prog (mx (FrV (λF=>{ tmps:=List.toArray (c0 :: c1 :: c2 :: c3 :: c4 :: c5 :: c6 :: c7 :: c8 :: Q :: .pointer (some ⟨bc,0,none⟩) :: c11 :: .pointer (some ⟨m,k,none⟩) :: c13 :: c14 :: c15 :: c16 :: c17 :: c18 :: c19 :: c20 :: c21 :: c22 :: c23 :: c24 :: c25 :: c26 :: c27 :: c28 :: c29 :: c30 :: c31 :: c32 :: c33 :: c34 :: c35 :: c36 :: c37 :: c38 :: c39 :: c40 :: c41 :: c42 :: c43 :: c44 :: c45 :: c46 :: c47 :: c48 :: c49 :: c50 :: c51 :: c52 :: c53 :: c54 :: c55 :: c56 :: c57 :: c58 :: c59 :: c60 :: c61 :: c62 :: c63 :: c64 :: c65 :: c66 :: c67 :: c68 :: q :: x :: o :: A :: z :: t :: y :: v :: u :: s :: j :: w :: F 81 :: F 82 :: F 83 :: F 84 :: F 85 :: F 86 :: F 87 :: F 88 :: F 89 :: F 90 :: c91 :: []),defers:=[] }) λ_ W'=>∃ g f i,W'=i.setCell ⟨m,k+3,none⟩ (Value.slice (some ⟨g,0,none⟩) (vn+1) f)/\i.ownsRow base 123 2 (Value.slice (some ⟨g,0,none⟩) (vn+1) f) (vn+1) (xs++jr (c,.slice na nn nc))/\(W.alloc (qN c na nn nc)).grownBy i (Value.slice va vn vc).ownBlock/\((Value.slice va vn vc).ownBlock=some g\/g=(W.alloc (qN c na nn nc)).heap.size)))
   { tmps:=List.toArray (c0 :: c1 :: c2 :: c3 :: c4 :: c5 :: c6 :: c7 :: c8 :: Q :: .pointer (some ⟨bc,0,none⟩) :: c11 :: .pointer (some ⟨m,k,none⟩) :: c13 :: c14 :: c15 :: c16 :: c17 :: c18 :: c19 :: c20 :: c21 :: c22 :: c23 :: c24 :: c25 :: c26 :: c27 :: c28 :: c29 :: c30 :: c31 :: c32 :: c33 :: c34 :: c35 :: c36 :: c37 :: c38 :: c39 :: c40 :: c41 :: c42 :: c43 :: c44 :: c45 :: c46 :: c47 :: c48 :: c49 :: c50 :: c51 :: c52 :: c53 :: c54 :: c55 :: c56 :: c57 :: c58 :: c59 :: c60 :: c61 :: c62 :: c63 :: c64 :: c65 :: c66 :: c67 :: c68 :: q :: x :: o :: A :: z :: t :: y :: v :: u :: s :: j :: w :: J :: D :: C :: I :: H :: E :: G :: M :: B :: L :: c91 :: []),defers:=[] } W:=by
 obtain ⟨i0,hi,Hi,Hj,Hn⟩:=info_parts CM;have Hf:=qI h;have Ho:=qI p;have T:=qI P;have Hh:=qI r;have O:=qI R;clear h p P r R
 conv=>enter [4];unfold CO;whnf
 refine A5 (S:=λ_=>True) (by kernel_rfl) (CI (by kernel_rfl)) (A4 _) ?_;have d:(λ_:World=>True) W:=trivial;refine tk 0 ?_;refine tk 1 ?_;refine tk 2 ?_;refine tk 3 ?_;refine rd2 4 5 (λK b=>?_) λK b=>?_
 focus
  go_simp
  go_wp2_with fail
  refine b.o _ _ trivial λd=>?_;clear b K;refine rd 5 λK b=>?_;go_simp
  go_wp2_with fail
  refine b.o _ _ trivial λd=>?_;clear b K;refine rd 6 λK b=>?_;go_simp
  go_wp2_with fail
  refine b.o _ _ trivial λd=>?_;clear b K
 rotate_left
 focus
  go_simp
  go_wp2_with fail
  refine b.o _ _ trivial λd=>?_;clear b K;refine rd2 4 6 (λK b=>?_) λK b=>?_
 focus
  go_simp
  go_wp2_with fail
  refine b.o _ _ trivial λd=>?_;clear b K;refine rd 6 λK b=>?_;go_simp
  go_wp2_with fail
  refine b.o _ _ trivial λd=>?_;clear b K
 rotate_left
 focus
  go_simp
  go_wp2_with fail
  refine b.o _ _ trivial λd=>?_;clear b K;have Hp:=de N (qN c na nn nc);refine rd 4 λK b=>?_;go_simp
  go_wp2_with fail
  refine b.o _ _ trivial λd=>?_;clear b K
 all_goals
  refine rd 7 λK b=>?_;rw [if_pos (by rfl)];refine wp_append_lies _ _ _ 99 rfl base 123 i0 _ 2 32 underlying99 hi Hi Hj Hn rfl (by decide) (Value.slice va vn vc) vn xs rfl (Hf.o.alloc (qN c na nn nc)).drew W 1 1 (jr (c,.slice na nn nc)) rfl rfl (OW W c _ _) (OY c na nn nc) (by decide) (by have:=Hh.o;unfold maxLen;omega) (by have:=Hh.o;omega) (by have:=T.o;simp;omega) (W.alloc (qN c na nn nc)).heap.size rfl ?_;intro g f i Hb Hc Hg Hk;have Hc:=CJ Hc;have Ha:i.heap[m]?=W.heap[m]?:=(Hc.block m (Q1 O.o (by simp)) λe=>Ho.o e.symm).trans (Below.heap_alloc _ _ _ O.o);have U:cl i m (k+3) (Value.slice va vn vc):=(World.cell?_of_block (a:=⟨m,k+3,none⟩) Ha).trans N;have V:i.frozen? ⟨m,k+3,none⟩=false:=(World.frozen?_of_block (a:=⟨m,k+3,none⟩) Ha).trans hf;have He:=qI Hb;have Hl:=qI Hc;have Hm:=qI Hg;clear Hb Hc Hg Ha Hk;refine b.o _ _ trivial λd=>?_;clear b K;refine tk 8 ?_;refine tk 9 ?_;refine rd 10 λK b=>?_;go_simp
  go_wp2_with fail
  refine b.o _ _ trivial λd=>?_;clear b K;refine Qn (by kernel_rfl) ?_ _;refine mx.mk (FrV.mk (by kernel_rfl) ?_);exact ⟨g,f,i,rfl,He.o,Hl.o,Hm.o⟩
theorem CP (s:ByteArray):(Lib.splitB ⟨#[32]⟩ 0 (Lib.countB s ⟨#[32]⟩) s).map (·.data.toList)=aG 32 s.data.toList:=by
 rw [Lib.splitB_data];exact Nq 32 _ _ (lR)
theorem CQ (s:ByteArray):∀ n,s.size<=n->(Lib.splitB ⟨#[32]⟩ 0 (Lib.countB s ⟨#[32]⟩) s).length=Lib.countB s ⟨#[32]⟩+1:=by
 intro n
 induction n generalizing s with
 | zero=>
  intro h
  rcases Lib.indexB_cases s ⟨#[32]⟩ with a|⟨i,a,b⟩
  ·rw [Lib.countB_miss s _ a];rfl
  ·exfalso;have:(ByteArray.mk #[32]).size=1:=rfl;omega
 | succ n ih=>
  intro h
  rcases Lib.indexB_cases s ⟨#[32]⟩ with a|⟨i,a,b⟩
  ·rw [Lib.countB_miss s _ a];rfl
  ·have c:(ByteArray.mk #[32]).size=1:=rfl;rw [Lib.countB_hit s _ i (by omega) a,Nat.add_comm 1,Lib.splitB_hit _ 0 _ s i a,Qg,ih _ (by rw [ByteArray.size_extract];omega)]
theorem O3 (x:List UInt8) (w:World) (hs:x.length<=1000000) (a:cO w) :
  Calls prog 190 #[.string ⟨x.toArray⟩,.string ⟨#[32]⟩] w λe w'=>
   e=.returned (.slice w (aG 32 x).length (aG 32 x).length)/\o7 w' w (aG 32 x)/\Below w w w':=by
 obtain ⟨m,a⟩:=a;have c:=Tryz.strings_Split ⟨x.toArray⟩ ⟨#[32]⟩ m w (by show x.length<_;omega) a (by decide);have b:Lib.countB ⟨x.toArray⟩ ⟨#[32]⟩+1=(aG 32 x).length:=by
  rw [<- CQ _ _ (lR),<- Q9 (·.data.toList),CP]
 rw [b] at c;refine c.mono ?_;rintro e w' ⟨rfl,rfl⟩;refine ⟨rfl,⟨by simp,λk d=>?_⟩,(Q0 _ _).alloc (lR) _⟩;have af:=CP ⟨x.toArray⟩;have Ha:k<(Lib.splitB ⟨#[32]⟩ 0 (Lib.countB ⟨x.toArray⟩ ⟨#[32]⟩) ⟨x.toArray⟩).length:=by rw [CQ _ _ (lR),b];exact d
 rw [World.cell?_alloc_new];have g:(aG 32 x)[k]?=some ((Lib.splitB ⟨#[32]⟩ 0 (Lib.countB ⟨x.toArray⟩ ⟨#[32]⟩) ⟨x.toArray⟩)[k].data.toList):=by
  rw [<- show (Lib.splitB ⟨#[32]⟩ 0 (Lib.countB ⟨x.toArray⟩ ⟨#[32]⟩) ⟨x.toArray⟩).map (·.data.toList)=aG 32 x from af,List.getElem?_map,Qf Ha];rfl
 have f:aj (aG 32 x) k=(Lib.splitB ⟨#[32]⟩ 0 (Lib.countB ⟨x.toArray⟩ ⟨#[32]⟩) ⟨x.toArray⟩)[k].data.toList:=by
  unfold aj;rw [List.getD_eq_getElem?_getD,g];rfl
 rw [f,List.getElem?_toArray,List.getElem?_map,Qf Ha];rfl
def mF (t:List UInt8):List (List (List UInt8)):=(cY t).map λx=>aG 32 (Lib.trimSuffix x [10])
theorem O4 (x:List UInt8):Lib.trimSuffix (x++[10]) [10]=x:=by simp [Lib.trimSuffix,Lib.hasSuffix]
theorem O5 {x:List UInt8} (h:(10:UInt8) ∉ x):Lib.trimSuffix x [10]=x:=by
 unfold Lib.trimSuffix;rw [if_neg];intro hs
 have:[10] <:+ x:=by simpa [Lib.hasSuffix] using hs
 obtain ⟨y,a⟩:=this;exact h (by rw [<- a];simp)
theorem O6 (c:UInt8) (l:List UInt8):∀ x∈aG c l,c ∉ x:=by induction l <;> grind [aG]
theorem O7 (t:List UInt8):mF t=(qq t).map (aG 32):=by
 have Hc:=O6 10 t;have Ha:=m7 10 t;unfold mF cY qq;generalize aG 10 t=p at *;have b:(p.dropLast.map (·++[10])).map (λx=>aG 32 (Lib.trimSuffix x [10]))=p.dropLast.map (aG 32):=by
  rw [List.map_map];exact List.map_congr_left λx _=>by simp only [Function.comp,O4]
 by_cases h:p.getLast?=some []
 ·rw [if_pos h,if_pos h,List.append_nil,b]
 ·rw [if_neg h,if_neg h,Qj,b];obtain ⟨l,a⟩:∃ l,p.getLast?=some l:=⟨_,List.getLast?_eq_some_getLast Ha⟩;have af:p.getLastD []=l:=by rw [List.getLastD_eq_getLast?,a];rfl
  have Hb:l∈p:=List.mem_of_getLast? a;rw [af,List.map_singleton,O5 (Hc l Hb),<- List.map_singleton,<- Qj]
  congr 1
  rw [List.getLast?_eq_some_getLast Ha] at a;injection a with a
  rw [<- a];exact List.dropLast_concat_getLast Ha
theorem O8 (t:List UInt8):gp t=eG bT ce [] (mF t):=by rw [O7];rfl
