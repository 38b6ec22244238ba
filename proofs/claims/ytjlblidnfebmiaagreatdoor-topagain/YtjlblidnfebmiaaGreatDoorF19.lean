import Derived.Test.YtjlblidnfebmiaaGreatDoorF18
import Derived.Laws.OwnMore
set_option maxRecDepth 100000
set_option maxHeartbeats 16000000
open Go Go.RowKit Go.Shelf
attribute [local go_sem] Oper.semAt_some
open Go.Proofs.Tryz
namespace Go.Proofs.YtjlblidnfebmiaaGreatDoor
variable{B N base bc cap k l m n nc nn p q vc vn:Nat}{K:Act->World->Prop}{Q:Exit->Act->World->Prop}{V W W2 w:World}{a:Act}{c1 c11 c13 c14 c15 c16 c17 c18 c19 c2 c20 c21 c22 c23 c24 c25 c26 c27 c28 c29 c3 c30 c31 c32 c33 c34 c35 c36 c37 c38 c39 c4 c40 c41 c42 c43 c44 c45 c46 c47 c48 c49 c5 c50 c51 c52 c53 c54 c55 c56 c57 c58 c59 c6 c60 c61 c62 c63 c64 c65 c66 c67 c68 c7 c8 c91 nv u v v' v0 v1 v2 v3 v4 v5 z0 z1 z5:Value}{el:List Hp}{la:Hp}{na va:Option Addr}{nm:ByteArray}{o:Obj}{r:Option Nat}{t ty:TypeId}{xs:List Value}
theorem oq(a:(W.alloc o).grownBy W2 r):Apart (λj=>r=some j) W W2:=
 (Apart.alloc _ W o).trans ⟨a.os,a.tape,a.output,a.size,λj c b=>a.block j c λe=>b e.symm⟩
theorem mQ:Value.ownBlock (.slice none 0 0)=none:=rfl
theorem PB{pr:Int}(h:gK W base v el la)(k:(W.alloc o).grownBy W2 v.ownBlock)
  (n:W2.ownsRow base 101 4 v' (el.length+1+1) (jc (el++[la])++fu ⟨nm,pr,[],[],.slice none 0 0,.slice none 0 0⟩)) (f:v'.ownBlock=v.ownBlock\/v'.ownBlock=some (W.alloc o).heap.size) :
  gK W2 base v' (el++[la]) ⟨nm,pr,[],[],.slice none 0 0,.slice none 0 0⟩:=by
 have Hc:=oq k;have He:(W.alloc o).heap.size=W.heap.size+1:=by simp
 have Ha:∀j,j<W.heap.size->base<=j->v.ownBlock≠some j->bY base v' ⟨nm,pr,[],[],.slice none 0 0,.slice none 0 0⟩ j:=λj a l m=>by
  refine⟨l,λe=>?_,by simp[mQ],by simp[mQ]⟩
  rcases f with g|g
  ·exact m (by rw[<- g];exact e)
  ·rw[g] at e;injection e with e;omega
 have Hb:∀p,gJ W base (bY base v la) p->(∀j,p.cv.ownBlock=some j->v.ownBlock≠some j)->(∀j,p.gv.ownBlock=some j->v.ownBlock≠some j)->
   gJ W2 base (bY base v' ⟨nm,pr,[],[],.slice none 0 0,.slice none 0 0⟩) p/\(∀j,p.cv.ownBlock=some j->bY base v' ⟨nm,pr,[],[],.slice none 0 0,.slice none 0 0⟩ j)/\(∀j,p.gv.ownBlock=some j->bY base v' ⟨nm,pr,[],[],.slice none 0 0,.slice none 0 0⟩ j):=λp b d c=>
  ⟨b.apart Hc (λj a=>a.2.1) (λj a hf=>Ha j a hf.1 hf.2.1) d c,λj a=>Ha j (b.rc.lt j a).2 (b.rc.lt j a).1 (d j a),λj a=>Ha j (b.rg.lt j a).2 (b.rg.lt j a).1 (c j a)⟩
 refine⟨?_,λp b=>?_,⟨Qw _ _ _ _,Qw _ _ _ _,by simp,by simp⟩,by simp[mQ],by simp[mQ],by simp[mQ]⟩
 ·rw[Da,Q2];exact n
 ·rcases Qi.1 b with b|b
  ·obtain⟨d,c,i⟩:=h.hel p b;exact Hb p d (λj a=>(c j a).2.1) λj a=>(i j a).2.1
  ·rw[Qm.1 b];exact Hb la h.hla h.vc h.vg
theorem PC{pr:Int}(a:W2.ownsRow base 101 4 v' 1 (fu ⟨nm,pr,[],[],.slice none 0 0,.slice none 0 0⟩)) :
  gK W2 base v' [] ⟨nm,pr,[],[],.slice none 0 0,.slice none 0 0⟩:=
 ⟨by simpa[jc] using a,by simp,⟨Qw _ _ _ _,Qw _ _ _ _,by simp,by simp⟩,by simp[mQ],by simp[mQ],by simp[mQ]⟩
theorem Db{a:Hp}{j:Nat}(_:j<4)(hs:(fu la).set j u=fu a):(jc (el++[la])).set (el.length*4+j) u=jc (el++[a]):=by induction el <;> grind[jc,fu,Da]
theorem PD{la:Hp}{c:aB}(r:v=.slice m (el.length+1) cap)(h:gK W base v el la)(t:kh W (bY base v la) nv c.ds)(n:(W.alloc o).grownBy W2 la.cv.ownBlock)
  (w:W2.ownsRow base 65 6 u (la.cl.length+1) (ol la.cl++kk (c,nv))) (i:u.ownBlock=la.cv.ownBlock\/u.ownBlock=some (W.alloc o).heap.size) :
  gK (W2.setCell ⟨m,el.length*4+2,none⟩ u) base v el { la with cl:=la.cl++[(c,nv)],cv:=u }:=by
 have Hi:(W.alloc o).heap.size=W.heap.size+1:=by simp
 have He:v.ownBlock=some m:=by rw[r];rfl
 have Hh:m<W:=(h.row.lt m He).2;have Hc:Apart (λj=>la.cv.ownBlock=some j\/j=m) W (W2.setCell ⟨m,el.length*4+2,none⟩ u):=((oq n).wide λ_=>.inl).trans (Apart.setCell (.inr rfl) _ _ _);have Ha:∀j,bY base v la j->¬ (la.cv.ownBlock=some j\/j=m):=λj hf b=>by
  rcases b with b|rfl
  ·exact hf.2.2.1 b
  ·exact hf.2.1 He
 have k:∀j,j<W.heap.size->bY base v la j->bY base v { la with cl:=la.cl++[(c,nv)],cv:=u } j:=λj a hf=>by
  have s:u.ownBlock≠some j:=λe=>by
   rcases i with d|d
   ·exact hf.2.2.1 (by rw[<- d];exact e)
   ·rw[d] at e;injection e with e;omega
  exact⟨hf.1,hf.2.1,s,hf.2.2.2⟩
 have Hf:∀p,gJ W base (bY base v la) p->(∀j,p.cv.ownBlock=some j->bY base v la j)->(∀j,p.gv.ownBlock=some j->bY base v la j)->
   gJ (W2.setCell ⟨m,el.length*4+2,none⟩ u) base (bY base v { la with cl:=la.cl++[(c,nv)],cv:=u }) p/\(∀j,p.cv.ownBlock=some j->bY base v { la with cl:=la.cl++[(c,nv)],cv:=u } j)/\(∀j,p.gv.ownBlock=some j->bY base v { la with cl:=la.cl++[(c,nv)],cv:=u } j):=λp g q l=>
  ⟨g.apart Hc Ha k (λj a=>Ha j (q j a)) λj a=>Ha j (l j a),λj a=>k j (g.rc.lt j a).2 (q j a),λj a=>k j (g.rg.lt j a).2 (l j a)⟩
 have Hg:u.ownBlock≠some m:=λe=>by
  rcases i with d|d
  ·exact h.vc m (by rw[<- d];exact e) He
  ·rw[d] at e;injection e with e;omega
 have Hb:W2.ownsRow base 101 4 v (el.length+1) (jc (el++[la])):=lL h.row (oq n) λj a b=>h.vc j b a;subst r;refine⟨?_,λp g=>Hf p (h.hel p g).1 (h.hel p g).2.1 (h.hel p g).2.2,⟨?_,?_,?_,?_⟩,?_,?_,?_⟩
 ·rw[<- Db (la:=la) (j:=2) (by omega) (by rfl)];exact (Hb.stored _ _).1
 ·show World.ownsRow _ base 65 6 u (la.cl++[(c,nv)]).length (ol (la.cl++[(c,nv)]))
  rw[Px,Q2];exact lL w (Apart.setCell (K:=λj=>j=m) rfl W2 _ _) (λj a b=>by subst b;exact Hg a)
 ·exact lL h.hla.rg Hc (λj a b=>by
   rcases b with b|rfl
   ·exact h.cg j b a
   ·exact h.vg j a He)
 ·intro x f
  rcases Qi.1 f with f|f
  ·exact (h.hla.nc x f).apart Hc Ha k
  ·rw[Qm.1 f];exact t.apart Hc Ha k
 ·exact λx f=>⟨(h.hla.ng x f).1.apart Hc Ha k,(h.hla.ng x f).2⟩
 ·intro j a e;exact Hg (by rw[show (some m:Option Nat)=some j from e];exact a)
 ·exact λj a e=>h.vg j a e
 ·intro j a e
  rcases i with d|d
  ·exact h.cg j (by rw[<- d];exact a) e
  ·have:=(h.hla.rg.lt j e).2
   rw[d] at a;injection a with a;omega
theorem PF{la:Hp}{c:aR}(t:v=.slice m (el.length+1) cap)(h:gK W base v el la)(y:jb W (bY base v la) nv c.dv)(l:c.cp<18446744073709551616)(r:(W.alloc o).grownBy W2 la.gv.ownBlock)
  (z:W2.ownsRow base 123 2 u (la.gl.length+1) (om la.gl++jC (c,nv))) (i:u.ownBlock=la.gv.ownBlock\/u.ownBlock=some (W.alloc o).heap.size) :
  gK (W2.setCell ⟨m,el.length*4+3,none⟩ u) base v el { la with gl:=la.gl++[(c,nv)],gv:=u }:=by
 have Hi:(W.alloc o).heap.size=W.heap.size+1:=by simp
 have He:v.ownBlock=some m:=by rw[t];rfl
 have Hh:m<W:=(h.row.lt m He).2;have Hc:Apart (λj=>la.gv.ownBlock=some j\/j=m) W (W2.setCell ⟨m,el.length*4+3,none⟩ u):=((oq r).wide λ_=>.inl).trans (Apart.setCell (.inr rfl) _ _ _);have Ha:∀j,bY base v la j->¬ (la.gv.ownBlock=some j\/j=m):=λj hf b=>by
  rcases b with b|rfl
  ·exact hf.2.2.2 b
  ·exact hf.2.1 He
 have k:∀j,j<W.heap.size->bY base v la j->bY base v { la with gl:=la.gl++[(c,nv)],gv:=u } j:=λj a hf=>by
  have w:u.ownBlock≠some j:=λe=>by
   rcases i with d|d
   ·exact hf.2.2.2 (by rw[<- d];exact e)
   ·rw[d] at e;injection e with e;omega
  exact⟨hf.1,hf.2.1,hf.2.2.1,w⟩
 have Hf:∀p,gJ W base (bY base v la) p->(∀j,p.cv.ownBlock=some j->bY base v la j)->(∀j,p.gv.ownBlock=some j->bY base v la j)->
   gJ (W2.setCell ⟨m,el.length*4+3,none⟩ u) base (bY base v { la with gl:=la.gl++[(c,nv)],gv:=u }) p/\(∀j,p.cv.ownBlock=some j->bY base v { la with gl:=la.gl++[(c,nv)],gv:=u } j)/\(∀j,p.gv.ownBlock=some j->bY base v { la with gl:=la.gl++[(c,nv)],gv:=u } j):=λp g s n=>
  ⟨g.apart Hc Ha k (λj a=>Ha j (s j a)) λj a=>Ha j (n j a),λj a=>k j (g.rc.lt j a).2 (s j a),λj a=>k j (g.rg.lt j a).2 (n j a)⟩
 have Hg:u.ownBlock≠some m:=λe=>by
  rcases i with d|d
  ·exact h.vg m (by rw[<- d];exact e) He
  ·rw[d] at e;injection e with e;omega
 have Hb:W2.ownsRow base 101 4 v (el.length+1) (jc (el++[la])):=lL h.row (oq r) λj a b=>h.vg j b a;subst t;refine⟨?_,λp g=>Hf p (h.hel p g).1 (h.hel p g).2.1 (h.hel p g).2.2,⟨?_,?_,?_,?_⟩,?_,?_,?_⟩
 ·rw[<- Db (la:=la) (j:=3) (by omega) (by rfl)];exact (Hb.stored _ _).1
 ·exact lL h.hla.rc Hc (λj a b=>by
   rcases b with b|rfl
   ·exact h.cg j a b
   ·exact h.vc j a He)
 ·show World.ownsRow _ base 123 2 u (la.gl++[(c,nv)]).length (om (la.gl++[(c,nv)]))
  rw[Py,Q2];exact lL z (Apart.setCell (K:=λj=>j=m) rfl W2 _ _) (λj a b=>by subst b;exact Hg a)
 ·exact λx f=>(h.hla.nc x f).apart Hc Ha k
 ·intro x f
  rcases Qi.1 f with f|f
  ·exact⟨(h.hla.ng x f).1.apart Hc Ha k,(h.hla.ng x f).2⟩
  ·rw[Qm.1 f];exact⟨y.apart Hc Ha k,l⟩
 ·exact λj a e=>h.vc j a e
 ·intro j a e;exact Hg (by rw[show (some m:Option Nat)=some j from e];exact a)
 ·intro j a e
  rcases i with d|d
  ·exact h.cg j a (by rw[<- d];exact e)
  ·have:=(h.hla.rc.lt j a).2
   have q:some j=some (W.alloc o).heap.size:=by rw[<- d];exact e.symm
   injection q with q;omega
theorem PG{fn:Func}{p q u:Tmp}{c:TypeId}(h:fn.results=#[.cell p ty,.cell q c,.tmp u])(tmps:Array Value)(P:Program)(w:World) :
  (results fn tmps).run P w =
   ((asAddr (tmps.getD p undef)).run P w).andThen λa f=>((loadVar ty a).run P f).andThen λv d=>((asAddr (tmps.getD q undef)).run P d).andThen λb g=>((loadVar c b).run P g).andThen λx e=>.ok (.tuple #[v,x,tmps.getD u undef]) e:=by
 simp only[results,h]
 simp[Sem.run_bind,Result.andThen]
def okC (ws:List (List UInt8)):Bool:=(((gOf (ar ws 2) && gOf (ar ws 3)) && (gOf (ar ws 4) && gOf (ar ws 5))) && (bV ct (ar ws 6)).isSome && jA (ar ws 7)) && (bV bW (ar ws 8)).isSome
def jd (V:World) (B:Nat) (v0 v1 v2 v3 v4 v5:Value):World:=(((((V.setCell B v0).setCell ⟨B,1,none⟩ v1).setCell ⟨B,2,none⟩ v2).setCell ⟨B,3,none⟩ v3).setCell ⟨B,4,none⟩ v4).setCell ⟨B,5,none⟩ v5
def je (V:World) (B:Nat) (v0 v1:Value):World:=(V.setCell B v0).setCell ⟨B,1,none⟩ v1
theorem set_other{j:Nat}(h:k≠B):(V.setCell ⟨B,j,none⟩ v).heap[k]?=V.heap[k]?:=Below.heap_setCell V ⟨B,j,none⟩ v k h
theorem xx(h:k≠B):(jd V B v0 v1 v2 v3 v4 v5).heap[k]?=V.heap[k]?:=by
 unfold jd;rw[set_other h,set_other h,set_other h,set_other h,set_other h,set_other h]
theorem xy(h:k≠B):(je V B v0 v1).heap[k]?=V.heap[k]?:=by
 unfold je;rw[set_other h,set_other h]
theorem PH{a v2 v3 v4 z1 z2 z3 z4:Value}(h:V.heap[B]?=some (.cells #[z0,z1,z2,z3,z4,z5] t (0,0))):(jd V B v0 a v2 v3 v4 v5).heap[B]?=some (.cells #[v0,a,v2,v3,v4,v5] t (0,0)):=
 aV (aV (aV (aV (aV (aV h 0 v0) 1 a) 2 v2) 3 v3) 4 v4) 5 v5
theorem PI(h:V.heap[B]?=some (.cells #[z0,z1] t (0,0))):(je V B v0 v1).heap[B]?=some (.cells #[v0,v1] t (0,0)):=
 aV (aV h 0 v0) 1 v1
theorem PJ(h:Below N w V)(a:N<=B):Below N w (jd V B v0 v1 v2 v3 v4 v5):=
 (((((h.setCell (p:=B) a _).setCell (p:=⟨B,1,none⟩) a _).setCell (p:=⟨B,2,none⟩) a _).setCell (p:=⟨B,3,none⟩) a _).setCell (p:=⟨B,4,none⟩) a _).setCell (p:=⟨B,5,none⟩) a _
theorem PK:Apart (λj=>j=B) V (jd V B v0 v1 v2 v3 v4 v5):=
 (((((Apart.setCell (K:=λj=>j=B) rfl V 0 v0).trans (Apart.setCell (K:=λj=>j=B) rfl _ 1 v1)).trans (Apart.setCell (K:=λj=>j=B) rfl _ 2 v2)).trans (Apart.setCell (K:=λj=>j=B) rfl _ 3 v3)).trans (Apart.setCell (K:=λj=>j=B) rfl _ 4 v4)).trans (Apart.setCell (K:=λj=>j=B) rfl _ 5 v5)
theorem PM{H:Nat}:Apart (λj=>j=H\/j=H+1) V (je V (H+1) v0 v1):=
 (Apart.setCell (K:=λj=>j=H\/j=H+1) (.inr rfl) V 0 v0).trans (Apart.setCell (K:=λj=>j=H\/j=H+1) (.inr rfl) _ 1 v1)
theorem PN(h:Below N w V)(a:N<=B):Below N w (je V B v0 v1):=(h.setCell (p:=B) a _).setCell (p:=⟨B,1,none⟩) a _
theorem PO{n2 f e d:Int}{z1 z2 z3 z4:Value}{pos:String}{after:Array Edge}{guard:Option (Nat × Bool)} 
  (b:W.heap[B]?=some (.cells #[z0,z1,z2,z3,z4,z5] 65 (0,0))) (h:a.tmps[p]?.getD undef=.pointer (some ⟨B,0,none⟩)) (m:a.tmps[q]?.getD undef=.agg #[nm,n2,f,e,d,.slice na nn nc])
  (c:K a (jd W B nm n2 f e d (.slice na nn nc))) :
  Oper.wp prog { dst:=none,op:=Op.store 65 (Operand.tmp p) (Operand.tmp q),type:=ty,pos:=pos,after:=after,guard:=guard } a W K Q:=by
 unfold jd at c;have g:=qI c;clear c;have c0:W.cell? B=some z0:=by simp[World.cell?,b]
 have c1:W.cell? ⟨B,1,none⟩=some z1:=by simp[World.cell?,b]
 have c2:W.cell? ⟨B,2,none⟩=some z2:=by simp[World.cell?,b]
 have c3:W.cell? ⟨B,3,none⟩=some z3:=by simp[World.cell?,b]
 have k:W.cell? ⟨B,4,none⟩=some z4:=by simp[World.cell?,b]
 have j:W.cell? ⟨B,5,none⟩=some z5:=by simp[World.cell?,b]
 have f0:W.frozen? B=false:=by simp[World.frozen?,b]
 have f1:W.frozen? ⟨B,1,none⟩=false:=by simp[World.frozen?,b]
 have f2:W.frozen? ⟨B,2,none⟩=false:=by simp[World.frozen?,b]
 have f3:W.frozen? ⟨B,3,none⟩=false:=by simp[World.frozen?,b]
 have i:W.frozen? ⟨B,4,none⟩=false:=by simp[World.frozen?,b]
 have l:W.frozen? ⟨B,5,none⟩=false:=by simp[World.frozen?,b]
 clear b;go_simp;exact g.o
theorem PP{cp:Nat}{pos:String}{after:Array Edge}{guard:Option (Nat × Bool)} 
  (b:W.heap[B]?=some (.cells #[z0,z1] 123 (0,0))) (e:a.tmps[p]?.getD undef=.pointer (some ⟨B,0,none⟩)) (f:a.tmps[q]?.getD undef=.agg #[.int .u64 cp,.slice na nn nc])
  (c:K a (je W B (.int .u64 cp) (.slice na nn nc))) :
  Oper.wp prog { dst:=none,op:=Op.store 123 (Operand.tmp p) (Operand.tmp q),type:=ty,pos:=pos,after:=after,guard:=guard } a W K Q:=by
 unfold je at c;have d:=qI c;clear c;have c0:W.cell? B=some z0:=by simp[World.cell?,b]
 have c1:W.cell? ⟨B,1,none⟩=some z1:=by simp[World.cell?,b]
 have f0:W.frozen? B=false:=by simp[World.frozen?,b]
 have f1:W.frozen? ⟨B,1,none⟩=false:=by simp[World.frozen?,b]
 clear b;go_simp;exact d.o
def xz (w:World) (ws:List (List UInt8)) (e:Ending) (w':World):Prop:=
 ∃nv dv,e=.returned (.tuple #[.agg #[.string ⟨(ar ws 1).toArray⟩,(nOf (ar ws 2):Int),(nOf (ar ws 3):Int),(nOf (ar ws 4):Int),(nOf (ar ws 5):Int),nv],.agg #[.int .u64 (gH (ar ws 7):Nat),dv],.bool (okC ws)])/\
  (∀ds,bV ct (ar ws 6)=some ds->bv w' nv ds)/\(∀xs,bV bW (ar ws 8)=some xs->bD w' dv xs)/\(∃a n c,nv=.slice a n c/\∀x,a=some x->w.heap.size<=x.block)/\(∃a n c,dv=.slice a n c/\∀x,a=some x->w.heap.size<=x.block)/\Below w w w'
theorem ad{cs:Array Value}(h:W.heap[B]?=some (.cells cs t (0,0)))(j:Nat):W.cell? ⟨B,j,none⟩=cs[j]?:=by simp[World.cell?,h]
abbrev km:=(.cells #[.string ⟨#[]⟩,(0:Int),(0:Int),(0:Int),(0:Int),.slice none 0 0] 65:Obj)
abbrev ot:=λ(x0:Array UInt8) (x1 x2 x3 x4:Int) (x5:Option Addr) (x6 x7:Nat)=>(.cells #[.string ⟨x0⟩,.int .i64 x1,.int .i64 x2,.int .i64 x3,.int .i64 x4,.slice x5 x6 x7] 65 (0,0):Obj)
abbrev ri:=λ(x0:Array UInt8) (x1 x2 x3 x4:Int) (x5:Option Addr) (x6 x7:Nat)=>(.cells #[.string ⟨x0⟩,.int .i64 x1,.int .i64 x2,.int .i64 x3,.int .i64 x4,.slice x5 x6 x7] 65:Obj)
abbrev pz:=λ(x0:Int) (x1:Option Addr) (x2 x3:Nat)=>(.cells #[.int .u64 x0,.slice x1 x2 x3] 123 (0,0):Obj)
abbrev Dc:=(.cells #[.string ⟨#[]⟩,(0:Int),(0:Int),(0:Int),(0:Int),.slice none 0 0] 65 (0,0):Obj)
abbrev xA:=(.cells #[.int .u64 0,.slice none 0 0] 123 (0,0):Obj)
theorem Dd(b wc:Nat)(ws:List (List UInt8))(w:World)(h:px w b ws)(hl:ws.length=9)(hs:∀x∈ws,x.length<=10000)(hm:cS w) :
  Calls prog 193 #[.slice b 9 wc] w (xz w ws):=by
 have Ha:∀k,k<9->(ar ws k).length<=10000:=λk hk=>hs _ (C0 (by omega))
 have Z:=((Q0 w w).alloc (lR) (km)).alloc (by simp) (.cells #[.int .u64 0,.slice none 0 0] 123);have HA:=qI Z;have z:=qI (h.below Z);have HM:=qI hm;have V:=qI λW=>CM ⟨(ar ws 2).toArray⟩ ⟨(ar ws 3).toArray⟩ W (by unfold maxLen;have:=Ha 2 (by omega);show (ar ws 2).length<=_;omega) (by unfold maxLen;have:=Ha 3 (by omega);show (ar ws 3).length<=_;omega);have R2:=qI λW=>CM ⟨(ar ws 4).toArray⟩ ⟨(ar ws 5).toArray⟩ W (by unfold maxLen;have:=Ha 4 (by omega);show (ar ws 4).length<=_;omega) (by unfold maxLen;have:=Ha 5 (by omega);show (ar ws 5).length<=_;omega);have Y:=qI λW (hb:Below w w W)=>Pu ⟨(ar ws 6).toArray⟩ W (by have:=Ha 6 (by omega);show (ar ws 6).length<=_;omega) (HM.o.below hb);have R4:=qI λW (hb:Below w w W)=>OP ⟨(ar ws 7).toArray⟩ W (by unfold maxLen;have:=Ha 7 (by omega);show (ar ws 7).length<=_;omega) (HM.o.below hb);have R5:=qI λW=>Ph ⟨(ar ws 8).toArray⟩ W (by have:=Ha 8 (by omega);show (ar ws 8).length<=_;omega);have hJ:((w.alloc (km)).alloc (.cells #[.int .u64 0,.slice none 0 0] 123)).heap.size=w.heap.size+1+1:=by simp
 have H9:=qI (show ((w.alloc (km)).alloc (.cells #[.int .u64 0,.slice none 0 0] 123)).heap[w.heap.size]?=some (Dc) from (Below.heap_alloc _ _ _ (by simp)).trans (heap_alloc_new w _));have H6:=qI (show ((w.alloc (km)).alloc (.cells #[.int .u64 0,.slice none 0 0] 123)).heap[w.heap.size+1]?=some (xA) from by have:=heap_alloc_new (w.alloc (km)) (.cells #[.int .u64 0,.slice none 0 0] 123);rwa [World.size_alloc] at this);have ht:Hu (okC ws=((((gOf (ar ws 2) && gOf (ar ws 3)) && (gOf (ar ws 4) && gOf (ar ws 5))) && (bV ct (ar ws 6)).isSome && jA (ar ws 7)) && (bV bW (ar ws 8)).isSome)):=rfl;dsimp only at V R2 Y R4 R5;clear Z h hs hm Ha
 go_enter func193,ntmps193
 go_wp2_with fail
 generalize ((w.alloc (km)).alloc (.cells #[.int .u64 0,.slice none 0 0] 123))=U at *;refine C7 (Pv (P:=fun|2=>.pointer (some ⟨w,0,none⟩)|3=>.pointer (some ⟨w.heap.size+1,0,none⟩)|_=>.bool false) U z.o.1 (z.o.2 2 (by omega)) (z.o.2 3 (by omega)) V) ?_;rintro _ W1 ⟨F,rfl,B1,H8,H0,O,hH,Hn⟩;have HU:=qI O;have Q:=qI Hn;have A:=qI (z.o.below O);have HR:=qI O.size;clear O Hn;dsimp only;rw[H8,H0];clear H8 H0
 go_wp2_with fail
 refine C7 (Pw (P:=fun|2=>.pointer (some ⟨w,0,none⟩)|3=>.pointer (some ⟨w.heap.size+1,0,none⟩)|4=>.bool false|5=>.pointer (some ⟨B1,0,none⟩)|6=>.bool (gOf (ar ws 2) && gOf (ar ws 3))|n=>F n) W1 A.o.1 (A.o.2 4 (by omega)) (A.o.2 5 (by omega)) R2) ?_;rintro _ R ⟨G,rfl,B2,hi,HV,E,hI,Hq⟩;have Hf:=qI (HU.o.trans (E.mono HU.o.size));have Hh:=qI ((E.block B1 (gS Q.o).1).trans Q.o);have HL:=qI Hq;have Ht:=qI (A.o.below E);clear E Hq Q HU A;dsimp only;rw[hi,HV];clear hi HV;have Hb:=qI (HA.o.trans (Hf.o.mono HA.o.size));have w6:=Ht.o.2 6 (by omega)
 go_wp2_with fail
 refine (Y.o _ Hb.o).mono ?_;rintro e L ⟨nv,rfl,hf,⟨c,f,nc,rfl,H1⟩,J⟩;have HZ:=qI H1;clear H1;have hy:=qI hf;have M:=qI J;have Hw:=qI (Hb.o.trans (J.mono Hb.o.size));have w7:=(Ht.o.below J).2 7 (by omega);clear hf J w6
 go_wp2_with fail
 refine (R4.o _ Hw.o).mono ?_;rintro e W4 ⟨rfl,HT⟩;have Hy:=qI (M.o.trans (HT.mono M.o.size));have Hi:=qI HT;have w8:=(Ht.o.below Hy.o).2 8 (by omega);clear HT w7
 go_wp2_with fail
 refine (R5.o _).mono ?_;rintro e d ⟨hL,rfl,hn,⟨m,p,i,rfl,H4⟩,HJ⟩;have H2:=qI H4;clear H4;have hr:=qI hn;have Hg:=qI (Hy.o.trans (HJ.mono Hy.o.size));have He:=qI (Hi.o.trans (HJ.mono Hi.o.size));have hu:=qI (show w+1<R.heap.size from Q1 (by omega) Hf.o.size);have ho:=qI (show R<=W4.heap.size from Hy.o.size);have hz:=qI (show w+1<L.heap.size from Q1 (Q1 (by omega) Hf.o.size) M.o.size);have Hc:=qI (Hb.o.trans (Hg.o.mono Hb.o.size));have w1:=(Ht.o.below Hg.o).2 1 (by omega);have Hn:=(Hg.o.block B1 (gS Hh.o).1).trans Hh.o;have Hq:=(Hg.o.block B2 (gS HL.o).1).trans HL.o;have a0:=ad Hn 0;have a1:=ad Hn 1;have a2:=ad Hq 0;have a3:=ad Hq 1;have T:=qI (((Hf.o.trans (Hg.o.mono Hf.o.size)).block w (by omega)).trans H9.o);have H:=qI (((Hf.o.trans (Hg.o.mono Hf.o.size)).block (w.heap.size+1) (by omega)).trans H6.o);clear hn HJ w8 Hn Hq Hf Hy Hi Hg Ht z HM H9 H6 Hh HL HA Hb Hw V R2 Y R4 R5;have hC:Hu (∃y,y=ar ws 1):=⟨_,rfl⟩;generalize hp1:(gOf (ar ws 2) && gOf (ar ws 3))=s at *;generalize hp2:(gOf (ar ws 4) && gOf (ar ws 5))=C at *;generalize hp3:(bV ct (ar ws 6)).isSome=I at *;generalize hp4:jA (ar ws 7)=p4 at *;generalize hp5:(bV bW (ar ws 8)).isSome=p5 at *;generalize Hx:ar ws 1=q at *;generalize he:nOf (ar ws 2)=n2 at *;generalize H5:nOf (ar ws 3)=o at *;generalize ha:nOf (ar ws 4)=g at *;generalize hh:nOf (ar ws 5)=l at *;generalize H7:gH (ar ws 7)=cp at *;have hG:=qI (And.intro Hx (And.intro he (And.intro H5 (And.intro ha (And.intro hh H7)))));clear hC Hx he H5 ha hh H7 hp1 hp2 hp3 hp4 hp5;simp only[List.getElem?_toArray,List.getElem?_cons_zero,List.getElem?_cons_succ] at a0 a1 a2 a3;have z1:=dp w1 (km);have z2:=dp a0 (km);have z3:=dp a1 (km);have z4:=dp a2 (km);have z5:=dp a3 (km)
 go_wp2_with fail
 go_region
 have HX:=qI (And.intro Hc (And.intro He (And.intro T H)));clear z1 z2 z3 z4 z5 w1 a0 a1 a2 a3
 go_wp2_with fail
 have Hp:Below d d ((d.alloc (ri q.toArray n2 o g l c f nc)).alloc (.cells #[.int .u64 cp,.slice m p i] 123)).drew:=jB (((Q0 _ _).alloc (lR) _).alloc (by simp) _);have H3:((d.alloc (ri q.toArray n2 o g l c f nc)).alloc (.cells #[.int .u64 cp,.slice m p i] 123)).drew.heap[d.heap.size]?=some (ot q.toArray n2 o g l c f nc):=(Below.heap_alloc _ _ _ (by simp)).trans (heap_alloc_new d _);have Hx:((d.alloc (ri q.toArray n2 o g l c f nc)).alloc (.cells #[.int .u64 cp,.slice m p i] 123)).drew.heap[d.heap.size+1]?=some (pz cp m p i):=by have:=heap_alloc_new (d.alloc (ri q.toArray n2 o g l c f nc)) (.cells #[.int .u64 cp,.slice m p i] 123);rwa [World.size_alloc] at this
 have hc:=qI (And.intro H3 Hx);have Hr:=qI (Hc.o.trans (Hp.mono Hc.o.size));have Hs:=qI (He.o.trans (Hp.mono He.o.size));have Hv:=qI Hp;have h5:w+1<d.heap.size:=(gS H.o).1;have Hz:=qI ((Hp.block w (by omega)).trans T.o);have Ho:=qI ((Hp.block (w.heap.size+1) h5).trans H.o);clear H3 Hx Hp HX T H Hc He;generalize ((d.alloc (ri q.toArray n2 o g l c f nc)).alloc (.cells #[.int .u64 cp,.slice m p i] 123)).drew=r at *;have HS:=qI (show r.drew.heap[d.heap.size]?=some (ot q.toArray n2 o g l c f nc)/\r.drew.heap[d.heap.size+1]?=some (pz cp m p i) from hc.o);have HY:=qI (show r.drew.heap[w.heap.size]?=some (Dc) from Hz.o);have hq:=qI (show r.drew.heap[w.heap.size+1]?=some (xA) from Ho.o);have hE:=qI (show Below w w r.drew from jB Hr.o);have hD:=qI (show Below L L r.drew from jB Hs.o);have hB:=qI (show Below d d r.drew from jB Hv.o);have h3:w+1<L.heap.size:=by have:=hz.o;omega
 clear hc Hz Ho Hr Hs Hv;clear HR M;have Ho:Hu ((jd r.drew w (.string ⟨q.toArray⟩) (n2:Int) (o:Int) (g:Int) (l:Int) (.slice c f nc)).heap[w.heap.size+1]?=some (xA)):=(xx (by omega)).trans hq.o;have Hz:Hu ((jd r.drew w (.string ⟨q.toArray⟩) (n2:Int) (o:Int) (g:Int) (l:Int) (.slice c f nc)).heap[w.heap.size]?=some (ot q.toArray n2 o g l c f nc)):=PH HY.o;have Hm:Hu (Below w w (jd r.drew w (.string ⟨q.toArray⟩) (n2:Int) (o:Int) (g:Int) (l:Int) (.slice c f nc))):=PJ hE.o (lR);have Hk:Hu (Apart (λj=>j=w.heap.size) r.drew (jd r.drew w (.string ⟨q.toArray⟩) (n2:Int) (o:Int) (g:Int) (l:Int) (.slice c f nc))):=PK;have D:Hu ((λw'=>w'.heap[d.heap.size]?=some (ot q.toArray n2 o g l c f nc)/\w'.heap[d.heap.size+1]?=some (pz cp m p i)) (jd r.drew w (.string ⟨q.toArray⟩) (n2:Int) (o:Int) (g:Int) (l:Int) (.slice c f nc))):=⟨(xx (by omega)).trans HS.o.1,(xx (by omega)).trans HS.o.2⟩;obtain⟨t,HN⟩:∃P,P=(jd r.drew w (.string ⟨q.toArray⟩) (n2:Int) (o:Int) (g:Int) (l:Int) (.slice c f nc)):=⟨_,rfl⟩;rw[<- HN] at Ho Hz Hm Hk D;have X:Hu ((je t (w.heap.size+1) (.int .u64 cp) (.slice m p i)).heap[w.heap.size+1]?=some (pz cp m p i)):=PI Ho.o;have Hj:Hu ((je t (w.heap.size+1) (.int .u64 cp) (.slice m p i)).heap[w.heap.size]?=some (ot q.toArray n2 o g l c f nc)):=(xy (by omega)).trans Hz.o;have HB:Hu (Below w w (je t (w.heap.size+1) (.int .u64 cp) (.slice m p i))):=PN Hm.o (Nat.le_succ _);have Hl:Hu (Apart (λj=>j=w.heap.size\/j=w.heap.size+1) r.drew (je t (w.heap.size+1) (.int .u64 cp) (.slice m p i))):=(Hk.o.wide λ_=>.inl).trans PM;have hg:Hu ((λw'=>w'.heap[d.heap.size]?=some (ot q.toArray n2 o g l c f nc)/\w'.heap[d.heap.size+1]?=some (pz cp m p i)) (je t (w.heap.size+1) (.int .u64 cp) (.slice m p i))):=⟨(xy (by omega)).trans D.o.1,(xy (by omega)).trans D.o.2⟩;obtain⟨P8,HQ⟩:∃P,P=(je t (w.heap.size+1) (.int .u64 cp) (.slice m p i)):=⟨_,rfl⟩;rw[<- HQ] at X Hj HB Hl hg;have hF:=qI HN;have hw:=qI HQ;clear HN HQ Hm Hk;have hp:s=false\/(s=true/\C=false)\/(s=true/\C=true/\I=false)\/(s=true/\C=true/\I=true/\p4=false)\/(s=true/\C=true/\I=true/\p4=true):=by cases s <;> cases C <;> cases I <;> cases p4 <;> simp
 rcases hp with rfl|⟨rfl,rfl⟩|⟨rfl,rfl,rfl⟩|⟨rfl,rfl,rfl,rfl⟩|⟨rfl,rfl,rfl,rfl⟩
 all_goals
  refine wp_region_held_drew (S:=(λw'=>w'.heap[d.heap.size]?=some (ot q.toArray n2 o g l c f nc)/\w'.heap[d.heap.size+1]?=some (pz cp m p i))) (by kernel_rfl) HS.o λhHeld=>?_;refine tq 0 (v:=.agg #[.string ⟨q.toArray⟩,(n2:Int),(o:Int),(g:Int),(l:Int),.slice c f nc]) (λw' a=>?_) ?_
  ·(try dsimp only at a);have q0:=ad a.1 0;have B:=ad a.1 1;have q2:=ad a.1 2;have q3:=ad a.1 3;have q4:=ad a.1 4;have q5:=ad a.1 5;simp only[List.getElem?_toArray,List.getElem?_cons_zero,List.getElem?_cons_succ] at q0 B q2 q3 q4 q5;go_simp;try rfl
  (try simp only[Act.put,s1,s2,s3]);refine tq 1 (v:=.agg #[.int .u64 cp,.slice m p i]) (λw' a=>?_) ?_
  ·(try dsimp only at a);have q0:=ad a.2 0;have B:=ad a.2 1;simp only[List.getElem?_toArray,List.getElem?_cons_zero,List.getElem?_cons_succ] at q0 B;go_simp;try rfl
  (try simp only[Act.put,s1,s2,s3]);refine tk 2 ?_;refine tk 3 ?_
  first|refine tk 4 ?_|refine ts 4 ?_
  refine tk 5 ?_;refine tk 6 ?_
  first|refine tk 7 ?_|refine ts 7 ?_
  refine tk 8 ?_;refine tk 9 ?_
  first|refine tk 10 ?_|refine ts 10 ?_
  refine tk 11 ?_;refine tk 12 ?_
  first|refine tk 13 ?_|refine ts 13 ?_
  refine tk 14 ?_;refine rd 15 λK u=>?_;rw[if_pos (by rfl)];refine PO HY.o rfl rfl ?_;rw[<- hF.o];refine u.o _ _ D.o λhHeld=>?_;clear u K;refine rd 16 λK u=>?_;rw[if_pos (by rfl)];refine PP Ho.o rfl rfl ?_;rw[<- hw.o];refine u.o _ _ hg.o λhHeld=>?_;clear u K;refine tk 17 ?_;refine Qn (by kernel_rfl) ?_ _;have e0:=ad Hj.o 0;have e1:=ad Hj.o 1;have e2:=ad Hj.o 2;have e3:=ad Hj.o 3;have e4:=ad Hj.o 4;have e5:=ad Hj.o 5;have e6:=ad X.o 0;have e7:=ad X.o 1;simp only[List.getElem?_toArray,List.getElem?_cons_zero,List.getElem?_cons_succ] at e0 e1 e2 e3 e4 e5 e6 e7;clear hHeld
  go_wp2_with fail
  (try simp only[Exit.inBlock,Exit.then]);have h2:=hu.o;have h4:=ho.o;have hv:=ht.o
  simp at hv
  obtain⟨B,q2,q3,q4,q5,q6⟩:=hG.o;refine bodyPost_ret (v:=.tuple #[.agg #[.string ⟨q.toArray⟩,(n2:Int),(o:Int),(g:Int),(l:Int),.slice c f nc],.agg #[.int .u64 cp,.slice m p i],.bool (okC ws)]) ?_ rfl ⟨.slice c f nc,.slice m p i,?_,λds hd=>?_,λxs hd=>?_,⟨_,_,_,rfl,λx hx=>Q5 (by omega) (HZ.o x hx)⟩,⟨_,_,_,rfl,λx hx=>Q5 (by omega) (H2.o x hx)⟩,HB.o⟩
  ·rw[PG rfl,hv];go_simp
  ·rw[B,q2,q3,q4,q5,q6]
  ·exact Pq (N:=R.heap.size) ((hy.o ds hd).below hD.o) ⟨_,_,_,rfl,HZ.o⟩ Hl.o (λj hj=>by omega)
  ·exact ((hr.o xs hd).below hB.o).apart (N:=W4.heap.size) ⟨_,_,_,rfl,H2.o⟩ Hl.o (λj hj=>by omega)
def ko:Code->List Code
 | .seq a b=>ko a++ko b
 | .cond _ a b=>ko a++ko b
 | .block _ c=>ko c
 | .scope c=>ko c
 | .loop c=>ko c
 | .rangeFunc _ _ a b=>ko a++ko b
 | .region i o d=>[.region i o d]
 | _=>[]
def De (n:Nat) (l:List Code):Code:=(l.find? λc=>match c with|.region i _ _=>i == n|_=>false).getD .skip
theorem Df{a:Array Oper}(h:(a.toList.all λo=>match o.op with|.defer _=>false|_=>true)=true):∀(i:Nat) (o:Oper) c,a[i]?=some o->o.op≠Op.defer c:=by grind
theorem Dg{A B:World}(h:A.drew.grownBy B r):A.grownBy B r:=⟨h.os,h.tape,h.output,h.size,h.block⟩
theorem Dh:(prog.info? 65).map (λi=>(i.zero,i.size,i.bytes))=some (some (.agg #[ByteArray.empty,(0:Int),(0:Int),(0:Int),(0:Int),.slice none 0 0]),6,72):=by kernel_rfl
theorem Di:(prog.info? 123).map (λi=>(i.zero,i.size,i.bytes))=some (some (.agg #[.int .u64 0,.slice none 0 0]),2,32):=by kernel_rfl
theorem PR(w:World)(c:aB)(dv:Value)(t:TypeId):∀j u,(kk (c,dv))[j]?=some u->(w.alloc (.cells #[c.nm,(c.am:Int),(c.ab:Int),(c.cm:Int),(c.cb:Int),dv] t)).drew.cell? ((w.heap.size:Addr).add j)=some u:=by simp_all[Addr.add_lit,kk,di]
theorem PU(w:World)(c:aR)(dv:Value)(t:TypeId):∀j u,(jC (c,dv))[j]?=some u->(w.alloc (.cells #[.int .u64 c.cp,dv] t)).drew.cell? ((w.heap.size:Addr).add j)=some u:=by simp_all[Addr.add_lit,jC]
theorem PV(c:aB)(a:Option Addr)(n k:Nat):∀u∈kk (c,.slice a n k),u.oneCell'=true:=by
 intro u b
 simp[kk,di] at b
 rcases b with rfl|rfl|rfl|rfl|rfl|rfl <;> rfl
theorem PX(c:aR)(a:Option Addr)(n k:Nat):∀u∈jC (c,.slice a n k),u.oneCell'=true:=by
 intro u b
 simp[jC] at b
 rcases b with rfl|rfl <;> rfl
noncomputable def Dj:Code:=De 16 ((Tryz.f157.body.map ko).getD [])
abbrev rj:=λ(x0:aB) (x1:Option Addr) (x2 x3:Nat)=>(.cells #[x0.nm,(x0.am:Int),(x0.ab:Int),(x0.cm:Int),(x0.cb:Int),.slice x1 x2 x3] 65:Obj)
theorem PY{c0 c10 w v t u s q p o y x C H J D I A z M G L B E:Value}{k:Nat}{c:aB}(W:World)(N:W.cell? ⟨m,k+2,none⟩=some (Value.slice va vn vc))(hf:W.frozen? ⟨m,k+2,none⟩=false)(T:W.cell? bc=some (.string c.nm))(X:W.cell? ⟨bc,1,none⟩=some (.int .i64 c.am))(Z:W.cell? ⟨bc,2,none⟩=some (.int .i64 c.ab))(V:W.cell? ⟨bc,3,none⟩=some (.int .i64 c.cm))(e4:W.cell? ⟨bc,4,none⟩=some (.int .i64 c.cb))(U:W.cell? ⟨bc,5,none⟩=some (.slice na nn nc))
  (i:W.ownsRow base 65 6 (Value.slice va vn vc) vn xs) (P:base<=W) (j:vn<=100000) (Q:m<W) (r:(Value.slice va vn vc).ownBlock≠some m) :
  Dj.wpIn (Fence.wide.inRound l) n prog (mI (FrV (λF=>{ tmps:=List.toArray (c0 :: c1 :: c2 :: c3 :: c4 :: c5 :: c6 :: c7 :: c8 :: .pointer (some ⟨bc,0,none⟩) :: c10 :: c11 :: .pointer (some ⟨m,k,none⟩) :: c13 :: c14 :: c15 :: c16 :: c17 :: c18 :: c19 :: c20 :: c21 :: c22 :: c23 :: c24 :: c25 :: c26 :: c27 :: c28 :: c29 :: c30 :: c31 :: c32 :: c33 :: c34 :: c35 :: c36 :: c37 :: c38 :: c39 :: c40 :: c41 :: c42 :: c43 :: c44 :: c45 :: c46 :: c47 :: c48 :: c49 :: c50 :: c51 :: c52 :: c53 :: c54 :: c55 :: c56 :: c57 :: c58 :: c59 :: c60 :: c61 :: c62 :: c63 :: c64 :: c65 :: c66 :: c67 :: c68 :: F 69 :: F 70 :: F 71 :: F 72 :: F 73 :: F 74 :: F 75 :: F 76 :: F 77 :: F 78 :: F 79 :: F 80 :: w :: v :: t :: u :: s :: q :: p :: o :: y :: x :: c91 :: []),defers:=[] }) λ_ W'=>∃g f h,W'=h.setCell ⟨m,k+2,none⟩ (Value.slice (some ⟨g,0,none⟩) (vn+1) f)/\h.ownsRow base 65 6 (Value.slice (some ⟨g,0,none⟩) (vn+1) f) (vn+1) (xs++kk (c,.slice na nn nc))/\(W.alloc (rj c na nn nc)).grownBy h (Value.slice va vn vc).ownBlock/\((Value.slice va vn vc).ownBlock=some g\/g=(W.alloc (rj c na nn nc)).heap.size)))
   { tmps:=List.toArray (c0 :: c1 :: c2 :: c3 :: c4 :: c5 :: c6 :: c7 :: c8 :: .pointer (some ⟨bc,0,none⟩) :: c10 :: c11 :: .pointer (some ⟨m,k,none⟩) :: c13 :: c14 :: c15 :: c16 :: c17 :: c18 :: c19 :: c20 :: c21 :: c22 :: c23 :: c24 :: c25 :: c26 :: c27 :: c28 :: c29 :: c30 :: c31 :: c32 :: c33 :: c34 :: c35 :: c36 :: c37 :: c38 :: c39 :: c40 :: c41 :: c42 :: c43 :: c44 :: c45 :: c46 :: c47 :: c48 :: c49 :: c50 :: c51 :: c52 :: c53 :: c54 :: c55 :: c56 :: c57 :: c58 :: c59 :: c60 :: c61 :: c62 :: c63 :: c64 :: c65 :: c66 :: c67 :: c68 :: C :: H :: J :: D :: I :: A :: z :: M :: G :: L :: B :: E :: w :: v :: t :: u :: s :: q :: p :: o :: y :: x :: c91 :: []),defers:=[] } W:=by
 obtain⟨i0,hi,Hj,Hn,Hm⟩:=info_parts Dh;have Hf:=qI i;have Hl:=qI r;have R:=qI P;have Hg:=qI j;have O:=qI Q;clear i r P j Q
 conv=>enter [4];unfold Dj;whnf
 refine BN (S:=λ_=>True) (by kernel_rfl) (Df (by kernel_rfl)) (BM _) ?_;have d:(λ_:World=>True) W:=trivial;refine tk 0 ?_;refine tk 1 ?_;refine tk 2 ?_;refine tk 3 ?_;refine tk 4 ?_;refine rd2 5 6 (λK b=>?_) λK b=>?_
 focus
  go_simp
  go_wp2_with fail
  refine b.o _ _ trivial λd=>?_;clear b K;refine rd 6 λK b=>?_;go_simp
  go_wp2_with fail
  refine b.o _ _ trivial λd=>?_;clear b K;refine rd 7 λK b=>?_;go_simp
  go_wp2_with fail
  refine b.o _ _ trivial λd=>?_;clear b K
 rotate_left
 focus
  go_simp
  go_wp2_with fail
  refine b.o _ _ trivial λd=>?_;clear b K;refine rd2 5 7 (λK b=>?_) λK b=>?_
 focus
  go_simp
  go_wp2_with fail
  refine b.o _ _ trivial λd=>?_;clear b K;refine rd 7 λK b=>?_;go_simp
  go_wp2_with fail
  refine b.o _ _ trivial λd=>?_;clear b K
 rotate_left
 focus
  go_simp
  go_wp2_with fail
  refine b.o _ _ trivial λd=>?_;clear b K;have Hp:=dp N (rj c na nn nc);refine rd 5 λK b=>?_;go_simp
  go_wp2_with fail
  refine b.o _ _ trivial λd=>?_;clear b K
 all_goals
  refine rd 8 λK b=>?_;rw[if_pos (by rfl)];refine wp_append_lies _ _ _ 47 rfl base 65 i0 _ 6 72 underlying47 hi Hj Hn Hm rfl (by decide) (Value.slice va vn vc) vn xs rfl (Hf.o.alloc (rj c na nn nc)).drew W 1 1 (kk (c,.slice na nn nc)) rfl rfl (PR W c _ _) (PV c na nn nc) (by decide) (by have:=Hg.o;unfold maxLen;omega) (by have:=Hg.o;omega) (by have:=R.o;simp;omega) (W.alloc (rj c na nn nc)).heap.size rfl ?_;intro g f h Hb Hc Hh Ho;have Hc:=Dg Hc;have Ha:h.heap[m]?=W.heap[m]?:=(Hc.block m (Q1 O.o (by simp)) λe=>Hl.o e.symm).trans (Below.heap_alloc _ _ _ O.o);have Y:cl h m (k+2) (Value.slice va vn vc):=(World.cell?_of_block (a:=⟨m,k+2,none⟩) Ha).trans N;have y1:h.frozen? ⟨m,k+2,none⟩=false:=(World.frozen?_of_block (a:=⟨m,k+2,none⟩) Ha).trans hf;have He:=qI Hb;have Hi:=qI Hc;have Hk:=qI Hh;clear Hb Hc Hh Ha Ho;refine b.o _ _ trivial λd=>?_;clear b K;refine tk 9 ?_;refine tk 10 ?_;refine tk 11 ?_;refine rd 12 λK b=>?_;go_simp
  go_wp2_with fail
  refine b.o _ _ trivial λd=>?_;clear b K;refine Qn (by kernel_rfl) ?_ _;refine mI.mk (FrV.mk (by kernel_rfl) ?_);exact⟨g,f,h,rfl,He.o,Hi.o,Hk.o⟩
noncomputable def Dl:Code:=De 17 ((Tryz.f157.body.map ko).getD [])
abbrev rk:=λ(x0:aR) (x1:Option Addr) (x2 x3:Nat)=>(.cells #[.int .u64 x0.cp,.slice x1 x2 x3] 123:Obj)
theorem PZ{c0 N z r A t y o x s u p q w L D B G H C J E M I:Value}{k:Nat}{c:aR}(W:World)(O:W.cell? ⟨m,k+3,none⟩=some (Value.slice va vn vc))(hf:W.frozen? ⟨m,k+3,none⟩=false)(U:W.cell? bc=some (.int .u64 c.cp))(V:W.cell? ⟨bc,1,none⟩=some (.slice na nn nc))
  (i:W.ownsRow base 123 2 (Value.slice va vn vc) vn xs) (Q:base<=W) (j:vn<=100000) (R:m<W) (v:(Value.slice va vn vc).ownBlock≠some m) :
  Dl.wpIn (Fence.wide.inRound l) n prog (mI (FrV (λF=>{ tmps:=List.toArray (c0 :: c1 :: c2 :: c3 :: c4 :: c5 :: c6 :: c7 :: c8 :: N :: .pointer (some ⟨bc,0,none⟩) :: c11 :: .pointer (some ⟨m,k,none⟩) :: c13 :: c14 :: c15 :: c16 :: c17 :: c18 :: c19 :: c20 :: c21 :: c22 :: c23 :: c24 :: c25 :: c26 :: c27 :: c28 :: c29 :: c30 :: c31 :: c32 :: c33 :: c34 :: c35 :: c36 :: c37 :: c38 :: c39 :: c40 :: c41 :: c42 :: c43 :: c44 :: c45 :: c46 :: c47 :: c48 :: c49 :: c50 :: c51 :: c52 :: c53 :: c54 :: c55 :: c56 :: c57 :: c58 :: c59 :: c60 :: c61 :: c62 :: c63 :: c64 :: c65 :: c66 :: c67 :: c68 :: z :: r :: A :: t :: y :: o :: x :: s :: u :: p :: q :: w :: F 81 :: F 82 :: F 83 :: F 84 :: F 85 :: F 86 :: F 87 :: F 88 :: F 89 :: F 90 :: c91 :: []),defers:=[] }) λ_ W'=>∃g f h,W'=h.setCell ⟨m,k+3,none⟩ (Value.slice (some ⟨g,0,none⟩) (vn+1) f)/\h.ownsRow base 123 2 (Value.slice (some ⟨g,0,none⟩) (vn+1) f) (vn+1) (xs++jC (c,.slice na nn nc))/\(W.alloc (rk c na nn nc)).grownBy h (Value.slice va vn vc).ownBlock/\((Value.slice va vn vc).ownBlock=some g\/g=(W.alloc (rk c na nn nc)).heap.size)))
   { tmps:=List.toArray (c0 :: c1 :: c2 :: c3 :: c4 :: c5 :: c6 :: c7 :: c8 :: N :: .pointer (some ⟨bc,0,none⟩) :: c11 :: .pointer (some ⟨m,k,none⟩) :: c13 :: c14 :: c15 :: c16 :: c17 :: c18 :: c19 :: c20 :: c21 :: c22 :: c23 :: c24 :: c25 :: c26 :: c27 :: c28 :: c29 :: c30 :: c31 :: c32 :: c33 :: c34 :: c35 :: c36 :: c37 :: c38 :: c39 :: c40 :: c41 :: c42 :: c43 :: c44 :: c45 :: c46 :: c47 :: c48 :: c49 :: c50 :: c51 :: c52 :: c53 :: c54 :: c55 :: c56 :: c57 :: c58 :: c59 :: c60 :: c61 :: c62 :: c63 :: c64 :: c65 :: c66 :: c67 :: c68 :: z :: r :: A :: t :: y :: o :: x :: s :: u :: p :: q :: w :: L :: D :: B :: G :: H :: C :: J :: E :: M :: I :: c91 :: []),defers:=[] } W:=by
 obtain⟨i0,hi,Hj,Hn,Hm⟩:=info_parts Di;have Hf:=qI i;have Hl:=qI v;have T:=qI Q;have Hg:=qI j;have P:=qI R;clear i v Q j R
 conv=>enter [4];unfold Dl;whnf
 refine BN (S:=λ_=>True) (by kernel_rfl) (Df (by kernel_rfl)) (BM _) ?_;have d:(λ_:World=>True) W:=trivial;refine tk 0 ?_;refine tk 1 ?_;refine tk 2 ?_;refine tk 3 ?_;refine rd2 4 5 (λK b=>?_) λK b=>?_
 focus
  go_simp
  go_wp2_with fail
  refine b.o _ _ trivial λd=>?_;clear b K;refine rd 5 λK b=>?_;go_simp
  go_wp2_with fail
  refine b.o _ _ trivial λd=>?_;clear b K;refine rd 6 λK b=>?_;go_simp
  go_wp2_with fail
  refine b.o _ _ trivial λd=>?_;clear b K
 rotate_left
 focus
  go_simp
  go_wp2_with fail
  refine b.o _ _ trivial λd=>?_;clear b K;refine rd2 4 6 (λK b=>?_) λK b=>?_
 focus
  go_simp
  go_wp2_with fail
  refine b.o _ _ trivial λd=>?_;clear b K;refine rd 6 λK b=>?_;go_simp
  go_wp2_with fail
  refine b.o _ _ trivial λd=>?_;clear b K
 rotate_left
 focus
  go_simp
  go_wp2_with fail
  refine b.o _ _ trivial λd=>?_;clear b K;have Hp:=dp O (rk c na nn nc);refine rd 4 λK b=>?_;go_simp
  go_wp2_with fail
  refine b.o _ _ trivial λd=>?_;clear b K
 all_goals
  refine rd 7 λK b=>?_;rw[if_pos (by rfl)];refine wp_append_lies _ _ _ 99 rfl base 123 i0 _ 2 32 underlying99 hi Hj Hn Hm rfl (by decide) (Value.slice va vn vc) vn xs rfl (Hf.o.alloc (rk c na nn nc)).drew W 1 1 (jC (c,.slice na nn nc)) rfl rfl (PU W c _ _) (PX c na nn nc) (by decide) (by have:=Hg.o;unfold maxLen;omega) (by have:=Hg.o;omega) (by have:=T.o;simp;omega) (W.alloc (rk c na nn nc)).heap.size rfl ?_;intro g f h Hb Hc Hh Ho;have Hc:=Dg Hc;have Ha:h.heap[m]?=W.heap[m]?:=(Hc.block m (Q1 P.o (by simp)) λe=>Hl.o e.symm).trans (Below.heap_alloc _ _ _ P.o);have X:cl h m (k+3) (Value.slice va vn vc):=(World.cell?_of_block (a:=⟨m,k+3,none⟩) Ha).trans O;have Y:h.frozen? ⟨m,k+3,none⟩=false:=(World.frozen?_of_block (a:=⟨m,k+3,none⟩) Ha).trans hf;have He:=qI Hb;have Hi:=qI Hc;have Hk:=qI Hh;clear Hb Hc Hh Ha Ho;refine b.o _ _ trivial λd=>?_;clear b K;refine tk 8 ?_;refine tk 9 ?_;refine rd 10 λK b=>?_;go_simp
  go_wp2_with fail
  refine b.o _ _ trivial λd=>?_;clear b K;refine Qn (by kernel_rfl) ?_ _;refine mI.mk (FrV.mk (by kernel_rfl) ?_);exact⟨g,f,h,rfl,He.o,Hi.o,Hk.o⟩
theorem Dm(s:ByteArray):(Lib.splitB ⟨#[32]⟩ 0 (Lib.countB s ⟨#[32]⟩) s).map (·.data.toList)=aH 32 s.data.toList:=by
 rw[Lib.splitB_data];exact Oj 32 _ _ (lR)
theorem Dn(s:ByteArray):∀n,s.size<=n->(Lib.splitB ⟨#[32]⟩ 0 (Lib.countB s ⟨#[32]⟩) s).length=Lib.countB s ⟨#[32]⟩+1:=by
 intro n
 induction n generalizing s with
 | zero=>
  intro h
  rcases Lib.indexB_cases s ⟨#[32]⟩ with a|⟨i,a,b⟩
  ·rw[Lib.countB_miss s _ a];rfl
  ·exfalso;have:(ByteArray.mk #[32]).size=1:=rfl;omega
 | succ n ih=>
  intro h
  rcases Lib.indexB_cases s ⟨#[32]⟩ with a|⟨i,a,b⟩
  ·rw[Lib.countB_miss s _ a];rfl
  ·have c:(ByteArray.mk #[32]).size=1:=rfl;rw[Lib.countB_hit s _ i (by omega) a,Nat.add_comm 1,Lib.splitB_hit _ 0 _ s i a,Qg,ih _ (by rw[ByteArray.size_extract];omega)]
theorem P0(x:List UInt8)(w:World)(hs:x.length<=1000000)(a:cS w) :
  Calls prog 190 #[.string ⟨x.toArray⟩,.string ⟨#[32]⟩] w λe w'=>
   e=.returned (.slice w (aH 32 x).length (aH 32 x).length)/\px w' w (aH 32 x)/\Below w w w':=by
 obtain⟨m,a⟩:=a;have c:=Tryz.strings_Split ⟨x.toArray⟩ ⟨#[32]⟩ m w (by show x.length<_;omega) a (by decide);have b:Lib.countB ⟨x.toArray⟩ ⟨#[32]⟩+1=(aH 32 x).length:=by
  rw[<- Dn _ _ (lR),<- Q9 (·.data.toList),Dm]
 rw[b] at c;refine c.mono ?_;rintro e w' ⟨rfl,rfl⟩;refine⟨rfl,⟨by simp,λk d=>?_⟩,(Q0 _ _).alloc (lR) _⟩;have ag:=Dm ⟨x.toArray⟩;have Ha:k<(Lib.splitB ⟨#[32]⟩ 0 (Lib.countB ⟨x.toArray⟩ ⟨#[32]⟩) ⟨x.toArray⟩).length:=by rw[Dn _ _ (lR),b];exact d
 rw[World.cell?_alloc_new];have g:(aH 32 x)[k]?=some ((Lib.splitB ⟨#[32]⟩ 0 (Lib.countB ⟨x.toArray⟩ ⟨#[32]⟩) ⟨x.toArray⟩)[k].data.toList):=by
  rw[<- show (Lib.splitB ⟨#[32]⟩ 0 (Lib.countB ⟨x.toArray⟩ ⟨#[32]⟩) ⟨x.toArray⟩).map (·.data.toList)=aH 32 x from ag,List.getElem?_map,Qf Ha];rfl
 have f:ar (aH 32 x) k=(Lib.splitB ⟨#[32]⟩ 0 (Lib.countB ⟨x.toArray⟩ ⟨#[32]⟩) ⟨x.toArray⟩)[k].data.toList:=by
  unfold ar;rw[List.getD_eq_getElem?_getD,g];rfl
 rw[f,List.getElem?_toArray,List.getElem?_map,Qf Ha];rfl
def mR (t:List UInt8):List (List (List UInt8)):=(dm t).map λx=>aH 32 (Lib.trimSuffix x [10])
theorem P2(x:List UInt8):Lib.trimSuffix (x++[10]) [10]=x:=by simp[Lib.trimSuffix,Lib.hasSuffix]
theorem P3{x:List UInt8}(h:(10:UInt8) ∉ x):Lib.trimSuffix x [10]=x:=by
 unfold Lib.trimSuffix;rw[if_neg];intro hs
 have:[10] <:+ x:=by simpa[Lib.hasSuffix] using hs
 obtain⟨y,a⟩:=this;exact h (by rw[<- a];simp)
theorem P4(c:UInt8)(l:List UInt8):∀x∈aH c l,c ∉ x:=by induction l <;> grind[aH]
theorem P5(t:List UInt8):mR t=(qM t).map (aH 32):=by
 have Hc:=P4 10 t;have Ha:=nw 10 t;unfold mR dm qM;generalize aH 10 t=p at *;have b:(p.dropLast.map (·++[10])).map (λx=>aH 32 (Lib.trimSuffix x [10]))=p.dropLast.map (aH 32):=by
  rw[List.map_map];exact List.map_congr_left λx _=>by simp only[Function.comp,P2]
 by_cases h:p.getLast?=some []
 ·rw[if_pos h,if_pos h,List.append_nil,b]
 ·rw[if_neg h,if_neg h,Qj,b];obtain⟨l,a⟩:∃l,p.getLast?=some l:=⟨_,List.getLast?_eq_some_getLast Ha⟩;have ag:p.getLastD []=l:=by rw[List.getLastD_eq_getLast?,a];rfl
  have Hb:l∈p:=List.mem_of_getLast? a;rw[ag,List.map_singleton,P3 (Hc l Hb),<- List.map_singleton,<- Qj]
  congr 1
  rw[List.getLast?_eq_some_getLast Ha] at a;injection a with a
  rw[<- a];exact List.dropLast_concat_getLast Ha
theorem P7(t:List UInt8):gD t=eQ bW ct [] (mR t):=by rw[P5];rfl
