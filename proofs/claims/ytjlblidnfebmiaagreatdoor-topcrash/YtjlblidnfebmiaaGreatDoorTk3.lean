/- One step of a region that draws, in short. -/
import Derived.Test.YtjlblidnfebmiaaGreatDoorRows
import Derived.Deep.RegionHeld3
import Derived.WalkKit
import Derived.WalkSpells
import Derived.WalkLawsBesides
import Derived.BigQuiet
open Go
namespace Go
theorem Calls.m {P:Program} {k:FuncId} {a:Array Value} {w:World} {v:Value} {A:World->Prop} {R:Ending->World->Prop} (h:Calls P k a w λe w'=>e=.returned v/\A w') (f:∀ w',A w'->R (.returned v) w'):Calls P k a w R:=h.mono λe w' ⟨he,ha⟩=>by subst he; exact f w' ha
theorem Calls.e {P:Program} {k:FuncId} {a:Array Value} {w:World} {v:Value} {R:Ending->World->Prop} (h:Calls P k a w λe w'=>e=.returned v/\w'=w) (f:R (.returned v) w):Calls P k a w R:=h.mono λe w' ⟨he,ha⟩=>by subst he ha; exact f
end Go
namespace Go.Proofs.YtjlblidnfebmiaaGreatDoor
def Hu (p:Prop):Prop:=p
theorem Hu.o {p:Prop} (h:Hu p):p:=h
theorem Hu.out {p:Prop} (h:Hu p):p:=h
instance:Coe Nat Addr:=⟨λb=>⟨b,0,none⟩⟩
instance:Coe Nat Value:=⟨λb=>.pointer (some ⟨b,0,none⟩)⟩
instance:Coe ByteArray Value:=⟨.string⟩
instance:Coe Bool Value:=⟨.bool⟩
instance:Coe Int Value:=⟨.int .i64⟩
instance:Coe Unit Value:=⟨λ_=>.slice none 0 0⟩
instance:Coe World Nat:=⟨λw=>w.heap.size⟩
abbrev cl (w:World) (b o:Nat) (v:Value):Prop:=w.cell? ⟨b,o,none⟩=some v
theorem lR {n:Nat}:n<=n:=Nat.le_refl n
theorem gS {α:Type} {xs:Array α} {i:Nat} {a:α} (h:xs[i]?=some a):∃ h:i<xs.size,xs[i]=a:=Array.getElem?_eq_some_iff.1 h
theorem s1 {α:Type} {l:List α} {i:Nat} {a:α}:l.toArray.setIfInBounds i a=(l.set i a).toArray:=List.setIfInBounds_toArray ..
theorem s2 {α:Type} {x:α} {l:List α} {a:α}:(x :: l).set 0 a=a :: l:=List.set_cons_zero
theorem s3 {α:Type} {x:α} {l:List α} {n:Nat} {a:α}:(x :: l).set (n + 1) a=x :: l.set n a:=List.set_cons_succ
section
open Go Go.RowKit
noncomputable abbrev pg:Program:=Tryz.prog
abbrev Bw (w x:World):Prop:=Below w.heap.size w x
abbrev CB (k:FuncId) (a:Array Value) (w:World) (v:Value):Prop:=Calls pg k a w λe w'=>e=.returned v/\Below w.heap.size w w'
abbrev CE (k:FuncId) (a:Array Value) (w:World) (v:Value):Prop:=Calls pg k a w λe w'=>e=.returned v/\w'=w
theorem Hu.k {α:Type} {S:World->Prop} {f g:α->World->Prop} {a:α} {w:World} (h:Hu (∀ a w,S w->(S w->f a w)->g a w)) (s:S w) (k:S w->f a w):g a w:=h.o a w s k
theorem cb {W:World} {B:Nat} {cs:Array Value} {t:TypeId} {v:Value} (h:W.heap[B]?=some (.cells cs t (0,0))) (j:Nat) (e:cs[j]?=some v:=by rfl):W.cell? ⟨B,j,none⟩=some v:=by
 rw [← e]; simp [World.cell?,h]
theorem c2 {W:World} {B:Nat} {t:TypeId} {a b:Value} (h:W.heap[B]?=some (.cells #[a,b] t (0,0))):W.cell? ⟨B,0,none⟩=some a/\W.cell? ⟨B,1,none⟩=some b:=⟨cb h 0,cb h 1⟩
theorem c3 {W:World} {B:Nat} {t:TypeId} {a b c:Value} (h:W.heap[B]?=some (.cells #[a,b,c] t (0,0))):W.cell? ⟨B,0,none⟩=some a/\W.cell? ⟨B,1,none⟩=some b/\W.cell? ⟨B,2,none⟩=some c:=⟨cb h 0,cb h 1,cb h 2⟩
theorem c4 {W:World} {B:Nat} {t:TypeId} {a b c d:Value} (h:W.heap[B]?=some (.cells #[a,b,c,d] t (0,0))):W.cell? ⟨B,0,none⟩=some a/\W.cell? ⟨B,1,none⟩=some b/\W.cell? ⟨B,2,none⟩=some c/\W.cell? ⟨B,3,none⟩=some d:=⟨cb h 0,cb h 1,cb h 2,cb h 3⟩
theorem c5 {W:World} {B:Nat} {t:TypeId} {a b c d e:Value} (h:W.heap[B]?=some (.cells #[a,b,c,d,e] t (0,0))):W.cell? ⟨B,0,none⟩=some a/\W.cell? ⟨B,1,none⟩=some b/\W.cell? ⟨B,2,none⟩=some c/\W.cell? ⟨B,3,none⟩=some d/\W.cell? ⟨B,4,none⟩=some e:=⟨cb h 0,cb h 1,cb h 2,cb h 3,cb h 4⟩
theorem Hu.t {w x y:World} (h:Hu (Below w.heap.size w x)) (k:Below x.heap.size x y):Hu (Below w.heap.size w y):=h.o.trans (k.mono h.o.size)
theorem Q0:∀ (B:Nat) (w:World),Below B w w:=@Below.refl
theorem Q1:∀ {n m k:Nat},n<m->m<=k->n<k:=@Nat.lt_of_lt_of_le
theorem Q2:∀ {α:Type} {xs bs:List α},(xs ++ bs).length=xs.length + bs.length:=@List.length_append
theorem Q3:∀ (w:World) (a:Addr) {u:Value},w.cell? a=some u->a.block<w.heap.size:=@World.block_lt_of_cell?
theorem Q5:∀ {n m k:Nat},n<=m->m<=k->n<=k:=@Nat.le_trans
theorem Q6:∀ {w w':World} {a:Addr},w'.heap[a.block]?=w.heap[a.block]?->w'.cell? a=w.cell? a:=@World.cell?_of_block
theorem Q7:∀ {p:Prop} [Decidable p],¬p->decide p=false:=@decide_eq_false
theorem Q9:∀ {α:Type} {β:Type} {xs:List α} (f:α->β),(List.map f xs).length=xs.length:=@List.length_map
theorem Qa:∀ {α:Type} {i:Nat} {l:List α} (h:i<l.length),List.take (i + 1) l=List.take i l ++ [l[i]]:=@List.take_succ_eq_append_getElem
theorem Qb:∀ (w:World) (a b:Addr) (v:Value),a ≠ b->(w.setCell a v).cell? b=w.cell? b:=@World.cell?_setCell_other
theorem Qc:∀ {p:Prop} [Decidable p],p->decide p=true:=@decide_eq_true
theorem Qd:∀ (n:Nat),0 + n=n:=@Nat.zero_add
theorem Qe:∀ {α:Type} {l:List α},l.length=0->l=[]:=@List.eq_nil_of_length_eq_zero
theorem Qf:∀ {α:Type} {l:List α} {i:Nat} (h:i<l.length),l[i]?=some l[i]:=@List.getElem?_eq_getElem
theorem Qg:∀ {α:Type} {a:α} {xs:List α},(a :: xs).length=xs.length + 1:=@List.length_cons
theorem Qh:∀ {α:Type} {l:List α},List.take l.length l=l:=@List.take_length
theorem Qi:∀ {α:Type} {a:α} {s t:List α},a ∈ s ++ t ↔ a ∈ s ∨ a ∈ t:=@List.mem_append
theorem Qj:∀ {α:Type} {β:Type} {f:α->β} {l₁ l₂:List α},List.map f (l₁ ++ l₂)=List.map f l₁ ++ List.map f l₂:=@List.map_append
theorem Qk:∀ {α:Type} {β:Type} {b:β} {f:α->β} {l:List α},b ∈ List.map f l ↔ ∃ (a:α),a ∈ l/\f a=b:=@List.mem_map
theorem Ql:∀ {α:Type} {val val_1:α},some val=some val_1->val=val_1:=@Option.some.inj
theorem Qm:∀ {α:Type} {a b:α},a ∈ [b] ↔ a=b:=@List.mem_singleton
theorem Qn:∀ {P:Program} {ops:Array Oper} {Q:Exit->Act->World->Prop} {md:Region.Mode} {S:World->Prop} {listed:Array Bool} {a:Act} {w:World},Region.ready md ops listed=[]->Q Exit.normal a w->∀ (fuel:Nat),wpAnyH P md ops Q S fuel listed a w:=@wpAnyH_done
theorem Qo:∀ {P:Program} {ops:Array Oper} {Q:Exit->Act->World->Prop} {S:World->Prop} {id:Nat} {a:Act} {w:World},P.follows Departure.mixedOrders=true->S w.drew->(S w.drew->wpAnyH P Region.Mode.any ops Q S ops.size (Array.replicate ops.size false) a w.drew)->Code.wp P (Code.region id ops true) Q a w:=@wp_region_held_drew
theorem Qp:∀ {p:Prop} [Decidable p],(decide p=true)=p:=@decide_eq_true_eq
theorem Qq:∀ {α:Type} {β:Type} {f:α->β} {a:α} {l:List α},List.map f (a :: l)=f a :: List.map f l:=@List.map_cons
theorem Qr:∀ {α:Type} [BEq α] [LawfulBEq α] {a b:α},(a == b)=false ↔ a ≠ b:=@beq_eq_false_iff_ne
theorem Qs:∀ (bs:ByteArray),bs.toList=bs.data.toList:=@ByteArray.toList_eq
theorem Qt:∀ {p:Prop},(¬p->False)->p:=@Classical.byContradiction
theorem Qu:∀ {α:Type} {i:Nat} {l:List α},(List.take i l).length=min i l.length:=@List.length_take
theorem Qv:∀ {α:Type} (y:α) {a:α} {l:List α},a ∈ l->a ∈ y :: l:=@List.mem_cons_of_mem
theorem Qw:∀ (w:World) (base:Nat) (e:TypeId) (size:Nat),w.ownsRow base e size (Value.slice none 0 0) 0 []:=@World.ownsRow_nil
theorem Qx:∀ {P:Program} {fn:Func} {R:Ending->World->Prop} {a:Act} {w:World} {v:Value},Sem.run P (results fn a.tmps) w=Result.ok v w->a.defers=[]->R (Ending.returned v) w->bodyPost P fn R Exit.ret a w:=@bodyPost_ret
end
section
variable {P:Program} {md:Region.Mode} {ops:Array Oper} {Q:Exit->Act->World->Prop} {S:World->Prop} {oi:Oper} {v:Value} {fuel:Nat} {listed:Array Bool} {a:Act} {w:World}
theorem tk (i:Nat) {a':Act} {l':Array Bool} (h:wpAnyH P md ops Q S fuel l' a' w) {r:List Oper} (hi:ops.toList.drop i=oi :: r:=by rfl) (hb:(Region.noSelect ops && (Region.free md ops listed i && (Region.ready md ops listed).contains i))=true:=by kernel_rfl) (hw:Region.wanted oi (yielded ops a.tmps)=true:=by rfl) (hy:∀ w,S w->(execOp a.eval oi).run P w=.ok (.value v) w:=by (intro w' h; go_simp; first|done|rfl|(rw [if_neg (by omega)]))) (hQ:∀ c a w,Q (.panic c) (a.put oi.dst v) w->Q (.panic c) a w:=by exact λ_ _ _ h=>h) (ha:a.put oi.dst v=a':=by first|(simp only [Act.put,s1,s2,s3]; done)|(simp only [Act.put,s1,s2,s3]; rfl)|rfl) (hl:listed.setIfInBounds i true=l':=by first|(simp only [s1,s2,s3]; done)|(simp only [s1,s2,s3]; rfl)|rfl) (hS:S w:=by assumption):wpAnyH P md ops Q S (fuel + 1) listed a w:=by
 subst ha hl
 simp only [Bool.and_eq_true] at hb
 have hi':ops[i]?=some oi:=by
  have:=congrArg (·[0]?) hi
  simpa using this
 exact wpAnyH_take hi' hb.1 hb.2.1 hb.2.2 hQ (.inl ⟨hw,hy⟩) hS h
theorem ts (i:Nat) {a':Act} {l':Array Bool} (h:wpAnyH P md ops Q S fuel l' a' w) {r:List Oper} (hi:ops.toList.drop i=oi :: r:=by rfl) (hb:(Region.noSelect ops && (Region.free md ops listed i && (Region.ready md ops listed).contains i))=true:=by kernel_rfl) (hw:Region.wanted oi (yielded ops a.tmps)=false:=by rfl) (hQ:∀ c a w,Q (.panic c) (a.put oi.dst undef) w->Q (.panic c) a w:=by exact λ_ _ _ h=>h) (ha:a.put oi.dst undef=a':=by first|(simp only [Act.put,s1,s2,s3]; done)|(simp only [Act.put,s1,s2,s3]; rfl)|rfl) (hl:listed.setIfInBounds i true=l':=by first|(simp only [s1,s2,s3]; done)|(simp only [s1,s2,s3]; rfl)|rfl) (hS:S w:=by assumption):wpAnyH P md ops Q S (fuel + 1) listed a w:=by
 subst ha hl
 simp only [Bool.and_eq_true] at hb
 have hi':ops[i]?=some oi:=by
  have:=congrArg (·[0]?) hi
  simpa using this
 exact wpAnyH_take hi' hb.1 hb.2.1 hb.2.2 hQ (.inr ⟨hw,rfl⟩) hS h
def Sp (P:Program) (md:Region.Mode) (ops:Array Oper) (Q:Exit->Act->World->Prop) (S:World->Prop):List Nat->Nat->Array Bool->Act->Nat->Array Bool->Act->Prop
 | [],f,l,a,f',l',a'=>f=f'/\l=l'/\a=a'
 | _ :: is,f,l,a,f',l',a'=>∃ g m b,(∀ w,S w->wpAnyH P md ops Q S g m b w->wpAnyH P md ops Q S f l a w)/\Sp P md ops Q S is g m b f' l' a'
theorem Sp.n {f:Nat}:Sp P md ops Q S [] f listed a f listed a:=⟨rfl,rfl,rfl⟩
theorem Sp.c {i:Nat} {is:List Nat} {g f':Nat} {l m l':Array Bool} {b a':Act} {r:List Oper} (hi:ops.toList.drop i=oi :: r) (hb:(Region.noSelect ops && (Region.free md ops l i && (Region.ready md ops l).contains i))=true) (hw:Region.wanted oi (yielded ops a.tmps)=true) (hy:∀ w,S w->(execOp a.eval oi).run P w=.ok (.value v) w) (hQ:∀ c a w,Q (.panic c) (a.put oi.dst v) w->Q (.panic c) a w) (ha:a.put oi.dst v=b) (hl:l.setIfInBounds i true=m) (s:Sp P md ops Q S is g m b f' l' a'):Sp P md ops Q S (i :: is) (g + 1) l a f' l' a':=⟨g,m,b,λ_ hS h=>tk i h hi hb hw hy hQ ha hl hS,s⟩
theorem tn (is:List Nat) {f':Nat} {l':Array Bool} {a':Act} (h:wpAnyH P md ops Q S f' l' a' w) (s:Sp P md ops Q S is fuel listed a f' l' a':=by repeat (first|exact Sp.n|refine Sp.c (by rfl) (by kernel_rfl) (by rfl) (by (intro w' h; go_simp; first|done|rfl|(rw [if_neg (by omega)]))) (by exact λ_ _ _ h=>h) (by first|(simp only [Act.put,s1,s2,s3]; done)|(simp only [Act.put,s1,s2,s3]; rfl)|rfl) (by first|(simp only [s1,s2,s3]; done)|(simp only [s1,s2,s3]; rfl)|rfl) ?_)) (hS:S w:=by assumption):wpAnyH P md ops Q S fuel listed a w:=by
 induction is generalizing fuel listed a with
 | nil=>obtain ⟨rfl,rfl,rfl⟩:=s; exact h
 | cons i is ih=>obtain ⟨g,m,b,k,s⟩:=s; exact k w hS (ih s)
theorem tq (i:Nat) (hy:∀ w,S w->(execOp a.eval oi).run P w=.ok (.value v) w) (h:wpAnyH P md ops Q S fuel (listed.setIfInBounds i true) (a.put oi.dst v) w) {r:List Oper} (hi:ops.toList.drop i=oi :: r:=by rfl) (hb:(Region.noSelect ops && (Region.free md ops listed i && (Region.ready md ops listed).contains i))=true:=by kernel_rfl) (hQ:∀ c a w,Q (.panic c) (a.put oi.dst v) w->Q (.panic c) a w:=by exact λ_ _ _ h=>h) (hw:Region.wanted oi (yielded ops a.tmps)=true:=by rfl) (hS:S w:=by assumption):wpAnyH P md ops Q S (fuel + 1) listed a w:=by
 simp only [Bool.and_eq_true] at hb
 have hi':ops[i]?=some oi:=by
  have:=congrArg (·[0]?) hi
  simpa using this
 exact wpAnyH_take hi' hb.1 hb.2.1 hb.2.2 hQ (.inl ⟨hw,hy⟩) hS h
theorem rd (i:Nat) (h:∀ K':Act->World->Prop,Hu (∀ a w,S w->(S w->wpAnyH P md ops Q S fuel (listed.setIfInBounds i true) a w)->K' a w)->if Region.wanted oi (yielded ops a.tmps)=true then Oper.wp P oi a w K' Q else K' (a.put oi.dst undef) w) {r:List Oper} (hi:ops.toList.drop i=oi :: r:=by rfl) (hr:Region.ready md ops listed=[i]:=by kernel_rfl):wpAnyH P md ops Q S (fuel + 1) listed a w:=by
 have hi':ops[i]?=some oi:=by
  have:=congrArg (·[0]?) hi
  simpa using this
 exact wpAnyH_ready hr (by simp) (AllReadyH.cons hi' h AllReadyH.nil)
theorem rd2 (i j:Nat) {oj:Oper} (h:∀ K':Act->World->Prop,Hu (∀ a w,S w->(S w->wpAnyH P md ops Q S fuel (listed.setIfInBounds i true) a w)->K' a w)->if Region.wanted oi (yielded ops a.tmps)=true then Oper.wp P oi a w K' Q else K' (a.put oi.dst undef) w) (g:∀ K':Act->World->Prop,Hu (∀ a w,S w->(S w->wpAnyH P md ops Q S fuel (listed.setIfInBounds j true) a w)->K' a w)->if Region.wanted oj (yielded ops a.tmps)=true then Oper.wp P oj a w K' Q else K' (a.put oj.dst undef) w) {r q:List Oper} (hi:ops.toList.drop i=oi :: r:=by rfl) (hj:ops.toList.drop j=oj :: q:=by rfl) (hr:Region.ready md ops listed=[i,j]:=by kernel_rfl):wpAnyH P md ops Q S (fuel + 1) listed a w:=by
 have hi':ops[i]?=some oi:=by
  have:=congrArg (·[0]?) hi
  simpa using this
 have hj':ops[j]?=some oj:=by
  have:=congrArg (·[0]?) hj
  simpa using this
 exact wpAnyH_ready hr (by simp) (AllReadyH.cons hi' h (AllReadyH.cons hj' g AllReadyH.nil))
end
theorem zq1 {w:World} {g j:Nat} {a:Array Value} {e:TypeId} {v:Value} (h:w.heap[g]?=some (.cells a e (0,0))) (d:a[j]?=some v):w.cell? ⟨g,j,none⟩=some v:=by grind [World.cell?]
theorem zq2 {w:World} {g j:Nat} {a:Array Value} {e:TypeId} (h:w.heap[g]?=some (.cells a e (0,0))):w.frozen? ⟨g,j,none⟩=false:=by grind [World.frozen?]
end Go.Proofs.YtjlblidnfebmiaaGreatDoor
