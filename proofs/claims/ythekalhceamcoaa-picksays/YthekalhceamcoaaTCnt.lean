/- What (*Topo).Count and the document's CountOn answer: contracts. -/
import Derived.Test.YthekalhceamcoaaTCho
namespace Go.Proofs.Ythekalhceamcoaa
open Go.RowKit
open Ost (Cpu cpu0 chosenTo chosen)
/-- How many of the first ones are of a set and on a node. -/
def cntTo (s : Nat) (l : List Cpu) (j : Int) : Nat → Nat
  | 0 => 0
  | k + 1 => if (s.testBit k && decide ((l.getD k cpu0).node = j)) = true then cntTo s l j k + 1 else cntTo s l j k
theorem cntTo_yes {s : Nat} {l : List Cpu} {k : Nat} {j : Int} (h : s.testBit k = true) (hj : (l.getD k cpu0).node = j) : cntTo s l j (k + 1) = cntTo s l j k + 1 := by
  rw [cntTo, if_pos (by rw [h, hj]; simp)]
theorem cntTo_other {s : Nat} {l : List Cpu} {k : Nat} {j : Int} (hj : (l.getD k cpu0).node ≠ j) : cntTo s l j (k + 1) = cntTo s l j k := by
  rw [cntTo, if_neg (by simp only [decide_eq_false hj, Bool.and_false]; simp)]
theorem cntTo_out {s : Nat} {l : List Cpu} {k : Nat} {j : Int} (h : s.testBit k = false) : cntTo s l j (k + 1) = cntTo s l j k := by
  rw [cntTo, if_neg (by rw [h]; simp)]
theorem cntTo_le (s : Nat) (l : List Cpu) (j : Int) (k : Nat) : cntTo s l j k ≤ k := by
  induction k with
  | zero => exact Nat.le_refl _
  | succ k ih => rw [cntTo]; split <;> omega
/-- Four cells of numbers, all its own. -/
structure Four (w : World) (B : Nat) (a b c d : Int) : Prop where
  c0 : w.cell? ⟨B, 0, none⟩ = some (.int .i64 a)
  c1 : w.cell? ⟨B, 1, none⟩ = some (.int .i64 b)
  c2 : w.cell? ⟨B, 2, none⟩ = some (.int .i64 c)
  c3 : w.cell? ⟨B, 3, none⟩ = some (.int .i64 d)
  f0 : w.frozen? ⟨B, 0, none⟩ = false
  f1 : w.frozen? ⟨B, 1, none⟩ = false
  f2 : w.frozen? ⟨B, 2, none⟩ = false
  f3 : w.frozen? ⟨B, 3, none⟩ = false
theorem Four.lt {w : World} {B : Nat} {a b c d : Int} (h : Four w B a b c d) : B < w.heap.size := World.block_lt_of_cell? w _ h.c0
theorem Four.below {w w' : World} {B K : Nat} {a b c d : Int} (h : Four w B a b c d) (hb : Below K w w') (hK : B < K) : Four w' B a b c d :=
  ⟨(hb.cell (p := ⟨B, 0, none⟩) hK).trans h.c0, (hb.cell (p := ⟨B, 1, none⟩) hK).trans h.c1, (hb.cell (p := ⟨B, 2, none⟩) hK).trans h.c2, (hb.cell (p := ⟨B, 3, none⟩) hK).trans h.c3,
   (hb.frozen (p := ⟨B, 0, none⟩) hK).trans h.f0, (hb.frozen (p := ⟨B, 1, none⟩) hK).trans h.f1, (hb.frozen (p := ⟨B, 2, none⟩) hK).trans h.f2, (hb.frozen (p := ⟨B, 3, none⟩) hK).trans h.f3⟩
theorem Four.made (w : World) (t : TypeId) (a b c d : Int) : Four (w.alloc (.cells #[.int .i64 a, .int .i64 b, .int .i64 c, .int .i64 d] t)) w.heap.size a b c d := by
  constructor <;> simp
theorem Four.alloc {w : World} {B : Nat} {a b c d : Int} (h : Four w B a b c d) (o : Obj) : Four (w.alloc o) B a b c d :=
  h.below ((Below.refl _ _).alloc (Nat.le_refl _) _) h.lt
theorem Four.set_other {w : World} {B : Nat} {a b c d : Int} (h : Four w B a b c d) {p : Addr} (hp : B ≠ p.block) (v : Value) : Four (w.setCell p v) B a b c d := by
  have e : (w.setCell p v).heap[B]? = w.heap[B]? := Below.heap_setCell _ _ _ _ hp
  exact ⟨(World.cell?_of_block (w := w) (a := ⟨B, 0, none⟩) e).trans h.c0, (World.cell?_of_block (w := w) (a := ⟨B, 1, none⟩) e).trans h.c1, (World.cell?_of_block (w := w) (a := ⟨B, 2, none⟩) e).trans h.c2, (World.cell?_of_block (w := w) (a := ⟨B, 3, none⟩) e).trans h.c3,
    (World.frozen?_of_block (w := w) (a := ⟨B, 0, none⟩) e).trans h.f0, (World.frozen?_of_block (w := w) (a := ⟨B, 1, none⟩) e).trans h.f1, (World.frozen?_of_block (w := w) (a := ⟨B, 2, none⟩) e).trans h.f2, (World.frozen?_of_block (w := w) (a := ⟨B, 3, none⟩) e).trans h.f3⟩
theorem Four.set0 {w : World} {B : Nat} {a b c d : Int} (h : Four w B a b c d) (x : Int) : Four (w.setCell ⟨B, 0, none⟩ (.int .i64 x)) B x b c d := by
  obtain ⟨c0, c1, c2, c3, f0, f1, f2, f3⟩ := h
  constructor <;> first | exact World.frozen?_setCell.trans (by assumption) | go_simp
theorem Four.set1 {w : World} {B : Nat} {a b c d : Int} (h : Four w B a b c d) (x : Int) : Four (w.setCell ⟨B, 1, none⟩ (.int .i64 x)) B a x c d := by
  obtain ⟨c0, c1, c2, c3, f0, f1, f2, f3⟩ := h
  constructor <;> first | exact World.frozen?_setCell.trans (by assumption) | go_simp
theorem Four.set2 {w : World} {B : Nat} {a b c d : Int} (h : Four w B a b c d) (x : Int) : Four (w.setCell ⟨B, 2, none⟩ (.int .i64 x)) B a b x d := by
  obtain ⟨c0, c1, c2, c3, f0, f1, f2, f3⟩ := h
  constructor <;> first | exact World.frozen?_setCell.trans (by assumption) | go_simp
theorem Four.set3 {w : World} {B : Nat} {a b c d : Int} (h : Four w B a b c d) (x : Int) : Four (w.setCell ⟨B, 3, none⟩ (.int .i64 x)) B a b c x := by
  obtain ⟨c0, c1, c2, c3, f0, f1, f2, f3⟩ := h
  constructor <;> first | exact World.frozen?_setCell.trans (by assumption) | go_simp
theorem has_in (A n : Nat) (w : World) (hA : A < 18446744073709551616) (hn : n < 64) :
    Calls Try.prog 178 #[.int .u64 A, .int .i64 n] w fun e w' => e = .returned (.bool (A.testBit n)) ∧ w' = w := by
  have HB := bit_eq A n hA
  go_enter Try.func178, Try.ntmps178
  go_wp2_with go_in
  go_ret
  exact ⟨rfl, rfl⟩
theorem results_cell {fn : Func} {p : Tmp} {ty : TypeId} (h : fn.results = #[.cell p ty]) (tmps : Array Value) (P : Program) (w : World) :
    (results fn tmps).run P w = ((asAddr (tmps.getD p undef)).run P w).andThen fun a w₁ => (loadVar ty a).run P w₁ := by
  simp only [results, h]
  simp [Sem.run_bind, Result.andThen]
/-- So many on each node. -/
def cntV (s : Nat) (l : List Cpu) (k : Nat) : Value := .agg #[.int .i64 (cntTo s l 0 k : Nat), .int .i64 (cntTo s l 1 k : Nat), .int .i64 (cntTo s l 2 k : Nat), .int .i64 (cntTo s l 3 k : Nat)]
end Go.Proofs.Ythekalhceamcoaa
