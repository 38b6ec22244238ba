/- What runs, listed: the contract of (*Engine).List. -/
import Derived.Test.YthekalhceamcoaaRK7
namespace Go.Proofs.Ythekalhceamcoaa
open Go.RowKit
/-- An engine: its disk, its map. -/
def EngAt (w : World) (Be Bd Bm : Nat) : Prop := w.heap[Be]? = some (.cells #[.pointer (some ⟨Bd, 0, none⟩), .map (some Bm)] 186 (0, 0))
theorem EngAt.lt {w : World} {Be Bd Bm : Nat} (h : EngAt w Be Bd Bm) : Be < w.heap.size := (Array.getElem?_eq_some_iff.1 h).1
theorem EngAt.cells {w : World} {Be Bd Bm : Nat} (h : EngAt w Be Bd Bm) : w.cell? ⟨Be, 0, none⟩ = some (.pointer (some ⟨Bd, 0, none⟩)) ∧ w.cell? ⟨Be, 1, none⟩ = some (.map (some Bm)) := by
  refine ⟨?_, ?_⟩ <;> simp [World.cell?, show w.heap[Be]? = _ from h]
theorem EngAt.block {w w' : World} {Be Bd Bm : Nat} (h : EngAt w Be Bd Bm) (hb : w'.heap[Be]? = w.heap[Be]?) : EngAt w' Be Bd Bm := hb.trans h
def fillAt (W : World) (g o : Nat) (x : RV) : World := (((W.setCell ⟨g, o, none⟩ (.string x.pod)).setCell ⟨g, o + 1, none⟩ (.string x.cont)).setCell ⟨g, o + 2, none⟩ (.int .u64 x.cpus)).setCell ⟨g, o + 3, none⟩ (.slice x.da x.dn x.dc)
theorem fillAt_far (W : World) (g o : Nat) (x : RV) (b p : Nat) (h : b ≠ g ∨ p < o ∨ o + 3 < p) : (fillAt W g o x).cell? ⟨b, p, none⟩ = W.cell? ⟨b, p, none⟩ := by
  unfold fillAt
  rw [World.cell?_setCell_other _ _ _ _ (by simp; omega), World.cell?_setCell_other _ _ _ _ (by simp; omega), World.cell?_setCell_other _ _ _ _ (by simp; omega), World.cell?_setCell_other _ _ _ _ (by simp; omega)]
theorem fillAt_frozen (W : World) (g o : Nat) (x : RV) (a : Addr) : (fillAt W g o x).frozen? a = W.frozen? a := by
  unfold fillAt
  simp only [World.frozen?_setCell]
def RowsR (w : World) (g : Nat) (ys : List RV) : Prop := ∀ k, k < ys.length → RCells w g k (rv ys k)
theorem fillAt_here {W : World} {g k : Nat} {z : RV} (h : RCells W g k z) (x : RV) : RCells (fillAt W g (k * 4) x) g k x := by
  obtain ⟨⟨c0, c1, c2, c3⟩, f0, f1, f2, f3⟩ := h
  refine ⟨⟨?_, ?_, ?_, ?_⟩, by rw [fillAt_frozen]; exact f0, by rw [fillAt_frozen]; exact f1, by rw [fillAt_frozen]; exact f2, by rw [fillAt_frozen]; exact f3⟩
  · unfold fillAt
    rw [World.cell?_setCell_other _ _ _ _ (by simp), World.cell?_setCell_other _ _ _ _ (by simp), World.cell?_setCell_other _ _ _ _ (by simp), World.cell?_setCell_same' _ _ _ (by rw [c0]; rfl)]
  · unfold fillAt
    rw [World.cell?_setCell_other _ _ _ _ (by simp), World.cell?_setCell_other _ _ _ _ (by simp), World.cell?_setCell_same' _ _ _ (by rw [World.cell?_setCell_other _ _ _ _ (by simp), c1]; rfl)]
  · unfold fillAt
    rw [World.cell?_setCell_other _ _ _ _ (by simp), World.cell?_setCell_same' _ _ _ (by rw [World.cell?_setCell_other _ _ _ _ (by simp), World.cell?_setCell_other _ _ _ _ (by simp), c2]; rfl)]
  · unfold fillAt
    rw [World.cell?_setCell_same' _ _ _ (by rw [World.cell?_setCell_other _ _ _ _ (by simp), World.cell?_setCell_other _ _ _ _ (by simp), World.cell?_setCell_other _ _ _ _ (by simp), c3]; rfl)]
theorem rv_set (ys : List RV) (k j : Nat) (x : RV) (hk : k < ys.length) : rv (ys.set k x) j = if j = k then x else rv ys j := by
  unfold rv
  by_cases e : j = k
  · subst e; simp [hk]
  · rw [if_neg e]; simp [Ne.symm e]
theorem RowsR.set {W : World} {g k : Nat} {ys : List RV} (h : RowsR W g ys) (hk : k < ys.length) (x : RV) : RowsR (fillAt W g (k * 4) x) g (ys.set k x) := fun j hj => by
  rw [rv_set ys k j x hk]
  by_cases e : j = k
  · subst e
    rw [if_pos rfl]
    exact fillAt_here (h j hk) x
  · rw [if_neg e]
    obtain ⟨⟨c0, c1, c2, c3⟩, f0, f1, f2, f3⟩ := h j (by simpa using hj)
    exact ⟨⟨(fillAt_far _ _ _ _ _ _ (by omega)).trans c0, (fillAt_far _ _ _ _ _ _ (by omega)).trans c1, (fillAt_far _ _ _ _ _ _ (by omega)).trans c2, (fillAt_far _ _ _ _ _ _ (by omega)).trans c3⟩, by rw [fillAt_frozen]; exact f0, by rw [fillAt_frozen]; exact f1, by rw [fillAt_frozen]; exact f2, by rw [fillAt_frozen]; exact f3⟩
theorem RowsR.block {W W' : World} {g : Nat} {ys : List RV} (h : RowsR W g ys) (hb : W'.heap[g]? = W.heap[g]?) : RowsR W' g ys := fun k hk => by
  obtain ⟨⟨c0, c1, c2, c3⟩, f0, f1, f2, f3⟩ := h k hk
  exact ⟨⟨(World.cell?_of_block (a := ⟨g, k * 4, none⟩) hb).trans c0, (World.cell?_of_block (a := ⟨g, k * 4 + 1, none⟩) hb).trans c1, (World.cell?_of_block (a := ⟨g, k * 4 + 2, none⟩) hb).trans c2, (World.cell?_of_block (a := ⟨g, k * 4 + 3, none⟩) hb).trans c3⟩, (World.frozen?_of_block (a := ⟨g, k * 4, none⟩) hb).trans f0, (World.frozen?_of_block (a := ⟨g, k * 4 + 1, none⟩) hb).trans f1, (World.frozen?_of_block (a := ⟨g, k * 4 + 2, none⟩) hb).trans f2, (World.frozen?_of_block (a := ⟨g, k * 4 + 3, none⟩) hb).trans f3⟩
theorem below_fillAt {w W : World} {K g : Nat} (h : Below K w W) (hK : K ≤ g) (o : Nat) (x : RV) : Below K w (fillAt W g o x) :=
  (((h.setCell (p := ⟨g, o, none⟩) hK _).setCell (p := ⟨g, o + 1, none⟩) hK _).setCell (p := ⟨g, o + 2, none⟩) hK _).setCell (p := ⟨g, o + 3, none⟩) hK _
theorem fillAt_block (W : World) (g o : Nat) (x : RV) (b : Nat) (h : b ≠ g) : (fillAt W g o x).heap[b]? = W.heap[b]? := by
  unfold fillAt
  rw [Below.heap_setCell _ _ _ b h, Below.heap_setCell _ _ _ b h, Below.heap_setCell _ _ _ b h, Below.heap_setCell _ _ _ b h]
/-- Its devices lie elsewhere. -/
def Away (g : Nat) (y : RV) : Prop := 0 < y.dn → ∀ g' o', y.da = some ⟨g', o', none⟩ → g' ≠ g
theorem rv_mem {ys : List RV} {k : Nat} (h : k < ys.length) : rv ys k ∈ ys := by simp [rv, h]
theorem order_same {ys qs : List RV} (hl : ys.length = qs.length) (h : ∀ j, j < qs.length → (rv ys j).pod = (rv qs j).pod ∧ (rv ys j).cont = (rv qs j).cont) (ho : InOrder qs) : InOrder ys := by
  unfold InOrder at *
  rw [List.pairwise_iff_getElem] at *
  intro i j hi hj hij
  have h1 := ho i j (by omega) (by omega) hij
  have e1 := h i (by omega)
  have e2 := h j (by omega)
  have hi' : i < qs.length := by omega
  have hj' : j < qs.length := by omega
  simp [rv, hi, hj, hi', hj'] at e1 e2
  unfold cfR at *
  rw [e1.1, e1.2, e2.1, e2.2]
  exact h1
end Go.Proofs.Ythekalhceamcoaa
