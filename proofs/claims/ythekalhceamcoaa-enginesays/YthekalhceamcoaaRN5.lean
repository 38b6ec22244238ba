/- The list of 'EngineSays', one taken out, and two that change places. -/
import Derived.Test.YthekalhceamcoaaRN4
namespace Go.Proofs.Ythekalhceamcoaa
open Go.RowKit
theorem part_row {base : Nat} {w : World} {v : Value} {rs : List RV} {j : Nat} (hj : j ≤ rs.length) (h : w.ownsRow base 119 4 v (0 + j) ([] ++ ((rs.drop 0).take j).flatMap RV.cells)) : RRow base w v (rs.take j) := by
  unfold RRow
  rw [List.length_take, Nat.min_eq_left hj]
  simpa using h
theorem erased_row {base : Nat} {w : World} {v : Value} {rs : List RV} {j : Nat} (hj : j < rs.length) (h : w.ownsRow base 119 4 v (0 + j + (rs.length - (j + 1))) (([] ++ ((rs.drop 0).take j).flatMap RV.cells) ++ ((rs.drop (j + 1)).take (rs.length - (j + 1))).flatMap RV.cells)) : RRow base w v (rs.eraseIdx j) := by
  have e : rs.eraseIdx j = rs.take j ++ rs.drop (j + 1) := List.eraseIdx_eq_take_drop_succ rs j
  unfold RRow
  rw [e, List.length_append, List.length_take, List.length_drop, Nat.min_eq_left (by omega), List.flatMap_append]
  rw [List.drop_zero, List.nil_append, Nat.zero_add, List.take_of_length_le (l := rs.drop (j + 1)) (by simp)] at h
  exact h
theorem rv_ins_other (rs : List RV) {k : Nat} (x y : RV) (h : k + 1 ≤ rs.length) : rv ((insAt rs (k + 1) x).set (k + 1) y) k = rv rs k := by
  have := ins_before rs x h (Nat.lt_succ_self k)
  unfold rv at *
  rw [← this]
  simp [List.getD_eq_getElem?_getD]
/-- Both have changed places. -/
theorem row_swap {base : Nat} {W : World} {g cap : Nat} {rs : List RV} {k : Nat} {x : RV} (h : RRow base W (.slice (some ⟨g, 0, none⟩) (rs.length + 1) cap) (insAt rs (k + 1) x)) (hk : k + 1 ≤ rs.length) :
    RRow base (put4 (put4 W g ((k + 1) * 4) (rv rs k)) g (k * 4) x) (.slice (some ⟨g, 0, none⟩) (rs.length + 1) cap) (insAt rs k x) ∧ W.grownBy (put4 (put4 W g ((k + 1) * 4) (rv rs k)) g (k * 4) x) (some g) := by
  have hl := ins_length rs (k + 1) x hk
  obtain ⟨h1, g1⟩ := RRow.put4 h (k := k + 1) (by omega) hl.symm (rv rs k)
  obtain ⟨h2, g2⟩ := RRow.put4 h1 (k := k) (by rw [List.length_set]; omega) (by rw [List.length_set]; exact hl.symm) x
  rw [ins_step rs x hk] at h2
  exact ⟨h2, g2.os.trans g1.os, g2.tape.trans g1.tape, g2.output.trans g1.output, Nat.le_trans g1.size g2.size, fun j hj hne => (g2.block j (Nat.lt_of_lt_of_le hj g1.size) hne).trans (g1.block j hj hne)⟩
theorem row_half {base : Nat} {W : World} {g cap : Nat} {rs : List RV} {k : Nat} {x : RV} (h : RRow base W (.slice (some ⟨g, 0, none⟩) (rs.length + 1) cap) (insAt rs (k + 1) x)) (hk : k + 1 ≤ rs.length) :
    RCells W g (k + 1) x ∧ RCells W g k (rv rs k) ∧ RCells (put4 W g ((k + 1) * 4) (rv rs k)) g k (rv rs k) := by
  have hl := ins_length rs (k + 1) x hk
  obtain ⟨h1, _⟩ := RRow.put4 h (k := k + 1) (by omega) hl.symm (rv rs k)
  obtain ⟨_, _, hv, _, hr⟩ := h.read
  simp only [Value.slice.injEq] at hv
  obtain ⟨hva, _, hvc⟩ := hv
  subst hva hvc
  obtain ⟨g', hg, _, _, hc⟩ := hr (by omega)
  cases hg
  obtain ⟨_, _, hv, _, hr1⟩ := h1.read
  simp only [Value.slice.injEq] at hv
  obtain ⟨hva, _, hvc⟩ := hv
  subst hva hvc
  obtain ⟨g', hg, _, _, hc1⟩ := hr1 (by rw [List.length_set]; omega)
  cases hg
  have a1 := hc (k + 1) (by omega)
  have a2 := hc k (by omega)
  have a3 := hc1 k (by rw [List.length_set]; omega)
  rw [ins_at rs x hk] at a1
  rw [ins_before rs x hk (Nat.lt_succ_self k)] at a2
  rw [rv_ins_other rs x _ hk] at a3
  exact ⟨a1, a2, a3⟩
theorem swap_below' {base : Nat} {w8 W W' : World} {g n cap : Nat} {rs : List RV} (h : RRow base W (.slice (some ⟨g, 0, none⟩) n cap) rs) (hg : W.grownBy W' (some g)) (hb : Below base w8 W) (hk : KInt w8 W) (hbase : base ≤ W.heap.size) : Below base w8 W' ∧ KInt w8 W' := by
  obtain ⟨p, q⟩ := grow_row h (w' := W') hg hbase
  exact ⟨hb.trans q, hk.trans p⟩
end Go.Proofs.Ythekalhceamcoaa
