/- What topo.bounded, slices.Clone and topo.New answer: contracts. -/
import Derived.Test.YthekalhceamcoaaTCnt2
import Derived.Test.YthekalhceamcoaaTMath2
import Derived.Maps.OwnSet
namespace Go.Proofs.Ythekalhceamcoaa
open Go.RowKit
open Go.Maps (Keyed int_keyed keyOf_int_mk)
open Ost (Cpu cpu0 inB seen)
set_option maxHeartbeats 400000 in
theorem below_any (n m : Int) (w : World) : Calls Try.prog 126 #[.int .i64 n, .int .i64 m] w fun e w' => e = .returned (.bool (decide (0 ≤ n) && decide (n < m))) ∧ w' = w := by
  rcases two (decide (0 ≤ n)) with h | h
  · have h1 : 0 ≤ n := of_decide_eq_true h
    rw [h]
    clear h
    go_enter Try.func126, Try.ntmps126
    go_wp2_with fail
    go_ret
    exact ⟨by simp, rfl⟩
  · have h1 : ¬ 0 ≤ n := of_decide_eq_false h
    rw [h]
    clear h
    go_enter Try.func126, Try.ntmps126
    go_wp2_with fail
    go_ret
    exact ⟨by simp, rfl⟩
set_option maxHeartbeats 1000000 in
theorem bounded_any (x : Cpu) (w : World) : Calls Try.prog 82 #[.agg #[.int .i64 x.core, .int .i64 x.sock, .int .i64 x.node]] w fun e w' => e = .returned (.bool (inB x)) ∧ Below w.heap.size w w' := by
  have HB := hideIt ((Below.refl w.heap.size w).alloc (Nat.le_refl _) (.cells #[.int .i64 x.core, .int .i64 x.sock, .int .i64 x.node] 40))
  have H1 := hideIt (below_any x.core 64)
  have H2 := hideIt (below_any x.sock 64)
  have H3 := hideIt (below_any x.node 4)
  unfold inB
  generalize (decide (0 ≤ x.core) && decide (x.core < 64)) = b1 at *
  generalize (decide (0 ≤ x.sock) && decide (x.sock < 64)) = b2 at *
  generalize (decide (0 ≤ x.node) && decide (x.node < 4)) = b3 at *
  cases b1 <;> cases b2
  case false.false | false.true =>
    all_goals
      go_enter Try.func82, Try.ntmps82
      go_wp2_with fail
      refine (H1.out _).mono ?_
      rintro e w' ⟨rfl, rfl⟩
      go_wp2_with fail
      go_ret
      exact ⟨rfl, HB.out⟩
  case true.false =>
    go_enter Try.func82, Try.ntmps82
    go_wp2_with fail
    refine (H1.out _).mono ?_
    rintro e w' ⟨rfl, rfl⟩
    go_wp2_with fail
    refine (H2.out _).mono ?_
    rintro e w' ⟨rfl, rfl⟩
    go_wp2_with fail
    go_ret
    exact ⟨rfl, HB.out⟩
  case true.true =>
    go_enter Try.func82, Try.ntmps82
    go_wp2_with fail
    refine (H1.out _).mono ?_
    rintro e w' ⟨rfl, rfl⟩
    go_wp2_with fail
    refine (H2.out _).mono ?_
    rintro e w' ⟨rfl, rfl⟩
    go_wp2_with fail
    refine (H3.out _).mono ?_
    rintro e w' ⟨rfl, rfl⟩
    go_wp2_with fail
    go_ret
    exact ⟨by simp, HB.out⟩
/-- The cells of processors. -/
def cpuCells (l : List Cpu) : List Value := l.flatMap fun x => [.int .i64 x.core, .int .i64 x.sock, .int .i64 x.node]
theorem cpuCells_length (l : List Cpu) : (cpuCells l).length = l.length * 3 := by
  induction l with
  | nil => rfl
  | cons a r ih => simp only [cpuCells, List.flatMap_cons, List.length_append, List.length_cons, List.length_nil] at ih ⊢; omega
theorem cpuCells_at (l : List Cpu) (k : Nat) (hk : k < l.length) : (cpuCells l)[k * 3]? = some (.int .i64 (l.getD k cpu0).core) ∧ (cpuCells l)[k * 3 + 1]? = some (.int .i64 (l.getD k cpu0).sock) ∧ (cpuCells l)[k * 3 + 2]? = some (.int .i64 (l.getD k cpu0).node) := by
  induction l generalizing k with
  | nil => simp at hk
  | cons a r ih =>
    cases k with
    | zero => simp [cpuCells]
    | succ k =>
      have := ih k (by simpa using hk)
      have e : cpuCells (a :: r) = [.int .i64 a.core, .int .i64 a.sock, .int .i64 a.node] ++ cpuCells r := rfl
      rw [e, show (k + 1) * 3 = k * 3 + 3 by omega]
      simpa using this
theorem cpuCells_from {w : World} {b o : Nat} {l : List Cpu} (h : CellsAt w b o l) (j : Nat) (u : Value) (hj : (cpuCells l)[j]? = some u) : w.cell? ((⟨b, o, none⟩ : Addr).add j) = some u := by
  have hlt : j < l.length * 3 := by rw [← cpuCells_length]; exact (List.getElem?_eq_some_iff.1 hj).1
  obtain ⟨h0, h1, h2⟩ := h (j / 3) (by omega)
  obtain ⟨c0, c1, c2⟩ := cpuCells_at l (j / 3) (by omega)
  rw [Addr.add_lit]
  have : j = j / 3 * 3 ∨ j = j / 3 * 3 + 1 ∨ j = j / 3 * 3 + 2 := by omega
  rcases this with e | e | e
  · rw [← e] at c0 h0; rw [h0, ← c0, hj]
  · rw [← e] at c1; rw [Nat.add_assoc, ← e] at h1; rw [h1, ← c1, hj]
  · rw [← e] at c2; rw [Nat.add_assoc, ← e] at h2; rw [h2, ← c2, hj]
theorem cpuCells_one (l : List Cpu) : ∀ u ∈ cpuCells l, u.oneCell' = true := by
  intro u hu
  simp only [cpuCells, List.mem_flatMap] at hu
  obtain ⟨x, _, hx⟩ := hu
  simp at hx
  rcases hx with rfl | rfl | rfl <;> rfl
theorem infoCpu : (Try.prog.info? 40).map (fun i => (i.zero, i.size, i.bytes)) = some (some (.agg #[.int .i64 0, .int .i64 0, .int .i64 0]), 3, 24) := by kernel_rfl
theorem eqNil (b o n c : Nat) (w : World) : Sem.run Try.prog (binOp BinOp.eql 22 (.slice (some ⟨b, o, none⟩) n c) (.slice none 0 0)) w = .ok (.bool false) w := by kernel_rfl
/-- What slices.Clone leaves. -/
def Cloned (w : World) (l : List Cpu) (e : Ending) (w' : World) : Prop := ∃ g c', e = .returned (.slice (some ⟨g, 0, none⟩) l.length c') ∧ CellsAt w' g 0 l ∧ g < w'.heap.size ∧ Below w.heap.size w w'
set_option maxRecDepth 100000 in
set_option maxHeartbeats 1000000 in
theorem clone_any (b o c : Nat) (l : List Cpu) (w : World) (hc : CellsAt w b o l) (hlb : b < w.heap.size) (h0 : 0 < l.length) (hl : l.length ≤ 64) :
    Calls Try.prog 83 #[.slice (some ⟨b, o, none⟩) l.length c] w fun e w' => Cloned w l e w' := by
  obtain ⟨i0, hi, hz0, hz1, hz2⟩ := info_parts infoCpu
  have hB0 := (Below.refl w.heap.size w).alloc (Nat.le_refl _) (.cells #[] 40)
  have HC := hideIt (hc.below hlb hB0)
  have HB := hideIt hB0
  have hnil := eqNil b o l.length c w
  clear hc hB0
  go_enter Try.func83, Try.ntmps83
  go_wp2_with (at_builtin; (refine wpList_append_own _ rfl _ _ 22 rfl w.heap.size 40 i0 (.agg #[.int .i64 0, .int .i64 0, .int .i64 0]) 3 24 Try.underlying22 hi hz0 hz1 hz2 rfl (by decide) _ _ _ rfl (World.ownsRow_lit w #[] 0 (Nat.le_refl _) (Nat.zero_le _) rfl) ⟨b, o, none⟩ l.length c (cpuCells l) rfl (cpuCells_length l) (cpuCells_from HC.out) (cpuCells_one l) (by unfold maxLen; omega) (by omega) (by simp) ?_); intro v' w1 hown' hgrow' _)
  rcases hown'.2 with ⟨rfl, h1⟩ | ⟨g, cap, cur, rfl, hg, hgc, _⟩
  · omega
  · have hlt := (hown'.lt g rfl).2
    have hcl : Hid (CellsAt w1 g 0 l) := by
      intro k hk
      obtain ⟨c0, c1, c2⟩ := cpuCells_at l k hk
      rw [← List.nil_append (cpuCells l)] at c0 c1 c2
      refine ⟨?_, ?_, ?_⟩
      · rw [Nat.zero_add, hown'.cellAt (k * 3) (by omega)]; exact c0
      · rw [Nat.zero_add, hown'.cellAt (k * 3 + 1) (by omega)]; exact c1
      · rw [Nat.zero_add, hown'.cellAt (k * 3 + 2) (by omega)]; exact c2
    have hB1 := hideIt (HB.out.grown hgrow' (by simp) (fun j hj => by cases hj; exact Nat.le_refl _))
    clear hown' hgrow' hgc hg
    rw [Nat.zero_add]
    go_wp2_with fail
    go_ret
    exact ⟨g, cap, rfl, hcl.out, hlt, hB1.out⟩
end Go.Proofs.Ythekalhceamcoaa
