/- What the document's CountOn and Nodes, and (*Topo).Nodes, Of answer: contracts. -/
import Derived.Test.YthekalhceamcoaaTCnt
namespace Go.Proofs.Ythekalhceamcoaa
open Go.RowKit
open Ost (Cpu cpu0 chosenTo chosen)
theorem or8 (s n : Nat) (hs : s < 256) (hn : n < 8) : bits BinOp.or IntKind.u8 (s : Int) (IntKind.u8.wrap (2 ^ n)) = ((s ||| 2 ^ n : Nat) : Int) := by
  have key : ∀ (a : Fin 256) (b : Fin 8), bits BinOp.or IntKind.u8 ((a.val : Nat) : Int) (IntKind.u8.wrap (2 ^ b.val)) = ((a.val ||| 2 ^ b.val : Nat) : Int) := by decide +kernel
  exact key ⟨s, hs⟩ ⟨n, hn⟩
theorem or8m (s n : Nat) (hs : s < 256) (hn : n < 8) : bits BinOp.or IntKind.u8 (s : Int) (2 ^ n % 256) = ((s ||| 2 ^ n : Nat) : Int) := by
  have key : ∀ (a : Fin 256) (b : Fin 8), bits BinOp.or IntKind.u8 ((a.val : Nat) : Int) (2 ^ b.val % 256) = ((a.val ||| 2 ^ b.val : Nat) : Int) := by decide +kernel
  exact key ⟨s, hs⟩ ⟨n, hn⟩
/-- The nodes of the first ones. -/
def nodesTo (l : List Cpu) : Nat → Nat
  | 0 => 0
  | k + 1 => nodesTo l k ||| 2 ^ (l.getD k cpu0).node.toNat
theorem nodesTo_bit (l : List Cpu) (k j : Nat) : (nodesTo l k).testBit j = true ↔ ∃ i, i < k ∧ (l.getD i cpu0).node.toNat = j := by
  induction k with
  | zero => simp [nodesTo]
  | succ k ih =>
    rw [nodesTo, Nat.testBit_or, Bool.or_eq_true, ih, Nat.testBit_two_pow]
    constructor
    · rintro (⟨i, hi, h⟩ | h)
      · exact ⟨i, by omega, h⟩
      · exact ⟨k, by omega, by simpa using h⟩
    · rintro ⟨i, hi, h⟩
      by_cases e : i = k
      · subst e; right; simpa using h
      · left; exact ⟨i, by omega, h⟩
theorem nodesTo_lt (l : List Cpu) (hg : Good l) (k : Nat) (hk : k ≤ l.length) : nodesTo l k < 256 := by
  apply Nat.lt_pow_two_of_testBit (n := 8)
  intro i hi
  rw [Bool.eq_false_iff]
  intro h
  obtain ⟨j, hj, he⟩ := (nodesTo_bit l k i).1 h
  have := hg.at (k := j) (by omega)
  omega
/-- The nodes for which it is so. -/
def maskTo (f : Nat → Bool) : Nat → Nat
  | 0 => 0
  | k + 1 => if f k then maskTo f k ||| 2 ^ k else maskTo f k
theorem maskTo_bit (f : Nat → Bool) (k j : Nat) : (maskTo f k).testBit j = (decide (j < k) && f j) := by
  induction k with
  | zero => simp [maskTo]
  | succ k ih =>
    rw [maskTo]
    by_cases h : f k = true
    · rw [if_pos h, Nat.testBit_or, ih, Nat.testBit_two_pow]
      by_cases e : j = k
      · subst e; simp [h]
      · by_cases h2 : j < k
        · simp [h2, show j < k + 1 by omega, show ¬ k = j by omega]
        · simp [h2, show ¬ j < k + 1 by omega, show ¬ k = j by omega]
    · have h' : f k = false := by simpa using h
      rw [if_neg h, ih]
      by_cases e : j = k
      · subst e; simp [h']
      · by_cases h2 : j < k
        · simp [h2, show j < k + 1 by omega]
        · simp [h2, show ¬ j < k + 1 by omega]
theorem cntTo_pos (s : Nat) (l : List Cpu) (j : Int) (k : Nat) : 0 < cntTo s l j k ↔ ∃ i, i < k ∧ s.testBit i = true ∧ (l.getD i cpu0).node = j := by
  induction k with
  | zero => simp [cntTo]
  | succ k ih =>
    rw [cntTo]
    by_cases h : (s.testBit k && decide ((l.getD k cpu0).node = j)) = true
    · rw [if_pos h]
      simp only [Bool.and_eq_true, decide_eq_true_eq] at h
      exact ⟨fun _ => ⟨k, by omega, h.1, h.2⟩, fun _ => by omega⟩
    · rw [if_neg h, ih]
      constructor
      · rintro ⟨i, hi, r⟩; exact ⟨i, by omega, r⟩
      · rintro ⟨i, hi, r⟩
        by_cases e : i = k
        · subst e; exact absurd (by rw [r.1, r.2]; simp) h
        · exact ⟨i, by omega, r⟩
/-- The nodes that have some are the nodes that are named. -/
theorem nodes_eq (l : List Cpu) (hg : Good l) : maskTo (fun j => decide (0 < cntTo (chosen anyCpu l) l j l.length)) 4 = nodesTo l l.length := by
  apply Nat.eq_of_testBit_eq
  intro j
  rw [maskTo_bit, Bool.eq_iff_iff, nodesTo_bit, Bool.and_eq_true, decide_eq_true_eq, decide_eq_true_eq, cntTo_pos]
  constructor
  · rintro ⟨_, i, hi, _, hn⟩
    exact ⟨i, hi, by omega⟩
  · rintro ⟨i, hi, hn⟩
    have := hg.at hi
    exact ⟨by omega, i, hi, by rw [Ost.chosen_bit]; simp [anyCpu, hi], by omega⟩
theorem maskTo_lt (f : Nat → Bool) (k : Nat) (hk : k ≤ 4) : maskTo f k < 256 := by
  apply Nat.lt_pow_two_of_testBit (n := 8)
  intro i hi
  rw [maskTo_bit]; simp [show ¬ i < k by omega]
theorem four_index (a b c d : Int) (w : World) : ∀ k : Nat, k < 4 → ∃ x, (Instr.index 76 (.agg #[.int .i64 a, .int .i64 b, .int .i64 c, .int .i64 d]) (.int .i64 k)).run Try.prog w = .ok (.int .i64 x) w ∧ x = [a, b, c, d].getD k 0 := by
  intro k hk
  have : k = 0 ∨ k = 1 ∨ k = 2 ∨ k = 3 := by omega
  rcases this with rfl | rfl | rfl | rfl
  · exact ⟨a, by kernel_rfl, rfl⟩
  · exact ⟨b, by kernel_rfl, rfl⟩
  · exact ⟨c, by kernel_rfl, rfl⟩
  · exact ⟨d, by kernel_rfl, rfl⟩
set_option maxHeartbeats 1000000 in
theorem of_out (n : Int) (tb b o c : Nat) (l : List Cpu) (w : World) (ht : TopoAt w tb b o c l) (hn : n < 0 ∨ (l.length : Int) ≤ n) :
    Calls Try.prog 158 #[.pointer (some ⟨tb, 0, none⟩), .int .i64 n] w fun e w' => e = .returned (.tuple #[.agg #[.int .i64 0, .int .i64 0, .int .i64 0], .iface 133 (.int .i64 1)]) ∧ Below w.heap.size w w' := by
  have hB0 := ((Below.refl w.heap.size w).alloc (Nat.le_refl _) (.cells #[.int .i64 0, .int .i64 0, .int .i64 0] 40))
  have hT := (ht.below hB0).cell
  have hl := ht.len
  have HB0 := hideIt hB0
  clear ht hB0
  have key : n < 0 ∨ (0 ≤ n ∧ (l.length : Int) ≤ n) := by omega
  clear hn
  rcases key with h | ⟨h, h2⟩
  all_goals
    go_enter Try.func158, Try.ntmps158
    go_wp2_with fail
    (try simp only [Exit.inBlock, Exit.then])
    refine bodyPost_ret (v := .tuple #[.agg #[.int .i64 0, .int .i64 0, .int .i64 0], .iface 133 (.int .i64 1)]) ?_ rfl ⟨rfl, ?_⟩
    · rw [results_cell_tmp rfl]
      go_simp
    · exact HB0.out
set_option maxHeartbeats 1000000 in
theorem of_in (n : Nat) (tb b o c : Nat) (l : List Cpu) (w : World) (ht : TopoAt w tb b o c l) (hn : n < l.length) :
    Calls Try.prog 158 #[.pointer (some ⟨tb, 0, none⟩), .int .i64 n] w fun e w' => e = .returned (.tuple #[.agg #[.int .i64 (l.getD n cpu0).core, .int .i64 (l.getD n cpu0).sock, .int .i64 (l.getD n cpu0).node], .nilIface]) ∧ Below w.heap.size w w' := by
  have hB0 := ((Below.refl w.heap.size w).alloc (Nat.le_refl _) (.cells #[.int .i64 0, .int .i64 0, .int .i64 0] 40))
  have hT := (ht.below hB0).cell
  obtain ⟨hcell0, hcell1, hcell2⟩ := (ht.below hB0).cells n hn
  have hl := ht.len
  have HB0 := hideIt hB0
  clear ht hB0
  generalize l.getD n cpu0 = x at *
  go_enter Try.func158, Try.ntmps158
  go_wp2_with fail
  (try simp only [Exit.inBlock, Exit.then])
  refine bodyPost_ret (v := .tuple #[.agg #[.int .i64 x.core, .int .i64 x.sock, .int .i64 x.node], .nilIface]) ?_ rfl ⟨rfl, ?_⟩
  · rw [results_cell_tmp rfl]
    go_simp
  · exact (Below.refl w.heap.size w).alloc (Nat.le_refl _) _
end Go.Proofs.Ythekalhceamcoaa
