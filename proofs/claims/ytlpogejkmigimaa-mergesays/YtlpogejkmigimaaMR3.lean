/- What the reference's Merge answers where it tells an error, or asks nothing; what 'same' answers: contracts. -/
import Derived.Test.YtlpogejkmigimaaMW4
namespace Go.Proofs.Ytlpogejkmigimaa
open Go.RowKit
open Ost (Hi Wi)
abbrev badR (e : Int) : Value := .tuple #[.agg #[.int .u8 0, .bool false], .bool false, .int .i64 e]
set_option maxRecDepth 100000 in
set_option maxHeartbeats 1000000 in
theorem refMerge_bound (pol : Int) (nodes : Nat) (ao : Option Addr) (n c : Nat) (w : World) (h : pol < 0 ∨ 3 < pol ∨ nodes = 0 ∨ 15 < nodes) :
    Calls Try.prog 34 #[.int .i64 pol, .int .u8 nodes, .slice ao n c] w fun e w' => e = .returned (badR 1) ∧ Below w.heap.size w w' := by
  have HB : Hid (Below w.heap.size w (w.alloc (.cells #[.int .u8 0, .bool false] 60))) := (Below.refl _ _).alloc (Nat.le_refl _) _
  unfold badR
  go_enter Try.func34, Try.ntmps34
  have hc : pol < 0 ∨ (0 ≤ pol ∧ 3 < pol) ∨ (0 ≤ pol ∧ pol ≤ 3 ∧ nodes < 1) ∨ (0 ≤ pol ∧ pol ≤ 3 ∧ 15 < nodes) := by omega
  clear h
  rcases hc with h1 | ⟨h1, h2⟩ | ⟨h1, h2, h3⟩ | ⟨h1, h2, h3⟩
  all_goals
    go_wp2_with fail
    (try simp only [Exit.inBlock, Exit.then])
    refine bodyPost_ret (v := .tuple #[.agg #[.int .u8 0, .bool false], .bool false, .int .i64 1]) ?_ rfl ⟨rfl, HB.out⟩
    rw [results_cell_tmp2 rfl]
    go_simp
set_option maxRecDepth 100000 in
set_option maxHeartbeats 1000000 in
theorem refMerge_many (pol : Int) (nodes : Nat) (ao : Option Addr) (n c : Nat) (w : World) (hn : 1 ≤ nodes ∧ nodes ≤ 15) (hp : 0 ≤ pol ∧ pol ≤ 3) (hl : 4 < n) :
    Calls Try.prog 34 #[.int .i64 pol, .int .u8 nodes, .slice ao n c] w fun e w' => e = .returned (badR 2) ∧ Below w.heap.size w w' := by
  have HB : Hid (Below w.heap.size w (w.alloc (.cells #[.int .u8 0, .bool false] 60))) := (Below.refl _ _).alloc (Nat.le_refl _) _
  unfold badR
  obtain ⟨hp1, hp2⟩ := hp
  obtain ⟨hn1, hn2⟩ := hn
  go_enter Try.func34, Try.ntmps34
  go_wp2_with fail
  (try simp only [Exit.inBlock, Exit.then])
  refine bodyPost_ret (v := .tuple #[.agg #[.int .u8 0, .bool false], .bool false, .int .i64 2]) ?_ rfl ⟨rfl, HB.out⟩
  rw [results_cell_tmp2 rfl]
  go_simp
set_option maxRecDepth 100000 in
set_option maxHeartbeats 1000000 in
theorem refMerge_zero (nodes : Nat) (ao : Option Addr) (n c : Nat) (w : World) (hn : 1 ≤ nodes ∧ nodes ≤ 15) (hl : n ≤ 4) :
    Calls Try.prog 34 #[.int .i64 0, .int .u8 nodes, .slice ao n c] w fun e w' => e = .returned (.tuple #[vH (nodes, true), .bool true, .int .i64 0]) ∧ Below w.heap.size w w' := by
  have HB : Hid (Below w.heap.size w (w.alloc (.cells #[.int .u8 0, .bool false] 60))) := (Below.refl _ _).alloc (Nat.le_refl _) _
  unfold vH
  obtain ⟨hn1, hn2⟩ := hn
  go_enter Try.func34, Try.ntmps34
  go_wp2_with fail
  (try simp only [Exit.inBlock, Exit.then])
  refine bodyPost_ret (v := .tuple #[.agg #[.int .u8 nodes, .bool true], .bool true, .int .i64 0]) ?_ rfl ⟨rfl, ?_⟩
  · rw [results_cell_tmp2 rfl]
    go_simp
  · first
      | exact HB.out
      | exact (Below.refl _ _).alloc (Nat.le_refl _) _
      | exact (HB.out.setCell (Nat.le_refl _) _).setCell (Nat.le_refl _) _
theorem run_assert_err (f : Int) (w : World) : (Instr.typeAssert (.iface 73 (.int .i64 f)) 29 73 true).run Try.prog w = .ok (.tuple #[.int .i64 f, .bool true]) w := by kernel_rfl
set_option maxRecDepth 100000 in
set_option maxHeartbeats 400000 in
theorem same_err (f : Int) (w : World) (h : 0 < f) : Calls Try.prog 12 #[.iface 73 (.int .i64 f), .int .i64 f] w fun e w' => e = .returned (.bool true) ∧ w' = w := by
  have hta := run_assert_err f
  go_enter Try.func12, Try.ntmps12
  go_wp2_with fail
  go_ret
  exact ⟨rfl, rfl⟩
end Go.Proofs.Ytlpogejkmigimaa
