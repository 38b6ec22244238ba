/- What package bits' plain functions answer: contracts. -/
import Derived.Test.YtfnkmlpgfohjnaaDoorRows
import Derived.Test.YtfnkmlpgfohjnaaDoorSMath
import Derived.WalkKit
import Derived.WalkSpells
import Derived.WalkLawsBesides
namespace Go.Proofs.YtfnkmlpgfohjnaaDoor
open Go.RowKit
theorem bit_eq (A n : Nat) (hA : A < 18446744073709551616) : (bits BinOp.and IntKind.u64 ((A : Int) / 2 ^ n) 1 == 1) = A.testBit n := by
  have e : ((A : Int) / 2 ^ n) = ((A / 2 ^ n : Nat) : Int) := by simp
  have hlt : A / 2 ^ n < 18446744073709551616 := Nat.lt_of_le_of_lt (Nat.div_le_self _ _) hA
  rw [e, show (1 : Int) = ((1 : Nat) : Int) from rfl, bits_and_u64_nat _ _ hlt (by omega), Nat.testBit_eq_decide_div_mod_eq, Nat.and_one_is_mod]
  rw [Bool.eq_iff_iff]; simp; omega
set_option maxHeartbeats 400000 in
theorem has_in (A n : Nat) (w : World) (hA : A < 18446744073709551616) (hn : n < 64) :
    Calls Tryd.prog 23 #[.int .u64 A, .int .i64 n] w fun e w' => e = .returned (.bool (A.testBit n)) ∧ w' = w := by
  have HB := bit_eq A n hA
  go_enter Tryd.func23, Tryd.ntmps23
  go_wp2_with go_in
  go_ret
  exact ⟨rfl, rfl⟩
set_option maxHeartbeats 400000 in
theorem has_out (A : Nat) (n : Int) (w : World) (hn : n < 0 ∨ 64 ≤ n) :
    Calls Tryd.prog 23 #[.int .u64 A, .int .i64 n] w fun e w' => e = .returned (.bool false) ∧ w' = w := by
  have key : n < 0 ∨ (0 ≤ n ∧ 64 ≤ n) := by omega
  clear hn
  rcases key with h | ⟨h1, h⟩
  all_goals
    go_enter Tryd.func23, Tryd.ntmps23
    go_wp2_with go_in
    go_ret
    exact ⟨rfl, rfl⟩
theorem infoInt : (Tryd.prog.info? 3).map (fun i => (i.zero, i.size, i.bytes)) = some (some (.int .i64 0), 1, 8) := by kernel_rfl
def nums (l : List Nat) : List Value := l.map fun (n : Nat) => Value.int .i64 (n : Int)
theorem nums_snoc (l : List Nat) (n : Nat) : nums (l ++ [n]) = nums l ++ [.int .i64 n] := by simp [nums]
theorem nums_length (l : List Nat) : (nums l).length = l.length := by simp [nums]
theorem listTo_le (A k : Nat) : (Ost.listTo A k).length ≤ k := by
  unfold Ost.listTo
  exact Nat.le_trans (List.length_filter_le _ _) (by simp)
set_option maxRecDepth 100000 in
set_option maxHeartbeats 1000000 in
theorem list_any (A : Nat) (w : World) (hA : A < 18446744073709551616) :
    Calls Tryd.prog 14 #[.int .u64 A] w fun e w' => ∃ v, e = .returned v ∧ w'.ownsRow w.heap.size 3 1 v (Ost.listTo A 64).length (nums (Ost.listTo A 64)) ∧ Below w.heap.size w w' := by
  obtain ⟨i0, hi, hz0, hz1, hz2⟩ := info_parts infoInt
  go_enter Tryd.func14, Tryd.ntmps14
  go_wp2_with fail
  go_loopw [3, 5] (fun v i wr => ∃ k : Nat, k ≤ 64 ∧ i = .int .i64 k ∧ wr.ownsRow w.heap.size 3 1 v (Ost.listTo A k).length (nums (Ost.listTo A k)) ∧ Below w.heap.size w wr) (fun _ i _ => 64 - (intOf i).toNat)
  case atStart => exact ⟨0, by omega, rfl, World.ownsRow_nil _ _ _ _, Below.refl _ _⟩
  case round =>
    obtain ⟨k, hk, rfl, hrow, hnx⟩ := hrel
    by_cases hlt : k < 64
    · have hle := listTo_le A k
      have hsz := hnx.size
      by_cases hb : A.testBit k = true
      · have HS : Hid (Ost.listTo A (k + 1) = Ost.listTo A k ++ [k]) := by unfold Hid; rw [Ost.listTo_succ, if_pos hb]
        have HI := has_in A k wr hA hlt
        rw [hb] at HI
        have HI2 : Hid (Calls Tryd.prog 23 #[.int .u64 A, .int .i64 k] wr fun e w' => e = .returned (.bool true) ∧ w' = wr) := HI
        clear HI hb
        go_wp2_with (first
          | (go_at_call 23; refine HI2.out.mono ?_; rintro e w' ⟨rfl, rfl⟩)
          | (at_builtin; refine wpList_append_own _ rfl _ _ 22 rfl w.heap.size 3 i0 (.int .i64 0) 1 8 Tryd.underlying22 hi hz0 hz1 hz2 rfl (by decide) _ _ _ rfl (hrow.alloc _) ⟨_, 0, none⟩ 1 1 [.int .i64 k] rfl rfl (cell_one_new _ _ _) (ints_oneCell .i64 [(k : Int)]) (by unfold maxLen; omega) (by omega) (by simp; omega) ?_; intro v' w1 hown' hgrow' _))
        go_roundw
        case rel =>
          refine ⟨k + 1, by omega, by go_num, ?_, ?_⟩
          · rw [HS.out, nums_snoc, List.length_append]; exact hown'
          · exact (hnx.alloc hsz _).grown hgrow' (by simp; omega) (fun j hj => (hrow.lt j hj).1)
        case measure => simp [intOf]; omega
      · have hb' : A.testBit k = false := by simpa using hb
        have HS : Hid (Ost.listTo A (k + 1) = Ost.listTo A k) := by unfold Hid; rw [Ost.listTo_succ, if_neg hb]
        have HI := has_in A k wr hA hlt
        rw [hb'] at HI
        have HI2 : Hid (Calls Tryd.prog 23 #[.int .u64 A, .int .i64 k] wr fun e w' => e = .returned (.bool false) ∧ w' = wr) := HI
        clear HI hb hb'
        go_wp2_with (go_at_call 23; refine HI2.out.mono ?_; rintro e w' ⟨rfl, rfl⟩)
        go_roundw
        case rel =>
          refine ⟨k + 1, by omega, by go_num, ?_, hnx⟩
          rw [HS.out]; exact hrow
        case measure => simp [intOf]; omega
    · have hk64 : k = 64 := by omega
      subst hk64
      clear hk hlt
      go_wp2_with fail
      go_ret
      exact ⟨_, rfl, hrow, hnx⟩
end Go.Proofs.YtfnkmlpgfohjnaaDoor
