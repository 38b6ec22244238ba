/- What package bits' List and Inside, and the document's List and Count answer; words on sets: contracts. -/
import Derived.Test.YthekalhceamcoaaTSame
import Derived.Test.YthekalhceamcoaaTPop
import Derived.Test.YthekalhceamcoaaPMath
import Derived.Laws.BitsAllLaws
namespace Go.Proofs.Ythekalhceamcoaa
open Go.RowKit
open Ost (cnt dif)
theorem andNot64 (A B : Nat) (hA : A < 18446744073709551616) (hB : B < 18446744073709551616) : bits BinOp.andNot IntKind.u64 (A : Int) (B : Int) = ((dif A B : Nat) : Int) := by
  rw [u64_andNot_nat A B hA hB]
  have key : A &&& (18446744073709551615 - B) = dif A B := by
    apply Nat.eq_of_testBit_eq
    intro i
    rw [Nat.testBit_and, Ost.dif_bit]
    by_cases hi : i < 64
    · have e : (18446744073709551615 - B).testBit i = !B.testBit i := by
        have := Nat.testBit_two_pow_sub_succ (n := 64) hB i
        rw [show 2 ^ 64 - (B + 1) = 18446744073709551615 - B by omega] at this
        rw [this, decide_eq_true hi]; simp
      rw [e]
    · have : A.testBit i = false := Nat.testBit_lt_two_pow (Nat.lt_of_lt_of_le hA (Nat.pow_le_pow_right (n := 2) (by omega) (show 64 ≤ i by omega)))
      rw [this]; simp
  rw [key]
theorem dif_zero_iff (A B : Nat) : dif A B = 0 ↔ A &&& B = A := by
  rw [Ost.sub_iff]
  constructor
  · intro h i hi
    have e : (dif A B).testBit i = false := by rw [h, Nat.zero_testBit]
    rw [Ost.dif_bit, hi] at e
    simpa using e
  · intro h
    apply Nat.eq_of_testBit_eq
    intro i
    rw [Ost.dif_bit, Nat.zero_testBit]
    cases hA : A.testBit i with
    | false => rfl
    | true => rw [h i hA]; rfl
theorem andNot_zero (A B : Nat) (hA : A < 18446744073709551616) (hB : B < 18446744073709551616) : (bits BinOp.andNot IntKind.u64 (A : Int) (B : Int) == 0) = decide (A &&& B = A) := by
  rw [andNot64 A B hA hB, Bool.eq_iff_iff, beq_iff_eq, decide_eq_true_eq, ← dif_zero_iff]
  omega
set_option maxHeartbeats 400000 in
theorem inside_any (A B : Nat) (w : World) (hA : A < 18446744073709551616) (hB : B < 18446744073709551616) :
    Calls Try.prog 20 #[.int .u64 A, .int .u64 B] w fun e w' => e = .returned (.bool (decide (A &&& B = A))) ∧ w' = w := by
  have H := hideIt (andNot_zero A B hA hB)
  go_enter Try.func20, Try.ntmps20
  go_wp2_with fail
  go_ret
  exact ⟨congrArg (fun b => Ending.returned (.bool b)) H.out, rfl⟩
theorem infoInt : (Try.prog.info? 3).map (fun i => (i.zero, i.size, i.bytes)) = some (some (.int .i64 0), 1, 8) := by kernel_rfl
def nums (l : List Nat) : List Value := l.map fun (n : Nat) => Value.int .i64 (n : Int)
theorem nums_snoc (l : List Nat) (n : Nat) : nums (l ++ [n]) = nums l ++ [.int .i64 n] := by simp [nums]
theorem nums_length (l : List Nat) : (nums l).length = l.length := by simp [nums]
theorem listTo_le (A k : Nat) : (Ost.listTo A k).length ≤ k := by
  unfold Ost.listTo
  exact Nat.le_trans (List.length_filter_le _ _) (by simp)
set_option maxRecDepth 100000 in
set_option maxHeartbeats 1000000 in
theorem list_any (A : Nat) (w : World) (hA : A < 18446744073709551616) :
    Calls Try.prog 159 #[.int .u64 A] w fun e w' => ∃ v, e = .returned v ∧ w'.ownsRow w.heap.size 3 1 v (Ost.listTo A 64).length (nums (Ost.listTo A 64)) ∧ Below w.heap.size w w' := by
  obtain ⟨i0, hi, hz0, hz1, hz2⟩ := info_parts infoInt
  go_enter Try.func159, Try.ntmps159
  go_wp2_with fail
  go_loopw [3, 5] (fun v i wr => ∃ k : Nat, k ≤ 64 ∧ i = .int .i64 k ∧ wr.ownsRow w.heap.size 3 1 v (Ost.listTo A k).length (nums (Ost.listTo A k)) ∧ Below w.heap.size w wr) (fun _ i _ => 64 - (intOf i).toNat)
  case atStart => exact ⟨0, by omega, rfl, World.ownsRow_nil _ _ _ _, Below.refl _ _⟩
  case round =>
    obtain ⟨k, hk, rfl, hrow, hnx⟩ := hrel
    by_cases hlt : k < 64
    · have hle := listTo_le A k
      have hsz := hnx.size
      by_cases hb : A.testBit k = true
      · have HS : Hid (Ost.listTo A (k + 1) = Ost.listTo A k ++ [k]) := by unfold Hid; rw [Ost.listTo_succ, if_pos hb]
        have HI := has_in A k wr hA hlt
        rw [hb] at HI
        have HI2 : Hid (Calls Try.prog 178 #[.int .u64 A, .int .i64 k] wr fun e w' => e = .returned (.bool true) ∧ w' = wr) := HI
        clear HI hb
        go_wp2_with (first
          | (go_at_call 178; refine HI2.out.mono ?_; rintro e w' ⟨rfl, rfl⟩)
          | (at_builtin; refine wpList_append_own _ rfl _ _ 57 rfl w.heap.size 3 i0 (.int .i64 0) 1 8 Try.underlying57 hi hz0 hz1 hz2 rfl (by decide) _ _ _ rfl (hrow.alloc _) ⟨_, 0, none⟩ 1 1 [.int .i64 k] rfl rfl (cell_one_new _ _ _) (ints_oneCell .i64 [(k : Int)]) (by unfold maxLen; omega) (by omega) (by simp; omega) ?_; intro v' w1 hown' hgrow' _))
        go_roundw
        case rel =>
          refine ⟨k + 1, by omega, by go_num, ?_, ?_⟩
          · rw [HS.out, nums_snoc, List.length_append]; exact hown'
          · exact (hnx.alloc hsz _).grown hgrow' (by simp; omega) (fun j hj => (hrow.lt j hj).1)
        case measure => simp [intOf]; omega
      · have hb' : A.testBit k = false := by simpa using hb
        have HS : Hid (Ost.listTo A (k + 1) = Ost.listTo A k) := by unfold Hid; rw [Ost.listTo_succ, if_neg hb]
        have HI := has_in A k wr hA hlt
        rw [hb'] at HI
        have HI2 : Hid (Calls Try.prog 178 #[.int .u64 A, .int .i64 k] wr fun e w' => e = .returned (.bool false) ∧ w' = wr) := HI
        clear HI hb hb'
        go_wp2_with (go_at_call 178; refine HI2.out.mono ?_; rintro e w' ⟨rfl, rfl⟩)
        go_roundw
        case rel =>
          refine ⟨k + 1, by omega, by go_num, ?_, hnx⟩
          rw [HS.out]; exact hrow
        case measure => simp [intOf]; omega
    · have hk64 : k = 64 := by omega
      subst hk64
      clear hk hlt
      go_wp2_with fail
      go_ret
      exact ⟨_, rfl, hrow, hnx⟩
set_option maxRecDepth 100000 in
set_option maxHeartbeats 1000000 in
theorem refList_any (A : Nat) (w : World) (hA : A < 18446744073709551616) :
    Calls Try.prog 130 #[.int .u64 A] w fun e w' => ∃ v, e = .returned v ∧ w'.ownsRow w.heap.size 3 1 v (Ost.listTo A 64).length (nums (Ost.listTo A 64)) ∧ Below w.heap.size w w' := by
  obtain ⟨i0, hi, hz0, hz1, hz2⟩ := info_parts infoInt
  go_enter Try.func130, Try.ntmps130
  go_wp2_with fail
  go_loopw [3, 4] (fun v i wr => ∃ k : Nat, k ≤ 64 ∧ i = .int .i64 k ∧ wr.ownsRow w.heap.size 3 1 v (Ost.listTo A k).length (nums (Ost.listTo A k)) ∧ Below w.heap.size w wr) (fun _ i _ => 64 - (intOf i).toNat)
  case atStart => exact ⟨0, by omega, rfl, World.ownsRow_nil _ _ _ _, Below.refl _ _⟩
  case round =>
    obtain ⟨k, hk, rfl, hrow, hnx⟩ := hrel
    by_cases hlt : k < 64
    · have hle := listTo_le A k
      have hsz := hnx.size
      have HB := bit_eq A k hA
      rcases two (A.testBit k) with hb | hb
      · have HS : Hid (Ost.listTo A (k + 1) = Ost.listTo A k ++ [k]) := by unfold Hid; rw [Ost.listTo_succ, if_pos hb]
        rw [hb] at HB
        clear hb
        go_wp2_with (at_builtin; refine wpList_append_own _ rfl _ _ 57 rfl w.heap.size 3 i0 (.int .i64 0) 1 8 Try.underlying57 hi hz0 hz1 hz2 rfl (by decide) _ _ _ rfl (hrow.alloc _) ⟨_, 0, none⟩ 1 1 [.int .i64 k] rfl rfl (cell_one_new _ _ _) (ints_oneCell .i64 [(k : Int)]) (by unfold maxLen; omega) (by omega) (by simp; omega) ?_; intro v' w1 hown' hgrow' _)
        go_roundw
        case rel =>
          refine ⟨k + 1, by omega, by go_num, ?_, ?_⟩
          · rw [HS.out, nums_snoc, List.length_append]; exact hown'
          · exact (hnx.alloc hsz _).grown hgrow' (by simp; omega) (fun j hj => (hrow.lt j hj).1)
        case measure => simp [intOf]; omega
      · have HS : Hid (Ost.listTo A (k + 1) = Ost.listTo A k) := by unfold Hid; rw [Ost.listTo_succ, if_neg (by rw [hb]; simp)]
        rw [hb] at HB
        clear hb
        go_wp2_with fail
        go_roundw
        case rel =>
          refine ⟨k + 1, by omega, by go_num, ?_, hnx⟩
          rw [HS.out]; exact hrow
        case measure => simp [intOf]; omega
    · have hk64 : k = 64 := by omega
      subst hk64
      clear hk hlt
      go_wp2_with fail
      go_ret
      exact ⟨_, rfl, hrow, hnx⟩
theorem ownsRow_len {w : World} {base : Nat} {e : TypeId} {v : Value} {n : Nat} {xs : List Value} (h : w.ownsRow base e 1 v n xs) : ∃ ao c, v = .slice ao n c := by
  rcases h.2 with ⟨rfl, rfl⟩ | ⟨g, cap, cur, rfl, _⟩
  · exact ⟨none, 0, rfl⟩
  · exact ⟨_, _, rfl⟩
set_option maxHeartbeats 400000 in
theorem refCnt_any (A : Nat) (w : World) (hA : A < 18446744073709551616) :
    Calls Try.prog 86 #[.int .u64 A] w fun e w' => e = .returned (.int .i64 ((Ost.listTo A 64).length : Nat)) ∧ Below w.heap.size w w' := by
  go_enter Try.func86, Try.ntmps86
  go_wp2_with fail
  refine (refList_any A _ hA).mono ?_
  rintro e w1 ⟨v, rfl, hrow, hb⟩
  obtain ⟨ao, c, hv⟩ := ownsRow_len hrow
  rw [hv]
  clear hrow
  go_wp2_with fail
  go_ret
  exact ⟨rfl, hb⟩
end Go.Proofs.Ythekalhceamcoaa
