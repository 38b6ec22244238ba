/- TopSet: whatever the sets, it answers true: the walk, out of the contracts. -/
import Derived.Test.YtfnkmlpgfohjnaaDoorSText
import Derived.Test.YtfnkmlpgfohjnaaDoorSParse2
import Derived.Test.YtfnkmlpgfohjnaaDoorSCount
namespace Go.Proofs.YtfnkmlpgfohjnaaDoor
open Go.RowKit
theorem text_any (A : Nat) (w : World) (hA : A < 18446744073709551616) :
    Calls Tryd.prog 19 #[.int .u64 A] w fun e w' => e = .returned (.string ⟨(Ost.txt A).toArray⟩) ∧ Below w.heap.size w w' :=
  text_loop A w hA (fun v w1 h _ => join_own v (txts A 64) w1 w.heap.size h (Nat.le_trans (txts_len A 64) (by omega)) (Nat.le_trans (Ost.txt_len A) (by omega)))
theorem txt6 : Ost.txt 6 = [49, 45, 50] := by
  have e : Ost.spansTo 6 64 = [(1, 2)] := by decide +kernel
  unfold Ost.txt Ost.joined
  rw [e]
  have d1 : Lib.decDigits 1 = [49] := by rw [Lib.decDigits_one (by omega)]; decide
  have d2 : Lib.decDigits 2 = [50] := by rw [Lib.decDigits_one (by omega)]; decide
  simp [Ost.spanTxt, d1, d2, Lib.join, List.intercalate]
def intsOf (l : List Nat) : List Int := l.map fun (n : Nat) => (n : Int)
theorem intsAt_row {w : World} {base : Nat} {v : Value} (l : List Nat) (h : w.ownsRow base 3 1 v l.length (nums l)) : IntsAt w v (intsOf l) := by
  rcases ownsRow_cells h with ⟨rfl, h0⟩ | ⟨g, cap, rfl, _, _, hc⟩
  · have : l = [] := List.eq_nil_of_length_eq_zero h0
    subst this
    exact .inl ⟨rfl, none, 0, rfl⟩
  · refine .inr ⟨g, 0, cap, by simp [intsOf], fun k hk => ?_⟩
    have hk2 : k < l.length := by simpa [intsOf] using hk
    rw [Nat.zero_add]
    apply hc
    simp [nums, intsOf, hk2]
theorem listTo_bits (A k : Nat) (hk : k ≤ 64) : (intsOf (Ost.listTo A k)).all inSet = true ∧ ∀ i, (orBits (intsOf (Ost.listTo A k))).testBit i = (A.testBit i && decide (i < k)) := by
  induction k with
  | zero => exact ⟨rfl, fun i => by simp [Ost.listTo, intsOf, orBits]⟩
  | succ k ih =>
    obtain ⟨h1, h2⟩ := ih (by omega)
    rw [Ost.listTo_succ]
    by_cases hb : A.testBit k = true
    · rw [if_pos hb]
      have e : intsOf (Ost.listTo A k ++ [k]) = intsOf (Ost.listTo A k) ++ [(k : Int)] := by simp [intsOf]
      rw [e]
      refine ⟨?_, fun i => ?_⟩
      · rw [List.all_append, h1]
        have : inSet (k : Int) = true := by unfold inSet; exact decide_eq_true (by omega)
        simp [this]
      · rw [orBits_snoc, Nat.testBit_or, h2, Int.toNat_natCast, Nat.testBit_two_pow]
        by_cases hik : k = i
        · subst hik; simp [hb]
        · have : decide (i < k) = decide (i < k + 1) := by
            by_cases h3 : i < k
            · rw [decide_eq_true h3, decide_eq_true (by omega)]
            · rw [decide_eq_false h3, decide_eq_false (by omega)]
          rw [this, decide_eq_false hik]; simp
    · rw [if_neg hb]
      refine ⟨h1, fun i => ?_⟩
      rw [h2]
      by_cases hik : i = k
      · subst hik; simp [show A.testBit i = false by simpa using hb]
      · have : decide (i < k) = decide (i < k + 1) := by
          by_cases h3 : i < k
          · rw [decide_eq_true h3, decide_eq_true (by omega)]
          · rw [decide_eq_false h3, decide_eq_false (by omega)]
        rw [this]
theorem of_list (A : Nat) (hA : A < 18446744073709551616) : ofOut (intsOf (Ost.listTo A 64)) = (A, 0) := by
  obtain ⟨h1, h2⟩ := listTo_bits A 64 (Nat.le_refl _)
  unfold ofOut
  rw [if_pos h1]
  congr 1
  apply Nat.eq_of_testBit_eq
  intro i
  rw [h2]
  by_cases hi : i < 64
  · rw [decide_eq_true hi, Bool.and_true]
  · rw [Ost.bit_high A hA i (by omega)]; rfl
theorem inside_t (A B : Nat) (w : World) (hA : A < 18446744073709551616) (hB : B < 18446744073709551616) (h : A &&& B = A) :
    Calls Tryd.prog 18 #[.int .u64 A, .int .u64 B] w fun e w' => e = .returned (.bool true) ∧ w' = w := by
  have := inside_any A B w hA hB
  rw [decide_eq_true h] at this; exact this
theorem parse_c (s : ByteArray) (p : Nat) (f : Int) (w : World) (hs2 : s.size ≤ maxLen) (hm : Mx w) (h : Ost.parseOut s.data.toList = (p, f)) :
    Calls Tryd.prog 21 #[.string s] w fun e w' => e = .returned (.tuple #[.int .u64 (p : Nat), errV f]) ∧ Below w.heap.size w w' := by
  have := parse_any s w hs2 hm
  rw [h] at this; exact this
theorem of_c (v : Value) (xs : List Int) (p : Nat) (f : Int) (w : World) (hx : IntsAt w v xs) (hl : xs.length ≤ 1000) (h : ofOut xs = (p, f)) :
    Calls Tryd.prog 12 #[v] w fun e w' => e = .returned (.tuple #[.int .u64 (p : Nat), errV f]) ∧ w' = w := by
  have := of_any v xs w hx hl
  rw [h] at this; exact this
theorem and_lt64 (A B : Nat) (hA : A < 18446744073709551616) : A &&& B < 18446744073709551616 := Nat.lt_of_le_of_lt Nat.and_le_left hA
theorem txt_size (A : Nat) : (ByteArray.mk (Ost.txt A).toArray).size ≤ maxLen := by
  have := Ost.txt_len A
  show (Ost.txt A).toArray.size ≤ _
  unfold maxLen; simp; omega
set_option maxHeartbeats 2000000 in
theorem topSet_any (A B : Nat) (w : World) (hA : A < 18446744073709551616) (hB : B < 18446744073709551616) (hm : Mx w) :
    Calls Tryd.prog 6 #[.int .u64 A, .int .u64 B] w fun e w' => e = .returned (.bool true) ∧ Below w.heap.size w w' := by
  have HM := hideIt' hm
  clear hm
  have H6 := text_any 6 w (by omega)
  rw [txt6] at H6
  have H6 := hideIt' H6
  have hl := listTo_le A 64
  have hl2 := listTo_le B 64
  have hl3 := listTo_le (A &&& B) 64
  have hl4 := listTo_le (A ||| B) 64
  have r1 := bits_and_u64_nat A B hA hB
  have r2 := bits_or_u64_nat A B hA hB
  have hAB := and_lt64 A B hA
  have hOB := or_lt A B hA hB
  have HAB : Hid ((A &&& B) &&& A = A &&& B) := by
    unfold Hid; apply Nat.eq_of_testBit_eq; intro i; simp only [Nat.testBit_and]; cases A.testBit i <;> cases B.testBit i <;> rfl
  have hct : (((Ost.listTo A 64).length : Int) + (Ost.listTo B 64).length == ((Ost.listTo (A &&& B) 64).length : Int) + (Ost.listTo (A ||| B) 64).length) = true := by
    have := Ost.count_andor A B 64
    rw [beq_iff_eq]; omega
  have hTB : (Ost.txt A == Ost.txt B) = ((A : Int) == (B : Int)) := by
    rw [Bool.eq_iff_iff, beq_iff_eq, beq_iff_eq, Ost.txt_inj A B hA hB]; omega
  go_enter Tryd.func6, Tryd.ntmps6
  go_wp2_with fail
  refine H6.out.mono ?_
  rintro e w1 ⟨rfl, hB1⟩
  have HM1 := hideIt' (HM.out.below hB1)
  clear H6 HM
  go_wp2_with fail
  refine (text_any A _ hA).mono ?_
  rintro e w2 ⟨rfl, hb2⟩
  have HM2 := hideIt' (HM1.out.below hb2)
  have hB2 := hB1.trans (hb2.mono hB1.size)
  clear hb2 HM1 hB1
  go_wp2_with fail
  refine (parse_c ⟨(Ost.txt A).toArray⟩ A 0 _ (txt_size A) HM2.out (Ost.parse_txt A hA)).mono ?_
  rintro e w3 ⟨rfl, hb3⟩
  rw [errV_zero]
  have hB3 := hB2.trans (hb3.mono hB2.size)
  clear hb3 HM2 hB2
  go_wp2_with fail
  refine (list_any A _ hA).mono ?_
  rintro e w4 ⟨v, rfl, hrow, hb4⟩
  have hB4 := hB3.trans (hb4.mono hB3.size)
  have HI := hideIt' (intsAt_row _ hrow)
  clear hb4 hB3 hrow
  go_wp2_with fail
  refine (of_c v _ A 0 _ HI.out (by simp [intsOf]; omega) (of_list A hA)).mono ?_
  rintro e w5 ⟨rfl, rfl⟩
  rw [errV_zero]
  clear HI
  go_wp2_with fail
  refine (text_any A _ hA).mono ?_
  rintro e w6 ⟨rfl, hb6⟩
  have hB6 := hB4.trans (hb6.mono hB4.size)
  clear hb6 hB4
  go_wp2_with fail
  refine (text_any B _ hB).mono ?_
  rintro e w7 ⟨rfl, hb7⟩
  have hB7 := hB6.trans (hb7.mono hB6.size)
  clear hb7 hB6
  go_wp2_with fail
  refine (count_any A _ hA).mono ?_
  rintro e w8 ⟨rfl, rfl⟩
  go_wp2_with fail
  refine (count_any B _ hB).mono ?_
  rintro e w9 ⟨rfl, rfl⟩
  go_wp2_with fail
  refine (count_any (A &&& B) _ hAB).mono ?_
  rintro e w10 ⟨rfl, rfl⟩
  go_wp2_with fail
  refine (count_any (A ||| B) _ hOB).mono ?_
  rintro e w11 ⟨rfl, rfl⟩
  go_wp2_with fail
  refine (inside_t (A &&& B) A _ hAB hA HAB.out).mono ?_
  rintro e w12 ⟨rfl, rfl⟩
  go_wp2_with fail
  go_ret
  exact ⟨rfl, hB7⟩
end Go.Proofs.YtfnkmlpgfohjnaaDoor
