/- SetSays: whatever the sets, the number, the list and the text, it answers true: the walk, out of the contracts. -/
import Derived.Test.YtfnkmlpgfohjnaaDoorSetText
import Derived.Test.YtfnkmlpgfohjnaaDoorSameN
import Derived.Test.YtfnkmlpgfohjnaaDoorReadSet
namespace Go.Proofs.YtfnkmlpgfohjnaaDoor
open Go.RowKit
theorem txt135 : Ost.txt 135 = [48, 45, 50, 44, 55] := by
  have e : Ost.spansTo 135 64 = [(0, 2), (7, 7)] := by decide +kernel
  unfold Ost.txt Ost.joined
  rw [e]
  have d0 : Lib.decDigits 0 = [48] := by rw [Lib.decDigits_one (by omega)]; decide
  have d2 : Lib.decDigits 2 = [50] := by rw [Lib.decDigits_one (by omega)]; decide
  have d7 : Lib.decDigits 7 = [55] := by rw [Lib.decDigits_one (by omega)]; decide
  simp [Ost.spanTxt, d0, d2, d7, Lib.join, List.intercalate]
set_option maxHeartbeats 1000000 in
theorem sets_any (w : World) (hm : Mx w) :
    Calls Tryd.prog 11 #[] w fun e w' => e = .returned (.bool true) ∧ Below w.heap.size w w' := by
  have HM := hideIt' hm
  clear hm
  have HP : Hid (Ost.parseOut [48, 45, 50, 44, 55] = (135, 0)) := by
    have := Ost.parse_txt 135 (by omega)
    rw [txt135] at this; exact this
  have HT := fun (w : World) => text_any 135 w (by omega)
  rw [txt135] at HT
  have HT := hideIt' HT
  go_enter Tryd.func11, Tryd.ntmps11
  go_wp2_with fail
  refine (parse_c ⟨#[48, 45, 50, 44, 55]⟩ 135 0 _ (by decide) HM.out HP.out).mono ?_
  rintro e w1 ⟨rfl, hb1⟩
  rw [errV_zero]
  go_wp2_with fail
  refine (same_zero _).mono ?_
  rintro e w2 ⟨rfl, rfl⟩
  go_wp2_with fail
  refine (HT.out _).mono ?_
  rintro e w3 ⟨rfl, hb3⟩
  go_wp2_with fail
  go_ret
  exact ⟨rfl, hb1.trans (hb3.mono hb1.size)⟩
set_option maxRecDepth 100000 in
set_option maxHeartbeats 400000 in
theorem readSet_many (s : ByteArray) (w : World) (hs : 300 < s.size) (hs2 : s.size ≤ maxLen) :
    Calls Tryd.prog 22 #[.string s] w fun e w' => e = .returned (setNum (0, 2)) ∧ Below w.heap.size w w' := by
  unfold maxLen at hs2
  go_enter Tryd.func22, Tryd.ntmps22
  go_wp2_with fail
  go_ret2
  exact ⟨rfl, Below.refl _ _⟩
set_option maxRecDepth 100000 in
set_option maxHeartbeats 400000 in
theorem readSet_none (w : World) :
    Calls Tryd.prog 22 #[.string ⟨#[]⟩] w fun e w' => e = .returned (setNum (0, 0)) ∧ Below w.heap.size w w' := by
  go_enter Tryd.func22, Tryd.ntmps22
  go_wp2_with fail
  go_ret2
  exact ⟨rfl, Below.refl _ _⟩
theorem readSet_c (s : ByteArray) (p : Nat) (f : Int) (w : World) (hs2 : s.size ≤ maxLen) (h : Ost.parseOut s.data.toList = (p, f)) :
    Calls Tryd.prog 22 #[.string s] w fun e w' => e = .returned (.tuple #[.int .u64 (p : Nat), .int .i64 f]) ∧ Below w.heap.size w w' := by
  have key : Calls Tryd.prog 22 #[.string s] w fun e w' => e = .returned (setNum (Ost.parseOut s.data.toList)) ∧ Below w.heap.size w w' := by
    by_cases h1 : 300 < s.size
    · have := readSet_many s w h1 hs2
      rw [show ((0, 2) : Nat × Int) = Ost.parseOut s.data.toList by unfold Ost.parseOut; rw [if_pos (by simpa using h1)]] at this
      exact this
    · by_cases h0 : s.size = 0
      · have he := empty_of s h0
        subst he
        exact readSet_none w
      · exact readSet_walk s w (by omega) (by omega)
  rw [h] at key; exact key
theorem refOf_c (v : Value) (xs : List Int) (p : Nat) (f : Int) (w : World) (hx : IntsAt w v xs) (hl : xs.length ≤ 1000) (h : ofOut xs = (p, f)) :
    Calls Tryd.prog 13 #[v] w fun e w' => e = .returned (.tuple #[.int .u64 (p : Nat), .int .i64 f]) ∧ w' = w := by
  have := refOf_any v xs w hx hl
  rw [h] at this; exact this
theorem inside_e (A B : Nat) (w : World) (hA : A < 18446744073709551616) (hB : B < 18446744073709551616) :
    Calls Tryd.prog 18 #[.int .u64 A, .int .u64 B] w fun e w' => e = .returned (.bool (((A &&& B : Nat) : Int) == (A : Int))) ∧ w' = w := by
  have := inside_any A B w hA hB
  rw [show decide (A &&& B = A) = (((A &&& B : Nat) : Int) == (A : Int)) by
    rw [Bool.eq_iff_iff, decide_eq_true_eq, beq_iff_eq]; omega] at this
  exact this
theorem pieces_err (acc : Nat) (l : List (List UInt8)) : 0 ≤ (Ost.pieces acc l).2 := by
  induction l generalizing acc with
  | nil => simp [Ost.pieces]
  | cons t r ih =>
    unfold Ost.pieces
    split
    · simp
    · split
      · simp
      · exact ih _
theorem parseOut_err (l : List UInt8) : 0 ≤ (Ost.parseOut l).2 := by
  unfold Ost.parseOut
  split
  · simp
  · split
    · simp
    · exact pieces_err _ _
theorem ofOut_err (l : List Int) : 0 ≤ (ofOut l).2 := by unfold ofOut; split <;> simp
theorem any_has (A : Nat) (n : Int) (hA : A < 18446744073709551616) : (intsOf (Ost.listTo A 64)).any (· == n) = hasB A n := by
  rw [Bool.eq_iff_iff, List.any_eq_true]
  constructor
  · rintro ⟨x, hx, hn⟩
    rw [beq_iff_eq] at hn
    subst hn
    obtain ⟨k, hk, rfl⟩ := List.mem_map.1 hx
    rw [hasB_nat A k hA]
    exact (List.mem_filter.1 hk).2
  · intro h
    unfold hasB at h
    rw [Bool.and_eq_true, decide_eq_true_eq] at h
    obtain ⟨k, rfl⟩ := Int.eq_ofNat_of_zero_le h.1.1
    rw [Int.toNat_natCast] at h
    exact ⟨(k : Int), List.mem_map.2 ⟨k, List.mem_filter.2 ⟨List.mem_range.2 (by omega), h.2⟩, rfl⟩, by simp⟩
set_option maxRecDepth 100000 in
set_option maxHeartbeats 4000000 in
theorem setSays_any (A B : Nat) (n : Int) (v : Value) (xs : List Int) (s : ByteArray) (w : World) (hA : A < 18446744073709551616) (hB : B < 18446744073709551616)
    (hx : IntsAt w v xs) (hl : xs.length ≤ 100) (hs : s.size ≤ 400) (hm : Mx w) (ao : Option Addr) (cap : Nat) (hv : v = .slice ao xs.length cap) :
    Calls Tryd.prog 4 #[.int .u64 A, .int .u64 B, .int .i64 n, v, .string s] w fun e w' => e = .returned (.bool true) ∧ Below w.heap.size w w' := by
  have HM := hideIt' hm
  have HX := hideIt' hx
  clear hm hx
  have r1 := bits_and_u64_nat A B hA hB
  have HO := hideIt' (ofOut_err xs)
  have HPe := hideIt' (parseOut_err s.data.toList)
  obtain ⟨⟨p1, f1⟩, h1⟩ : ∃ p, ofOut xs = p := ⟨_, rfl⟩
  obtain ⟨⟨p2, f2⟩, h2⟩ : ∃ p, Ost.parseOut s.data.toList = p := ⟨_, rfl⟩
  rw [h1] at HO
  rw [h2] at HPe
  have H1 := hideIt' h1
  have H2 := hideIt' h2
  clear h1 h2
  have hll := listTo_le A 64
  have hs2 : s.size ≤ maxLen := by unfold maxLen; omega
  have HS2 := hideIt' hs2
  clear hs2
  have HAny := hideIt' (any_has A n hA)
  rw [hv] at HX ⊢
  clear hv
  go_enter Tryd.func4, Tryd.ntmps4
  go_wp2_with fail
  refine (sets_any _ HM.out).mono ?_
  rintro e w1 ⟨rfl, hB1⟩
  have HM1 := hideIt' (HM.out.below hB1)
  have HX1 := hideIt' (HX.out.below hB1)
  clear HM HX
  go_wp2_with fail
  refine (of_c _ xs p1 f1 _ HX1.out (by omega) H1.out).mono ?_
  rintro e w2 ⟨rfl, rfl⟩
  go_wp2_with fail
  refine (refOf_c _ xs p1 f1 _ HX1.out (by omega) H1.out).mono ?_
  rintro e w3 ⟨rfl, rfl⟩
  clear HX1
  go_wp2_with fail
  refine (same_any f1 _ HO.out).mono ?_
  rintro e w4 ⟨rfl, rfl⟩
  go_wp2_with fail
  refine (list_any A _ hA).mono ?_
  rintro e w5 ⟨v5, rfl, hr5, hb5⟩
  have HI5 := hideIt' (intsAt_row _ hr5)
  have HM5 := hideIt' (HM1.out.below hb5)
  have hB5 := hB1.trans (hb5.mono hB1.size)
  clear hr5 hb5 HM1 hB1
  go_wp2_with fail
  refine (refList_any A _ hA).mono ?_
  rintro e w6 ⟨v6, rfl, hr6, hb6⟩
  have HI6 := hideIt' (intsAt_row _ hr6)
  have HI56 := hideIt' (HI5.out.below hb6)
  have HM6 := hideIt' (HM5.out.below hb6)
  have hB6 := hB5.trans (hb6.mono hB5.size)
  clear hr6 hb6 HM5 hB5 HI5
  go_wp2_with fail
  refine (sameN_eq v5 v6 _ _ HI56.out HI6.out (by simp [intsOf]; omega)).mono ?_
  rintro e w7 ⟨rfl, hb7⟩
  have HM7 := hideIt' (HM6.out.below hb7)
  have hB7 := hB6.trans (hb7.mono hB6.size)
  clear hb7 HM6 hB6 HI56 HI6
  go_wp2_with fail
  refine (count_any A _ hA).mono ?_
  rintro e w8 ⟨rfl, rfl⟩
  go_wp2_with fail
  refine (refCount_any A _ hA).mono ?_
  rintro e w9 ⟨rfl, hb9⟩
  have HM9 := hideIt' (HM7.out.below hb9)
  have hB9 := hB7.trans (hb9.mono hB7.size)
  clear hb9 HM7 hB7
  go_wp2_with fail
  refine (inside_e A B _ hA hB).mono ?_
  rintro e w10 ⟨rfl, rfl⟩
  go_wp2_with fail
  refine (text_any A _ hA).mono ?_
  rintro e w11 ⟨rfl, hb11⟩
  have HM11 := hideIt' (HM9.out.below hb11)
  have hB11 := hB9.trans (hb11.mono hB9.size)
  clear hb11 HM9 hB9
  go_wp2_with fail
  refine (setText_any A _ hA).mono ?_
  rintro e w12 ⟨rfl, hb12⟩
  have HM12 := hideIt' (HM11.out.below hb12)
  have hB12 := hB11.trans (hb12.mono hB11.size)
  clear hb12 HM11 hB11
  go_wp2_with fail
  refine (refList_any A _ hA).mono ?_
  rintro e w13 ⟨v13, rfl, hr13, hb13⟩
  have HM13 := hideIt' (HM12.out.below hb13)
  have hB13 := hB12.trans (hb13.mono hB12.size)
  rcases ownsRow_cells hr13 with ⟨hv13, h00⟩ | ⟨g, c13, hv13, _, _, hcell⟩
  · have HF : Hid (hasB A n = false) := by
      have h := HAny.out
      rw [List.eq_nil_of_length_eq_zero h00] at h
      exact h.symm
    rw [hv13]
    clear hr13 hb13 HM12 hB12 hv13
    go_wp2_with fail
    go_loop [16, 88] (fun h i => h = .bool (hasB A n) ∧ i = .int .i64 0) (fun _ _ => 0)
    case atStart => exact ⟨by rw [HF.out], rfl⟩
    case round =>
      obtain ⟨rfl, rfl⟩ := hrel
      go_wp2_with fail
      refine (parse_c s p2 f2 _ HS2.out HM13.out H2.out).mono ?_
      rintro e w14 ⟨rfl, hb14⟩
      have hB14 := hB13.trans (hb14.mono hB13.size)
      clear hb14
      go_wp2_with fail
      refine (readSet_c s p2 f2 _ HS2.out H2.out).mono ?_
      rintro e w15 ⟨rfl, hb15⟩
      have hB15 := hB14.trans (hb15.mono hB14.size)
      clear hb15
      go_wp2_with fail
      refine (same_any f2 _ HPe.out).mono ?_
      rintro e w16 ⟨rfl, rfl⟩
      go_wp2_with fail
      refine (has_gen A n _ hA).mono ?_
      rintro e w17 ⟨rfl, rfl⟩
      go_wp2_with fail
      go_ret
      exact ⟨rfl, hB15⟩
  · have HC : Hid (∀ k, k < (Ost.listTo A 64).length → w13.cell? ⟨g, k, none⟩ = some (.int .i64 ((intsOf (Ost.listTo A 64)).getD k 0))) := by
      intro k hk
      apply hcell
      simp [nums, intsOf, hk]
    rw [hv13]
    clear hr13 hb13 HM12 hB12 hcell hv13
    have hln : (intsOf (Ost.listTo A 64)).length = (Ost.listTo A 64).length := by simp [intsOf]
    have HLn := hideIt' hln
    generalize intsOf (Ost.listTo A 64) = ys at HC HAny HLn
    clear hln
    go_wp2_with fail
    go_loop [16, 88] (fun h i => ∃ j : Nat, j ≤ (Ost.listTo A 64).length ∧ i = .int .i64 j ∧ h = .bool ((ys.take j).any (· == n))) (fun _ i => (Ost.listTo A 64).length - (intOf i).toNat)
    case atStart => exact ⟨0, by omega, rfl, rfl⟩
    case round =>
      obtain ⟨j, hj, rfl, rfl⟩ := hrel
      by_cases hlt : j < (Ost.listTo A 64).length
      · have hcell := HC.out j hlt
        have hts : ys.take (j + 1) = ys.take j ++ [ys.getD j 0] := by
          have hj2 : j < ys.length := by rw [HLn.out]; exact hlt
          rw [List.take_succ_eq_append_getElem hj2]; simp [hj2]
        have HN : Hid ((ys.take (j + 1)).any (· == n) = ((ys.take j).any (· == n) || (ys.getD j 0 == n))) := by
          unfold Hid; rw [hts, List.any_append]; simp
        generalize ys.getD j 0 = y at hcell HN
        clear hts
        rcases two' ((ys.take j).any (· == n)) with hb | hb
        · rw [hb] at HN ⊢
          clear hb
          go_wp2_with fail
          go_round
          case rel => exact ⟨j + 1, by omega, by go_num, by rw [HN.out]; rfl⟩
          case measure => simp [intOf]; omega
        · rw [hb] at HN ⊢
          clear hb
          go_wp2_with fail
          go_round
          case rel => exact ⟨j + 1, by omega, by go_num, by rw [HN.out]; rfl⟩
          case measure => simp [intOf]; omega
      · have hfull : (ys.take j).any (· == n) = hasB A n := by
          rw [List.take_of_length_le (by rw [HLn.out]; omega)]; exact HAny.out
        rw [hfull]
        clear hfull
        go_wp2_with fail
        refine (parse_c s p2 f2 _ HS2.out HM13.out H2.out).mono ?_
        rintro e w14 ⟨rfl, hb14⟩
        have hB14 := hB13.trans (hb14.mono hB13.size)
        clear hb14
        go_wp2_with fail
        refine (readSet_c s p2 f2 _ HS2.out H2.out).mono ?_
        rintro e w15 ⟨rfl, hb15⟩
        have hB15 := hB14.trans (hb15.mono hB14.size)
        clear hb15
        go_wp2_with fail
        refine (same_any f2 _ HPe.out).mono ?_
        rintro e w16 ⟨rfl, rfl⟩
        go_wp2_with fail
        refine (has_gen A n _ hA).mono ?_
        rintro e w17 ⟨rfl, rfl⟩
        go_wp2_with fail
        go_ret
        exact ⟨rfl, hB15⟩
set_option maxHeartbeats 1000000 in
theorem setSays_long (A B : Nat) (n : Int) (ao : Option Addr) (len cap : Nat) (s : ByteArray) (w : World) (hlen : len ≤ maxLen) (hs2 : s.size ≤ maxLen) (h : 100 < len ∨ 400 < s.size) (hm : Mx w) :
    Calls Tryd.prog 4 #[.int .u64 A, .int .u64 B, .int .i64 n, .slice ao len cap, .string s] w fun e w' => e = .returned (.bool true) ∧ Below w.heap.size w w' := by
  unfold maxLen at hlen hs2
  have HM := hideIt' hm
  clear hm
  have key : 100 < len ∨ (len ≤ 100 ∧ 400 < s.size) := by omega
  clear h
  rcases key with h | ⟨h1, h⟩
  all_goals
    go_enter Tryd.func4, Tryd.ntmps4
    go_wp2_with fail
    refine (sets_any _ HM.out).mono ?_
    rintro e w1 ⟨rfl, hB1⟩
    go_wp2_with fail
    go_ret
    exact ⟨rfl, hB1⟩
end Go.Proofs.YtfnkmlpgfohjnaaDoor
