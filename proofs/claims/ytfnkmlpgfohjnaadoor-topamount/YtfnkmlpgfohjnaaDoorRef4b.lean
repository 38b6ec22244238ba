/- What the document's own answer to B2 is: texts that bear no unit. -/
import Derived.Test.YtfnkmlpgfohjnaaDoorRef4a
namespace Go.Proofs.YtfnkmlpgfohjnaaDoor
open Go.RowKit
set_option maxHeartbeats 1000000 in
theorem refBytes_short (s : ByteArray) (w : World) (hs : s.size ≤ 100) (h1 : s.size ≤ 1) :
    Calls Tryd.prog 28 #[.string s] w fun e w' => e = .returned (twoNums (Ost.bytesOut s.data.toList)) ∧ w' = w := by
  have HL : Hid (s.data.toList.length = s.size) := by unfold Hid; simp
  have hC : Ost.cutUnit s.data.toList = (s.data.toList.take (s.data.toList.length - 0), 1) := by
    have hl : s.data.toList.length ≤ 1 := by rw [HL.out]; exact h1
    rw [Nat.sub_zero, List.take_of_length_le (Nat.le_refl _)]
    simp only [Ost.cutUnit, suffix_short _ hl, Bool.false_eq_true, if_false]
  have HF := hideIt (bytes_fin _ 0 1 hC (by omega))
  rw [HL.out] at HF

  clear hC
  have HD : Hid (s.data.toList = s.data.toList.take (s.size - 0)) := by
    unfold Hid; rw [List.take_of_length_le (by rw [HL.out]; omega)]
  have HSZ : Hid (s.size ≤ maxLen) := by unfold Hid; unfold maxLen; omega
  generalize s.data.toList.take (s.size - 0) = L at HF HD
  rcases two (Ost.isNum L) with hn | hn
  · have hv0 := Ost.val_nonneg L ((Ost.isNum_iff L).1 hn).2.2
    have HN := hideIt hn
    clear hn
    obtain ⟨k, hk⟩ : ∃ k, min (Ost.val L) (1125899906842624 + 1) = k := ⟨_, rfl⟩
    have hk0 : 0 ≤ k := by omega
    have hk1 : k ≤ 1125899906842625 := by omega
    have HK := hideIt hk
    clear hk
    by_cases h16 : 16 < s.size - 0
    · exact absurd h16 (by omega)
    · by_cases hb : 1125899906842624 / 1 < k
      · have H : Hid (Ost.bytesOut s.data.toList = (0, 1)) := (HF.out.2.2 k HN.out (by omega) HK.out).1 hb
        clear HF
        go_enter Tryd.func28, Tryd.ntmps28
        go_wp2_with fail
        refine (digits_yes _ 1125899906842624 k _ HSZ.out (by omega) (by omega) (by rw [HD.out]; exact HN.out) (by rw [HD.out]; exact HK.out)).mono ?_; rintro e w' ⟨rfl, rfl⟩
        go_wp2_with fail
        go_ret2
        exact ⟨congrArg Ending.returned (congrArg twoNums H.out).symm, rfl⟩
      · have H : Hid (Ost.bytesOut s.data.toList = (k * 1, 0)) := (HF.out.2.2 k HN.out (by omega) HK.out).2 hb
        clear HF
        go_enter Tryd.func28, Tryd.ntmps28
        go_wp2_with fail
        refine (digits_yes _ 1125899906842624 k _ HSZ.out (by omega) (by omega) (by rw [HD.out]; exact HN.out) (by rw [HD.out]; exact HK.out)).mono ?_; rintro e w' ⟨rfl, rfl⟩
        go_wp2_with fail
        go_ret2
        exact ⟨by rw [H.out]; simp [twoNums], rfl⟩
  · have H : Hid (Ost.bytesOut s.data.toList = (0, 4)) := HF.out.1 hn
    have HN := hideIt hn
    clear HF hn
    go_enter Tryd.func28, Tryd.ntmps28
    go_wp2_with fail
    refine (digits_no _ 1125899906842624 _ HSZ.out (by omega) (by omega) (by rw [HD.out]; exact HN.out)).mono ?_; rintro e w' ⟨rfl, rfl⟩
    go_wp2_with fail
    go_ret2
    exact ⟨congrArg Ending.returned (congrArg twoNums H.out).symm, rfl⟩
set_option maxHeartbeats 1000000 in
theorem refBytes_noi (s : ByteArray) (w : World) (hs : s.size ≤ 100) (h1 : 2 ≤ s.size) (h2 : s[s.size - 1].toNat ≠ 105) :
    Calls Tryd.prog 28 #[.string s] w fun e w' => e = .returned (twoNums (Ost.bytesOut s.data.toList)) ∧ w' = w := by
  have HL : Hid (s.data.toList.length = s.size) := by unfold Hid; simp
  have hC : Ost.cutUnit s.data.toList = (s.data.toList.take (s.data.toList.length - 0), 1) := by
    have e : (s[s.size - 1] = (105 : UInt8)) = False := eq_false fun h => h2 (by rw [h]; rfl)
    rw [Nat.sub_zero, List.take_of_length_le (Nat.le_refl _)]
    simp [Ost.cutUnit, suffix_two s h1, e]
  have HF := hideIt (bytes_fin _ 0 1 hC (by omega))
  rw [HL.out] at HF
  have hi : ((s[s.size - 1].toNat : Int) == 105) = false := by simp only [beq_eq_false_iff_ne, ne_eq]; omega
  clear h2
  clear hC
  have HD : Hid (s.data.toList = s.data.toList.take (s.size - 0)) := by
    unfold Hid; rw [List.take_of_length_le (by rw [HL.out]; omega)]
  have HSZ : Hid (s.size ≤ maxLen) := by unfold Hid; unfold maxLen; omega
  generalize s.data.toList.take (s.size - 0) = L at HF HD
  rcases two (Ost.isNum L) with hn | hn
  · have hv0 := Ost.val_nonneg L ((Ost.isNum_iff L).1 hn).2.2
    have HN := hideIt hn
    clear hn
    obtain ⟨k, hk⟩ : ∃ k, min (Ost.val L) (1125899906842624 + 1) = k := ⟨_, rfl⟩
    have hk0 : 0 ≤ k := by omega
    have hk1 : k ≤ 1125899906842625 := by omega
    have HK := hideIt hk
    clear hk
    by_cases h16 : 16 < s.size - 0
    · have H : Hid (Ost.bytesOut s.data.toList = (0, 4)) := HF.out.2.1 h16
      clear HF
      go_enter Tryd.func28, Tryd.ntmps28
      go_wp2_with fail
      refine (digits_yes _ 1125899906842624 k _ HSZ.out (by omega) (by omega) (by rw [HD.out]; exact HN.out) (by rw [HD.out]; exact HK.out)).mono ?_; rintro e w' ⟨rfl, rfl⟩
      go_wp2_with fail
      go_ret2
      exact ⟨congrArg Ending.returned (congrArg twoNums H.out).symm, rfl⟩
    · by_cases hb : 1125899906842624 / 1 < k
      · have H : Hid (Ost.bytesOut s.data.toList = (0, 1)) := (HF.out.2.2 k HN.out (by omega) HK.out).1 hb
        clear HF
        go_enter Tryd.func28, Tryd.ntmps28
        go_wp2_with fail
        refine (digits_yes _ 1125899906842624 k _ HSZ.out (by omega) (by omega) (by rw [HD.out]; exact HN.out) (by rw [HD.out]; exact HK.out)).mono ?_; rintro e w' ⟨rfl, rfl⟩
        go_wp2_with fail
        go_ret2
        exact ⟨congrArg Ending.returned (congrArg twoNums H.out).symm, rfl⟩
      · have H : Hid (Ost.bytesOut s.data.toList = (k * 1, 0)) := (HF.out.2.2 k HN.out (by omega) HK.out).2 hb
        clear HF
        go_enter Tryd.func28, Tryd.ntmps28
        go_wp2_with fail
        refine (digits_yes _ 1125899906842624 k _ HSZ.out (by omega) (by omega) (by rw [HD.out]; exact HN.out) (by rw [HD.out]; exact HK.out)).mono ?_; rintro e w' ⟨rfl, rfl⟩
        go_wp2_with fail
        go_ret2
        exact ⟨by rw [H.out]; simp [twoNums], rfl⟩
  · have H : Hid (Ost.bytesOut s.data.toList = (0, 4)) := HF.out.1 hn
    have HN := hideIt hn
    clear HF hn
    go_enter Tryd.func28, Tryd.ntmps28
    go_wp2_with fail
    refine (digits_no _ 1125899906842624 _ HSZ.out (by omega) (by omega) (by rw [HD.out]; exact HN.out)).mono ?_; rintro e w' ⟨rfl, rfl⟩
    go_wp2_with fail
    go_ret2
    exact ⟨congrArg Ending.returned (congrArg twoNums H.out).symm, rfl⟩
set_option maxHeartbeats 1000000 in
theorem refBytes_other (s : ByteArray) (w : World) (hs : s.size ≤ 100) (h1 : 2 ≤ s.size) (h2 : s[s.size - 1].toNat = 105) (h3 : s[s.size - 2].toNat ≠ 75 ∧ s[s.size - 2].toNat ≠ 77 ∧ s[s.size - 2].toNat ≠ 71 ∧ s[s.size - 2].toNat ≠ 84) :
    Calls Tryd.prog 28 #[.string s] w fun e w' => e = .returned (twoNums (Ost.bytesOut s.data.toList)) ∧ w' = w := by
  have HL : Hid (s.data.toList.length = s.size) := by unfold Hid; simp
  have hC : Ost.cutUnit s.data.toList = (s.data.toList.take (s.data.toList.length - 0), 1) := by
    have no : ∀ c : UInt8, s[s.size - 2].toNat ≠ c.toNat → Lib.hasSuffix s.data.toList [c, 105] = false := fun c hc => by
      rw [suffix_two s h1, decide_eq_false (fun h => hc (by rw [h]))]; rfl
    rw [Nat.sub_zero, List.take_of_length_le (Nat.le_refl _)]
    simp [Ost.cutUnit, no 75 h3.1, no 77 h3.2.1, no 71 h3.2.2.1, no 84 h3.2.2.2]
  have HF := hideIt (bytes_fin _ 0 1 hC (by omega))
  rw [HL.out] at HF
  have hi : ((s[s.size - 1].toNat : Int) == 105) = true := by rw [h2]; rfl
  have hu75 : ((s[s.size - 2].toNat : Int) == 75) = false := by simp only [beq_eq_false_iff_ne, ne_eq]; omega
  have hu77 : ((s[s.size - 2].toNat : Int) == 77) = false := by simp only [beq_eq_false_iff_ne, ne_eq]; omega
  have hu71 : ((s[s.size - 2].toNat : Int) == 71) = false := by simp only [beq_eq_false_iff_ne, ne_eq]; omega
  have hu84 : ((s[s.size - 2].toNat : Int) == 84) = false := by simp only [beq_eq_false_iff_ne, ne_eq]; omega
  clear h2 h3
  clear hC
  have HD : Hid (s.data.toList = s.data.toList.take (s.size - 0)) := by
    unfold Hid; rw [List.take_of_length_le (by rw [HL.out]; omega)]
  have HSZ : Hid (s.size ≤ maxLen) := by unfold Hid; unfold maxLen; omega
  generalize s.data.toList.take (s.size - 0) = L at HF HD
  rcases two (Ost.isNum L) with hn | hn
  · have hv0 := Ost.val_nonneg L ((Ost.isNum_iff L).1 hn).2.2
    have HN := hideIt hn
    clear hn
    obtain ⟨k, hk⟩ : ∃ k, min (Ost.val L) (1125899906842624 + 1) = k := ⟨_, rfl⟩
    have hk0 : 0 ≤ k := by omega
    have hk1 : k ≤ 1125899906842625 := by omega
    have HK := hideIt hk
    clear hk
    by_cases h16 : 16 < s.size - 0
    · have H : Hid (Ost.bytesOut s.data.toList = (0, 4)) := HF.out.2.1 h16
      clear HF
      go_enter Tryd.func28, Tryd.ntmps28
      go_wp2_with fail
      refine (digits_yes _ 1125899906842624 k _ HSZ.out (by omega) (by omega) (by rw [HD.out]; exact HN.out) (by rw [HD.out]; exact HK.out)).mono ?_; rintro e w' ⟨rfl, rfl⟩
      go_wp2_with fail
      go_ret2
      exact ⟨congrArg Ending.returned (congrArg twoNums H.out).symm, rfl⟩
    · by_cases hb : 1125899906842624 / 1 < k
      · have H : Hid (Ost.bytesOut s.data.toList = (0, 1)) := (HF.out.2.2 k HN.out (by omega) HK.out).1 hb
        clear HF
        go_enter Tryd.func28, Tryd.ntmps28
        go_wp2_with fail
        refine (digits_yes _ 1125899906842624 k _ HSZ.out (by omega) (by omega) (by rw [HD.out]; exact HN.out) (by rw [HD.out]; exact HK.out)).mono ?_; rintro e w' ⟨rfl, rfl⟩
        go_wp2_with fail
        go_ret2
        exact ⟨congrArg Ending.returned (congrArg twoNums H.out).symm, rfl⟩
      · have H : Hid (Ost.bytesOut s.data.toList = (k * 1, 0)) := (HF.out.2.2 k HN.out (by omega) HK.out).2 hb
        clear HF
        go_enter Tryd.func28, Tryd.ntmps28
        go_wp2_with fail
        refine (digits_yes _ 1125899906842624 k _ HSZ.out (by omega) (by omega) (by rw [HD.out]; exact HN.out) (by rw [HD.out]; exact HK.out)).mono ?_; rintro e w' ⟨rfl, rfl⟩
        go_wp2_with fail
        go_ret2
        exact ⟨by rw [H.out]; simp [twoNums], rfl⟩
  · have H : Hid (Ost.bytesOut s.data.toList = (0, 4)) := HF.out.1 hn
    have HN := hideIt hn
    clear HF hn
    go_enter Tryd.func28, Tryd.ntmps28
    go_wp2_with fail
    refine (digits_no _ 1125899906842624 _ HSZ.out (by omega) (by omega) (by rw [HD.out]; exact HN.out)).mono ?_; rintro e w' ⟨rfl, rfl⟩
    go_wp2_with fail
    go_ret2
    exact ⟨congrArg Ending.returned (congrArg twoNums H.out).symm, rfl⟩
end Go.Proofs.YtfnkmlpgfohjnaaDoor
