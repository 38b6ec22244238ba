/- What the document's own answer to B2 is: texts that bear Ki and Mi. -/
import Derived.Test.YtfnkmlpgfohjnaaDoorRef4a
namespace Go.Proofs.YtfnkmlpgfohjnaaDoor
open Go.RowKit
set_option maxHeartbeats 1000000 in
theorem refBytes_k (s : ByteArray) (w : World) (hs : s.size ≤ 100) (h1 : 2 ≤ s.size) (h2 : s[s.size - 1].toNat = 105) (h3 : s[s.size - 2].toNat = 75) :
    Calls Tryd.prog 28 #[.string s] w fun e w' => e = .returned (twoNums (Ost.bytesOut s.data.toList)) ∧ w' = w := by
  have HL : Hid (s.data.toList.length = s.size) := by unfold Hid; simp
  have hC : Ost.cutUnit s.data.toList = (s.data.toList.take (s.data.toList.length - 2), 1024) := by
    have e1 : s[s.size - 1] = (105 : UInt8) := (Ost.u8_eq _ 105 (by omega)).2 h2
    have e2 : s[s.size - 2] = (75 : UInt8) := (Ost.u8_eq _ 75 (by omega)).2 h3
    have hsf : Lib.hasSuffix s.data.toList [75, 105] = true := by rw [suffix_two s h1, e1, e2]; rfl
    have ht : Lib.trimSuffix s.data.toList [75, 105] = s.data.toList.take (s.data.toList.length - 2) := by simp [Lib.trimSuffix, hsf]
    rw [← ht]
    simp only [Ost.cutUnit, hsf, if_true]
  have HF := hideIt (bytes_fin _ 2 1024 hC (by omega))
  rw [HL.out] at HF
  have hi : ((s[s.size - 1].toNat : Int) == 105) = true := by rw [h2]; rfl
  have hu75 : ((s[s.size - 2].toNat : Int) == 75) = true := by rw [h3]; rfl
  clear h2 h3
  clear hC
  have HD : Hid ((s.extract 0 (s.size - 2)).data.toList = s.data.toList.take (s.size - 2)) := by
    unfold Hid; rw [extract_list, List.drop_zero]
  have HSZ : Hid ((s.extract 0 (s.size - 2)).size ≤ maxLen) := by unfold Hid; rw [ByteArray.size_extract]; unfold maxLen; omega
  generalize s.data.toList.take (s.size - 2) = L at HF HD
  rcases two (Ost.isNum L) with hn | hn
  · have hv0 := Ost.val_nonneg L ((Ost.isNum_iff L).1 hn).2.2
    have HN := hideIt hn
    clear hn
    obtain ⟨k, hk⟩ : ∃ k, min (Ost.val L) (1125899906842624 + 1) = k := ⟨_, rfl⟩
    have hk0 : 0 ≤ k := by omega
    have hk1 : k ≤ 1125899906842625 := by omega
    have HK := hideIt hk
    clear hk
    by_cases h16 : 16 < s.size - 2
    · have H : Hid (Ost.bytesOut s.data.toList = (0, 4)) := HF.out.2.1 h16
      clear HF
      go_enter Tryd.func28, Tryd.ntmps28
      go_wp2_with fail
      refine (digits_yes _ 1125899906842624 k _ HSZ.out (by omega) (by omega) (by rw [HD.out]; exact HN.out) (by rw [HD.out]; exact HK.out)).mono ?_; rintro e w' ⟨rfl, rfl⟩
      go_wp2_with fail
      go_ret2
      exact ⟨congrArg Ending.returned (congrArg twoNums H.out).symm, rfl⟩
    · by_cases hb : 1125899906842624 / 1024 < k
      · have H : Hid (Ost.bytesOut s.data.toList = (0, 1)) := (HF.out.2.2 k HN.out (by omega) HK.out).1 hb
        clear HF
        go_enter Tryd.func28, Tryd.ntmps28
        go_wp2_with fail
        refine (digits_yes _ 1125899906842624 k _ HSZ.out (by omega) (by omega) (by rw [HD.out]; exact HN.out) (by rw [HD.out]; exact HK.out)).mono ?_; rintro e w' ⟨rfl, rfl⟩
        go_wp2_with fail
        go_ret2
        exact ⟨congrArg Ending.returned (congrArg twoNums H.out).symm, rfl⟩
      · have H : Hid (Ost.bytesOut s.data.toList = (k * 1024, 0)) := (HF.out.2.2 k HN.out (by omega) HK.out).2 hb
        clear HF
        go_enter Tryd.func28, Tryd.ntmps28
        go_wp2_with fail
        refine (digits_yes _ 1125899906842624 k _ HSZ.out (by omega) (by omega) (by rw [HD.out]; exact HN.out) (by rw [HD.out]; exact HK.out)).mono ?_; rintro e w' ⟨rfl, rfl⟩
        go_wp2_with fail
        go_ret2
        exact ⟨by rw [H.out]; rfl, rfl⟩
  · have H : Hid (Ost.bytesOut s.data.toList = (0, 4)) := HF.out.1 hn
    have HN := hideIt hn
    clear HF hn
    go_enter Tryd.func28, Tryd.ntmps28
    go_wp2_with fail
    refine (digits_no _ 1125899906842624 _ HSZ.out (by omega) (by omega) (by rw [HD.out]; exact HN.out)).mono ?_; rintro e w' ⟨rfl, rfl⟩
    go_wp2_with fail
    go_ret2
    exact ⟨congrArg Ending.returned (congrArg twoNums H.out).symm, rfl⟩
set_option maxHeartbeats 1000000 in
theorem refBytes_m (s : ByteArray) (w : World) (hs : s.size ≤ 100) (h1 : 2 ≤ s.size) (h2 : s[s.size - 1].toNat = 105) (h3 : s[s.size - 2].toNat = 77) :
    Calls Tryd.prog 28 #[.string s] w fun e w' => e = .returned (twoNums (Ost.bytesOut s.data.toList)) ∧ w' = w := by
  have HL : Hid (s.data.toList.length = s.size) := by unfold Hid; simp
  have hC : Ost.cutUnit s.data.toList = (s.data.toList.take (s.data.toList.length - 2), 1048576) := by
    have e1 : s[s.size - 1] = (105 : UInt8) := (Ost.u8_eq _ 105 (by omega)).2 h2
    have e2 : s[s.size - 2] = (77 : UInt8) := (Ost.u8_eq _ 77 (by omega)).2 h3
    have hsf : Lib.hasSuffix s.data.toList [77, 105] = true := by rw [suffix_two s h1, e1, e2]; rfl
    have ht : Lib.trimSuffix s.data.toList [77, 105] = s.data.toList.take (s.data.toList.length - 2) := by simp [Lib.trimSuffix, hsf]
    have n75 : Lib.hasSuffix s.data.toList [75, 105] = false := by rw [suffix_two s h1, e1, e2]; rfl
    rw [← ht]
    simp only [Ost.cutUnit, hsf, n75, Bool.false_eq_true, if_false, if_true]
  have HF := hideIt (bytes_fin _ 2 1048576 hC (by omega))
  rw [HL.out] at HF
  have hi : ((s[s.size - 1].toNat : Int) == 105) = true := by rw [h2]; rfl
  have hu75 : ((s[s.size - 2].toNat : Int) == 75) = false := by rw [h3]; rfl
  have hu77 : ((s[s.size - 2].toNat : Int) == 77) = true := by rw [h3]; rfl
  clear h2 h3
  clear hC
  have HD : Hid ((s.extract 0 (s.size - 2)).data.toList = s.data.toList.take (s.size - 2)) := by
    unfold Hid; rw [extract_list, List.drop_zero]
  have HSZ : Hid ((s.extract 0 (s.size - 2)).size ≤ maxLen) := by unfold Hid; rw [ByteArray.size_extract]; unfold maxLen; omega
  generalize s.data.toList.take (s.size - 2) = L at HF HD
  rcases two (Ost.isNum L) with hn | hn
  · have hv0 := Ost.val_nonneg L ((Ost.isNum_iff L).1 hn).2.2
    have HN := hideIt hn
    clear hn
    obtain ⟨k, hk⟩ : ∃ k, min (Ost.val L) (1125899906842624 + 1) = k := ⟨_, rfl⟩
    have hk0 : 0 ≤ k := by omega
    have hk1 : k ≤ 1125899906842625 := by omega
    have HK := hideIt hk
    clear hk
    by_cases h16 : 16 < s.size - 2
    · have H : Hid (Ost.bytesOut s.data.toList = (0, 4)) := HF.out.2.1 h16
      clear HF
      go_enter Tryd.func28, Tryd.ntmps28
      go_wp2_with fail
      refine (digits_yes _ 1125899906842624 k _ HSZ.out (by omega) (by omega) (by rw [HD.out]; exact HN.out) (by rw [HD.out]; exact HK.out)).mono ?_; rintro e w' ⟨rfl, rfl⟩
      go_wp2_with fail
      go_ret2
      exact ⟨congrArg Ending.returned (congrArg twoNums H.out).symm, rfl⟩
    · by_cases hb : 1125899906842624 / 1048576 < k
      · have H : Hid (Ost.bytesOut s.data.toList = (0, 1)) := (HF.out.2.2 k HN.out (by omega) HK.out).1 hb
        clear HF
        go_enter Tryd.func28, Tryd.ntmps28
        go_wp2_with fail
        refine (digits_yes _ 1125899906842624 k _ HSZ.out (by omega) (by omega) (by rw [HD.out]; exact HN.out) (by rw [HD.out]; exact HK.out)).mono ?_; rintro e w' ⟨rfl, rfl⟩
        go_wp2_with fail
        go_ret2
        exact ⟨congrArg Ending.returned (congrArg twoNums H.out).symm, rfl⟩
      · have H : Hid (Ost.bytesOut s.data.toList = (k * 1048576, 0)) := (HF.out.2.2 k HN.out (by omega) HK.out).2 hb
        clear HF
        go_enter Tryd.func28, Tryd.ntmps28
        go_wp2_with fail
        refine (digits_yes _ 1125899906842624 k _ HSZ.out (by omega) (by omega) (by rw [HD.out]; exact HN.out) (by rw [HD.out]; exact HK.out)).mono ?_; rintro e w' ⟨rfl, rfl⟩
        go_wp2_with fail
        go_ret2
        exact ⟨by rw [H.out]; rfl, rfl⟩
  · have H : Hid (Ost.bytesOut s.data.toList = (0, 4)) := HF.out.1 hn
    have HN := hideIt hn
    clear HF hn
    go_enter Tryd.func28, Tryd.ntmps28
    go_wp2_with fail
    refine (digits_no _ 1125899906842624 _ HSZ.out (by omega) (by omega) (by rw [HD.out]; exact HN.out)).mono ?_; rintro e w' ⟨rfl, rfl⟩
    go_wp2_with fail
    go_ret2
    exact ⟨congrArg Ending.returned (congrArg twoNums H.out).symm, rfl⟩
end Go.Proofs.YtfnkmlpgfohjnaaDoor
