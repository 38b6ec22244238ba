/- Names: contracts. -/
import Derived.Test.YthekalhceamcoaaDEnv
import Derived.Test.YthekalhceamcoaaNum
namespace Go.Proofs.Ythekalhceamcoaa
open Go.RowKit
open Dvs (Dv dv0 dv nth isLet isNum okB allTo nameMay)
set_option maxHeartbeats 400000 in
theorem letter_any (x : UInt8) (w : World) : Calls Try.prog 99 #[.int .u8 x.toNat] w fun e w' => e = .returned (.bool (isLet x)) ∧ w' = w := by
  unfold isLet
  by_cases h1 : 97 ≤ x.toNat
  all_goals by_cases h2 : x.toNat ≤ 122
  · go_enter Try.func99, Try.ntmps99
    go_wp2_with fail
    go_ret
    refine ⟨?_, rfl⟩
    simp [h1, h2]
    try omega
  · go_enter Try.func99, Try.ntmps99
    go_wp2_with fail
    go_ret
    refine ⟨?_, rfl⟩
    simp [h1, h2]
    try omega
  · go_enter Try.func99, Try.ntmps99
    go_wp2_with fail
    go_ret
    refine ⟨?_, rfl⟩
    simp
    try omega
  · omega
theorem digit_bool (x : UInt8) (w : World) : Calls Try.prog 98 #[.int .u8 x.toNat] w fun e w' => (∃ n, e = .returned (.tuple #[.int .i64 n, .bool (isNum x)])) ∧ w' = w := by
  cases h : isNum x
  · exact (digit_no x w h).mono fun e w' ⟨he, hw⟩ => ⟨⟨_, he⟩, hw⟩
  · exact (digit_yes x w h).mono fun e w' ⟨he, hw⟩ => ⟨⟨_, he⟩, hw⟩
set_option maxHeartbeats 1000000 in
theorem name_any (s : ByteArray) (w : World) : Calls Try.prog 39 #[.string s] w fun e w' => e = .returned (.bool (nameMay s)) ∧ w' = w := by
  by_cases he : s.size = 0
  · have hem : s.toList.isEmpty = true := by rw [Ost.toList_isEmpty]; simp [he]
    rw [Dvs.nameMay_none he]
    clear he
    go_enter Try.func39, Try.ntmps39
    go_wp2_with fail
    go_ret
    exact ⟨rfl, rfl⟩
  have hem : s.toList.isEmpty = false := by rw [Ost.toList_isEmpty]; simp [he]
  by_cases h8 : 8 < s.size
  · rw [Dvs.nameMay_long h8]
    go_enter Try.func39, Try.ntmps39
    go_wp2_with fail
    go_ret
    exact ⟨rfl, rfl⟩
  have h8' : s.size ≤ 8 := by omega
  rw [Dvs.nameMay_all (by omega) h8']
  clear h8 he
  go_enter Try.func39, Try.ntmps39
  go_wp2_with fail
  go_loop [15] (fun i => ∃ k : Nat, k ≤ s.size ∧ i = .int .i64 k ∧ Hid (allTo (okB s) k = true)) (fun i => s.size - (intOf i).toNat)
  case atStart => exact ⟨0, Nat.zero_le _, rfl, rfl⟩
  case round =>
    obtain ⟨k, hk, rfl, HA⟩ := hrel
    by_cases hlt : k < s.size
    · have HO := hideIt (Dvs.okB_at s k hlt)
      rcases two (isLet s[k]) with hl | hl
      · have HN : Hid (allTo (okB s) (k + 1) = true) := Dvs.allTo_yes HA.out (by rw [HO.out, hl]; rfl)
        go_wp2_with fail
        refine (digit_bool _ _).mono ?_
        rintro e w1 ⟨⟨n, rfl⟩, rfl⟩
        go_wp2_with fail
        refine (letter_any _ _).mono ?_
        rintro e w1 ⟨rfl, rfl⟩
        rw [hl]
        go_wp2_with fail
        go_round
        case rel => exact ⟨k + 1, by omega, by go_num, HN⟩
        case measure => simp [intOf]; omega
      · rcases two (isNum s[k]) with hn | hn
        · by_cases h0 : 0 < k
          · have HN : Hid (allTo (okB s) (k + 1) = true) := Dvs.allTo_yes HA.out (by rw [HO.out, hl, hn, decide_eq_true h0]; rfl)
            go_wp2_with fail
            refine (digit_bool _ _).mono ?_
            rintro e w1 ⟨⟨n, rfl⟩, rfl⟩
            rw [hn]
            go_wp2_with fail
            refine (letter_any _ _).mono ?_
            rintro e w1 ⟨rfl, rfl⟩
            rw [hl]
            go_wp2_with fail
            go_round
            case rel => exact ⟨k + 1, by omega, by go_num, HN⟩
            case measure => simp [intOf]; omega
          · have HN : Hid (allTo (okB s) s.size = false) := Dvs.allTo_no (k := k) (by rw [HO.out, hl, hn, decide_eq_false h0]; rfl) hlt
            have hk0 : k = 0 := by omega
            subst hk0
            go_wp2_with fail
            refine (digit_bool _ _).mono ?_
            rintro e w1 ⟨⟨n, rfl⟩, rfl⟩
            rw [hn]
            go_wp2_with fail
            refine (letter_any _ _).mono ?_
            rintro e w1 ⟨rfl, rfl⟩
            rw [hl]
            go_wp2_with fail
            go_ret
            exact ⟨congrArg (fun b => Ending.returned (.bool b)) HN.out.symm, rfl⟩
        · have HN : Hid (allTo (okB s) s.size = false) := Dvs.allTo_no (k := k) (by rw [HO.out, hl, hn]; rfl) hlt
          go_wp2_with fail
          refine (digit_bool _ _).mono ?_
          rintro e w1 ⟨⟨n, rfl⟩, rfl⟩
          rw [hn]
          go_wp2_with fail
          refine (letter_any _ _).mono ?_
          rintro e w1 ⟨rfl, rfl⟩
          rw [hl]
          go_wp2_with fail
          go_ret
          exact ⟨congrArg (fun b => Ending.returned (.bool b)) HN.out.symm, rfl⟩
    · have hke : k = s.size := by omega
      have HN : Hid (allTo (okB s) s.size = true) := by rw [← hke]; exact HA
      clear hke HA
      go_wp2_with fail
      go_ret
      exact ⟨congrArg (fun b => Ending.returned (.bool b)) HN.out.symm, rfl⟩
set_option maxHeartbeats 1000000 in
theorem may_any (s : ByteArray) (w : World) : Calls Try.prog 40 #[.string s] w fun e w' => e = .returned (.bool (nameMay s)) ∧ w' = w := by
  by_cases he : s.size = 0
  · rw [Dvs.nameMay_none he]
    go_enter Try.func40, Try.ntmps40
    go_wp2_with fail
    all_goals
      go_ret
      exact ⟨rfl, rfl⟩
  have he' : 1 ≤ s.size := by omega
  by_cases h8 : 8 < s.size
  · rw [Dvs.nameMay_long h8]
    clear he
    go_enter Try.func40, Try.ntmps40
    go_wp2_with fail
    all_goals
      go_ret
      exact ⟨rfl, rfl⟩
  have h8' : s.size ≤ 8 := by omega
  rw [Dvs.nameMay_all (by omega) h8']
  clear h8 he
  have HB := hideIt (Dvs.okB_at s 0 (by omega))
  by_cases hf : 97 ≤ s[0].toNat ∧ s[0].toNat ≤ 122
  · obtain ⟨f1, f2⟩ := hf
    have HF := hideIt f1
    go_enter Try.func40, Try.ntmps40
    go_wp2_with fail
    go_loop [3] (fun i => ∃ k : Nat, k ≤ s.size ∧ i = .int .i64 k ∧ Hid (allTo (okB s) k = true)) (fun i => s.size - (intOf i).toNat)
    case atStart => exact ⟨0, Nat.zero_le _, rfl, rfl⟩
    case round =>
      obtain ⟨k, hk, rfl, HA⟩ := hrel
      by_cases hlt : k < s.size
      · have HO := hideIt (Dvs.okB_at s k hlt)
        have HD : Hid (s[k].toNat ≤ 57 → 0 < k) := fun h => by
          rcases Nat.eq_zero_or_pos k with e | e
          · subst e; have := HF.out; omega
          · exact e
        clear f1 f2
        unfold isLet isNum at HO
        have key : (97 ≤ s[k].toNat ∧ s[k].toNat ≤ 122) ∨ (97 ≤ s[k].toNat ∧ 122 < s[k].toNat) ∨ (s[k].toNat < 97 ∧ 48 ≤ s[k].toNat ∧ s[k].toNat ≤ 57) ∨ (s[k].toNat < 97 ∧ 48 ≤ s[k].toNat ∧ 57 < s[k].toNat) ∨ (s[k].toNat < 97 ∧ s[k].toNat < 48) := by omega
        rcases key with ⟨g1, g2⟩ | ⟨g1, g2⟩ | ⟨g1, g2, g3⟩ | ⟨g1, g2, g3⟩ | ⟨g1, g2⟩
        · have b0 : decide ((s[k].toNat : Int) ≤ 122) = true := by simp; omega
          have HN : Hid (allTo (okB s) (k + 1) = true) := Dvs.allTo_yes HA.out (by rw [HO.out]; simp; omega)
          clear HO HD
          go_wp2_with fail
          go_round
          case rel => exact ⟨k + 1, by omega, by go_num, HN⟩
          case measure => simp [intOf]; omega
        · have b0 : decide ((s[k].toNat : Int) ≤ 122) = false := by simp; omega
          have b1 : decide ((s[k].toNat : Int) ≤ 57) = false := by simp; omega
          have HN : Hid (allTo (okB s) s.size = false) := Dvs.allTo_no (k := k) (by rw [HO.out]; simp; omega) hlt
          clear HO HD
          go_wp2_with fail
          go_ret
          exact ⟨congrArg (fun b => Ending.returned (.bool b)) HN.out.symm, rfl⟩
        · have b0 : decide ((s[k].toNat : Int) ≤ 57) = true := by simp; omega
          have HN : Hid (allTo (okB s) (k + 1) = true) := Dvs.allTo_yes HA.out (by rw [HO.out]; have := HD.out g3; simp; omega)
          clear HO HD
          go_wp2_with fail
          go_round
          case rel => exact ⟨k + 1, by omega, by go_num, HN⟩
          case measure => simp [intOf]; omega
        · have b0 : decide ((s[k].toNat : Int) ≤ 57) = false := by simp; omega
          have HN : Hid (allTo (okB s) s.size = false) := Dvs.allTo_no (k := k) (by rw [HO.out]; simp; omega) hlt
          clear HO HD
          go_wp2_with fail
          go_ret
          exact ⟨congrArg (fun b => Ending.returned (.bool b)) HN.out.symm, rfl⟩
        · have HN : Hid (allTo (okB s) s.size = false) := Dvs.allTo_no (k := k) (by rw [HO.out]; simp; omega) hlt
          clear HO HD
          go_wp2_with fail
          go_ret
          exact ⟨congrArg (fun b => Ending.returned (.bool b)) HN.out.symm, rfl⟩
      · have hke : k = s.size := by omega
        have HN : Hid (allTo (okB s) s.size = true) := by rw [← hke]; exact HA
        clear hke HA
        go_wp2_with fail
        go_ret
        exact ⟨congrArg (fun b => Ending.returned (.bool b)) HN.out.symm, rfl⟩
  · have HN : Hid (allTo (okB s) s.size = false) := Dvs.allTo_no (k := 0) (by rw [HB.out]; unfold isLet; simp; omega) (by omega)
    have key : s[0].toNat < 97 ∨ (97 ≤ s[0].toNat ∧ 122 < s[0].toNat) := by omega
    clear hf HB
    rcases key with g1 | ⟨g1, g2⟩
    all_goals
      go_enter Try.func40, Try.ntmps40
      go_wp2_with fail
      all_goals
        go_ret
        exact ⟨congrArg (fun b => Ending.returned (.bool b)) HN.out.symm, rfl⟩
end Go.Proofs.Ythekalhceamcoaa
