/- What package number's two functions answer: contracts. -/
import Derived.Test.YtfnkmlpgfohjnaaDoorRows
import Derived.Test.YtfnkmlpgfohjnaaDoorMath
import Derived.WalkKit
import Derived.WalkSpells
import Derived.WalkLawsBesides
namespace Go.Proofs.YtfnkmlpgfohjnaaDoor
open Go.RowKit
set_option maxHeartbeats 400000 in
theorem digit_yes (b : UInt8) (w : World) (h : Ost.isDig b = true) :
    Calls Tryd.prog 55 #[.int .u8 b.toNat] w fun e w' => e = .returned (.tuple #[.int .i64 (b.toNat - 48), .bool true]) ∧ w' = w := by
  have h1 := ((Ost.isDig_iff b).1 h).1
  have h2 := ((Ost.isDig_iff b).1 h).2
  clear h
  go_enter Tryd.func55, Tryd.ntmps55
  go_wp2
  go_ret2
  exact ⟨rfl, rfl⟩
set_option maxHeartbeats 400000 in
theorem digit_no (b : UInt8) (w : World) (h : Ost.isDig b = false) :
    Calls Tryd.prog 55 #[.int .u8 b.toNat] w fun e w' => e = .returned (.tuple #[.int .i64 0, .bool false]) ∧ w' = w := by
  have h1 := (Ost.isDig_not b).1 h
  clear h
  by_cases h2 : 48 ≤ b.toNat
  · have h3 : 57 < b.toNat := by omega
    clear h1
    go_enter Tryd.func55, Tryd.ntmps55
    go_wp2
    go_ret2
    exact ⟨rfl, rfl⟩
  · clear h1
    go_enter Tryd.func55, Tryd.ntmps55
    go_wp2
    go_ret2
    exact ⟨rfl, rfl⟩
/-- What number.Read answers. -/
def readOut (m : Int) (l : List UInt8) : Value := if Ost.good m l then .tuple #[.int .i64 (Ost.val l), .bool true] else .tuple #[.int .i64 0, .bool false]
theorem readOut_yes {m : Int} {l : List UInt8} (h : Ost.good m l = true) : readOut m l = .tuple #[.int .i64 (Ost.val l), .bool true] := by simp [readOut, h]
theorem readOut_no {m : Int} {l : List UInt8} (h : Ost.good m l = false) : readOut m l = .tuple #[.int .i64 0, .bool false] := by simp [readOut, h]
set_option maxHeartbeats 400000 in
theorem read_any (s : ByteArray) (m : Int) (w : World) (hs : s.size ≤ maxLen) :
    Calls Tryd.prog 46 #[.string s, .int .i64 m] w fun e w' => e = .returned (readOut m s.data.toList) ∧ w' = w := by
  unfold maxLen at hs
  by_cases he : s.size = 0
  · have hem : s.toList.isEmpty = true := by rw [Ost.toList_isEmpty]; simp [he]
    have H : Hid (readOut m s.data.toList = .tuple #[.int .i64 0, .bool false]) := readOut_no (by rw [Ost.not_good_iff]; rintro ⟨⟨h, _⟩, _⟩; exact h (List.eq_nil_of_length_eq_zero (by simpa using he)))
    clear he
    go_enter Tryd.func46, Tryd.ntmps46
    go_wp2_with fail
    go_ret2
    exact ⟨congrArg Ending.returned H.out.symm, rfl⟩
  have hem : s.toList.isEmpty = false := by rw [Ost.toList_isEmpty]; simp [he]
  have he' : 0 < s.size := by omega
  clear he
  by_cases hm : m < (s.size : Int)
  · have H : Hid (readOut m s.data.toList = .tuple #[.int .i64 0, .bool false]) := readOut_no (by rw [Ost.not_good_iff]; rintro ⟨_, h, _⟩; simp at h; omega)
    go_enter Tryd.func46, Tryd.ntmps46
    go_wp2_with fail
    all_goals
      go_ret2
      exact ⟨congrArg Ending.returned H.out.symm, rfl⟩
  have hm' : (s.size : Int) ≤ m := by omega
  by_cases hz : 1 < s.size ∧ s[0].toNat = 48
  · have H : Hid (readOut m s.data.toList = .tuple #[.int .i64 0, .bool false]) := readOut_no (by
      rw [Ost.not_good_iff]; rintro ⟨⟨_, h, _⟩, _⟩; refine h ⟨by simpa using hz.1, ?_⟩; rw [Ost.head_s s he']; exact (Ost.u8_eq _ 48 (by omega)).2 hz.2)
    have h1 : 1 < s.size := hz.1
    have h2 : ((s[0].toNat : Int) == 48) = true := by simp; omega
    clear hz
    go_enter Tryd.func46, Tryd.ntmps46
    go_wp2_with fail
    go_ret2
    exact ⟨congrArg Ending.returned H.out.symm, rfl⟩
  have HZ : Hid (¬ (1 < s.data.toList.length ∧ s.data.toList.headD 0 = 48)) := by
    rintro ⟨a, b⟩
    rw [Ost.head_s s he'] at b
    exact hz ⟨by simpa using a, (Ost.u8_eq _ 48 (by omega)).1 b⟩
  have hz2 : 1 < s.size → ((s[0].toNat : Int) == 48) = false := fun h => by simp; intro h2; exact hz ⟨h, by omega⟩
  clear hz
  by_cases h1 : 1 < s.size
  all_goals
    try have h2 := hz2 h1
    clear hz2
    go_enter Tryd.func46, Tryd.ntmps46
    go_wp2_with fail
    go_loop [6, 30] (fun n i => ∃ k : Nat, k ≤ s.size ∧ i = .int .i64 k ∧ Ost.allDig (s.data.toList.take k) = true ∧ Ost.val (s.data.toList.take k) ≤ Ost.maxI ∧ n = .int .i64 (Ost.val (s.data.toList.take k))) (fun _ i => s.size - (intOf i).toNat)
    case atStart => exact ⟨0, Nat.zero_le _, rfl, rfl, by simp [Ost.val, Ost.maxI], rfl⟩
    case round =>
      obtain ⟨k, hk, rfl, hd, hv, rfl⟩ := hrel
      have hv0 := Ost.val_nonneg _ hd
      have HD : Hid (Ost.allDig (s.data.toList.take k) = true) := hd
      clear hd
      have hv1 : Ost.val (s.data.toList.take k) ≤ 9223372036854775807 := hv
      clear hv
      by_cases hlt : k < s.size
      · have hts := Ost.take_snoc s k hlt
        cases hb : Ost.isDig s[k] with
        | false =>
          have H : Hid (readOut m s.data.toList = .tuple #[.int .i64 0, .bool false]) := readOut_no (Ost.not_good_dig m s k hlt hb)
          clear hts
          go_wp2_with (go_at_call 55; refine (digit_no _ _ hb).mono ?_; rintro e w' ⟨rfl, rfl⟩)
          go_ret2
          exact ⟨congrArg Ending.returned H.out.symm, rfl⟩
        | true =>
          have hb1 := ((Ost.isDig_iff s[k]).1 hb).1
          have hb2 := ((Ost.isDig_iff s[k]).1 hb).2
          have HV : Hid (Ost.val (s.data.toList.take (k + 1)) = Ost.val (s.data.toList.take k) * 10 + ((s[k].toNat : Int) - 48)) := by
            rw [hts, Ost.val_snoc]; rfl
          have HA : Hid (Ost.allDig (s.data.toList.take (k + 1)) = true) := by
            rw [hts, Ost.allDig_snoc, HD.out, hb]; rfl
          clear hts
          by_cases hov : (9223372036854775807 - ((s[k].toNat : Int) - 48)) / 10 < Ost.val (s.data.toList.take k)
          · have H : Hid (readOut m s.data.toList = .tuple #[.int .i64 0, .bool false]) := readOut_no (Ost.not_good_val m s (k + 1) (by
              rw [HV.out]; show (9223372036854775807 : Int) < _; omega))
            go_wp2_with (go_at_call 55; refine (digit_yes _ _ hb).mono ?_; rintro e w' ⟨rfl, rfl⟩)
            go_ret2
            exact ⟨congrArg Ending.returned H.out.symm, rfl⟩
          · have HM : Hid (Ost.val (s.data.toList.take (k + 1)) ≤ Ost.maxI) := by
              rw [HV.out]; show _ ≤ (9223372036854775807 : Int); omega
            go_wp2_with (go_at_call 55; refine (digit_yes _ _ hb).mono ?_; rintro e w' ⟨rfl, rfl⟩)
            go_round
            case rel => exact ⟨k + 1, by omega, by go_num, HA.out, HM.out, by rw [HV.out]⟩
            case measure => simp [intOf]; omega
      · have hke : k = s.size := by omega
        have hfull : s.data.toList.take k = s.data.toList := List.take_of_length_le (by simp; omega)
        have H : Hid (readOut m s.data.toList = .tuple #[.int .i64 (Ost.val (s.data.toList.take k)), .bool true]) := by
          have hg : Ost.good m s.data.toList = true := by
            rw [Ost.good_iff]
            refine ⟨⟨?_, HZ.out, ?_⟩, by simpa using hm', ?_⟩
            · intro h0
              have h3 : s.data.toList.length = 0 := by rw [h0]; rfl
              have h4 : s.data.toList.length = s.size := by simp
              omega
            · have := HD.out; rw [hfull] at this; exact this
            · rw [hfull] at hv1; exact hv1
          have := readOut_yes hg
          unfold Hid; rw [hfull]; exact this
        clear hfull hke
        go_wp2_with fail
        go_ret2
        exact ⟨congrArg Ending.returned H.out.symm, rfl⟩
end Go.Proofs.YtfnkmlpgfohjnaaDoor
