/- What the document's own answers to chapter 2 are: contracts of the plain functions that tell them. -/
import Derived.Test.YtfnkmlpgfohjnaaDoorAmt2
namespace Go.Proofs.YtfnkmlpgfohjnaaDoor
open Go.RowKit
/-- What 'digits' answers. -/
def digOut (m : Int) (l : List UInt8) : Value := if Ost.isNum l then .tuple #[.int .i64 (min (Ost.val l) (m + 1)), .bool true] else .tuple #[.int .i64 0, .bool false]
theorem digOut_yes {m : Int} {l : List UInt8} (h : Ost.isNum l = true) : digOut m l = .tuple #[.int .i64 (min (Ost.val l) (m + 1)), .bool true] := by simp [digOut, h]
theorem digOut_no {m : Int} {l : List UInt8} (h : Ost.isNum l = false) : digOut m l = .tuple #[.int .i64 0, .bool false] := by simp [digOut, h]
/-- The running number, held still once it is above a bound. -/
def sat (m : Int) (n : Int) (b : UInt8) : Int := if n ≤ m then Ost.step n b else n
def satv (m : Int) (l : List UInt8) : Int := l.foldl (sat m) 0
theorem satv_snoc (m : Int) (l : List UInt8) (b : UInt8) : satv m (l ++ [b]) = sat m (satv m l) b := by simp [satv]
theorem satv_min (m : Int) (hm : 0 ≤ m) (l : List UInt8) (h : Ost.allDig l = true) : 0 ≤ satv m l ∧ satv m l ≤ 10 * m + 9 ∧ (satv m l ≤ m → satv m l = Ost.val l) ∧ (m < satv m l → m < Ost.val l) := by
  have key : ∀ r : List UInt8, Ost.allDig r.reverse = true → 0 ≤ satv m r.reverse ∧ satv m r.reverse ≤ 10 * m + 9 ∧ (satv m r.reverse ≤ m → satv m r.reverse = Ost.val r.reverse) ∧ (m < satv m r.reverse → m < Ost.val r.reverse) := by
    intro r
    induction r with
    | nil => intro _; simp [satv, Ost.val]; omega
    | cons b r ih =>
      intro hd
      rw [List.reverse_cons, Ost.allDig_snoc, Bool.and_eq_true] at hd
      obtain ⟨a1, a2, a3, a4⟩ := ih hd.1
      have hb := (Ost.isDig_iff b).1 hd.2
      rw [List.reverse_cons, satv_snoc, Ost.val_snoc]
      unfold sat
      by_cases hle : satv m r.reverse ≤ m
      · have e := a3 hle
        rw [if_pos hle]
        unfold Ost.step
        rw [e] at a1 hle ⊢
        omega
      · have e := a4 (by omega)
        rw [if_neg hle]
        unfold Ost.step
        omega
  have := key l.reverse (by simpa using h)
  simpa using this
set_option maxHeartbeats 400000 in
theorem digits_any (s : ByteArray) (m : Int) (w : World) (hs : s.size ≤ maxLen) (hm0 : 0 ≤ m) (hm1 : m ≤ 2000000000000000) :
    Calls Tryd.prog 42 #[.string s, .int .i64 m] w fun e w' => e = .returned (digOut m s.data.toList) ∧ w' = w := by
  unfold maxLen at hs
  have HL : Hid (s.data.toList.length = s.size) := by unfold Hid; simp
  by_cases he : s.size = 0
  · have hem : s.toList.isEmpty = true := by rw [Ost.toList_isEmpty]; simp [he]
    have H : Hid (digOut m s.data.toList = .tuple #[.int .i64 0, .bool false]) := digOut_no (by
      cases hh : Ost.isNum s.data.toList with
      | false => rfl
      | true => exact absurd (List.eq_nil_of_length_eq_zero (HL.out.trans he)) ((Ost.isNum_iff _).1 hh).1)
    clear he
    go_enter Tryd.func42, Tryd.ntmps42
    go_wp2_with fail
    go_ret2
    exact ⟨congrArg Ending.returned H.out.symm, rfl⟩
  have hem : s.toList.isEmpty = false := by rw [Ost.toList_isEmpty]; simp [he]
  have he' : 0 < s.size := by omega
  clear he
  by_cases hz : 1 < s.size ∧ s[0].toNat = 48
  · have H : Hid (digOut m s.data.toList = .tuple #[.int .i64 0, .bool false]) := digOut_no (by
      cases hh : Ost.isNum s.data.toList with
      | false => rfl
      | true => exact absurd ⟨by rw [HL.out]; exact hz.1, by rw [Ost.head_s s he']; exact (Ost.u8_eq _ 48 (by omega)).2 hz.2⟩ ((Ost.isNum_iff _).1 hh).2.1)
    have h1 : 1 < s.size := hz.1
    have h2 : ((s[0].toNat : Int) == 48) = true := by simp; omega
    clear hz
    go_enter Tryd.func42, Tryd.ntmps42
    go_wp2_with fail
    go_ret2
    exact ⟨congrArg Ending.returned H.out.symm, rfl⟩
  have HZ : Hid (¬ (1 < s.data.toList.length ∧ s.data.toList.headD 0 = 48)) := by
    rintro ⟨a, b⟩
    rw [Ost.head_s s he'] at b
    exact hz ⟨by rw [HL.out] at a; exact a, (Ost.u8_eq _ 48 (by omega)).1 b⟩
  have key : ((s[0].toNat : Int) == 48) = false ∨ (((s[0].toNat : Int) == 48) = true ∧ ¬ 1 < s.size) := by
    by_cases h : s[0].toNat = 48
    · exact .inr ⟨by simp; omega, fun a => hz ⟨a, h⟩⟩
    · exact .inl (by simp; omega)
  clear hz
  rcases key with h2 | ⟨h2, h1⟩
  all_goals
    go_enter Tryd.func42, Tryd.ntmps42
    go_wp2_with fail
    go_loop [6, 7] (fun n i => ∃ k : Nat, k ≤ s.size ∧ i = .int .i64 k ∧ Hid (Ost.allDig (s.data.toList.take k) = true) ∧ n = .int .i64 (satv m (s.data.toList.take k))) (fun _ i => s.size - (intOf i).toNat)
    case atStart => exact ⟨0, Nat.zero_le _, rfl, rfl, rfl⟩
    case round =>
      obtain ⟨k, hk, rfl, HD, rfl⟩ := hrel
      have hv := satv_min m hm0 (s.data.toList.take k) HD.out
      have hv0 := hv.1
      have hv1 := hv.2.1
      have HV2 := hideIt hv.2.2
      clear hv
      by_cases hlt : k < s.size
      · have hts := Ost.take_snoc s k hlt
        rcases two (Ost.isDig s[k]) with hb | hb
        · have hb1 := ((Ost.isDig_iff s[k]).1 hb).1
          have hb2 := ((Ost.isDig_iff s[k]).1 hb).2
          have HA : Hid (Ost.allDig (s.data.toList.take (k + 1)) = true) := by
            rw [hts, Ost.allDig_snoc, HD.out, hb]; rfl
          have HW : Hid (satv m (s.data.toList.take (k + 1)) = sat m (satv m (s.data.toList.take k)) s[k]) := by
            rw [hts, satv_snoc]; rfl
          clear hts hb
          by_cases hle : satv m (s.data.toList.take k) ≤ m
          · have HS : Hid (satv m (s.data.toList.take (k + 1)) = 10 * satv m (s.data.toList.take k) + ((s[k].toNat : Int) - 48)) := by
              rw [HW.out, sat, if_pos hle]; unfold Ost.step Hid; omega
            go_wp2_with fail
            go_round
            case rel => exact ⟨k + 1, by omega, by go_num, HA, by rw [HS.out]⟩
            case measure => simp [intOf]; omega
          · have HS : Hid (satv m (s.data.toList.take (k + 1)) = satv m (s.data.toList.take k)) := by
              rw [HW.out, sat, if_neg hle]; rfl
            go_wp2_with fail
            go_round
            case rel => exact ⟨k + 1, by omega, by go_num, HA, by rw [HS.out]⟩
            case measure => simp [intOf]; omega
        · have H : Hid (digOut m s.data.toList = .tuple #[.int .i64 0, .bool false]) := digOut_no (by
            cases hh : Ost.isNum s.data.toList with
            | false => rfl
            | true =>
              have := ((Ost.isNum_iff _).1 hh).2.2
              rw [Ost.allDig_get s.data.toList k (by rw [HL.out]; exact hlt) hb] at this
              cases this)
          have hb1 := (Ost.isDig_not s[k]).1 hb
          have hb2 : s[k].toNat < 48 ∨ (48 ≤ s[k].toNat ∧ 57 < s[k].toNat) := by omega
          clear hts hb hb1
          rcases hb2 with hb2 | ⟨hb1, hb2⟩
          all_goals
            go_wp2_with fail
            go_ret2
            exact ⟨congrArg Ending.returned H.out.symm, rfl⟩
      · have H : Hid (digOut m s.data.toList = .tuple #[.int .i64 (min (satv m (s.data.toList.take k)) (m + 1)), .bool true]) := by
          have hfull : s.data.toList.take k = s.data.toList := List.take_of_length_le (by rw [HL.out]; omega)
          have hg : Ost.isNum s.data.toList = true := by
            rw [Ost.isNum_iff]
            refine ⟨fun h0 => ?_, HZ.out, ?_⟩
            · have := HL.out; rw [h0] at this; simp at this; omega
            · have := HD.out; rw [hfull] at this; exact this
          unfold Hid
          rw [digOut_yes hg]
          have h4 := HV2.out
          rw [hfull] at h4 ⊢
          have : min (Ost.val s.data.toList) (m + 1) = min (satv m s.data.toList) (m + 1) := by
            by_cases h5 : satv m s.data.toList ≤ m
            · rw [h4.1 h5]
            · have := h4.2 (by omega); omega
          rw [this]
        go_wp2_with fail
        go_ret2
        exact ⟨congrArg Ending.returned H.out.symm, rfl⟩
theorem digits_yes (s : ByteArray) (m k : Int) (w : World) (hs : s.size ≤ maxLen) (hm0 : 0 ≤ m) (hm1 : m ≤ 2000000000000000) (h : Ost.isNum s.data.toList = true) (hk : min (Ost.val s.data.toList) (m + 1) = k) :
    Calls Tryd.prog 42 #[.string s, .int .i64 m] w fun e w' => e = .returned (.tuple #[.int .i64 k, .bool true]) ∧ w' = w := by
  have := digits_any s m w hs hm0 hm1
  rw [digOut_yes h, hk] at this; exact this
theorem digits_no (s : ByteArray) (m : Int) (w : World) (hs : s.size ≤ maxLen) (hm0 : 0 ≤ m) (hm1 : m ≤ 2000000000000000) (h : Ost.isNum s.data.toList = false) :
    Calls Tryd.prog 42 #[.string s, .int .i64 m] w fun e w' => e = .returned (.tuple #[.int .i64 0, .bool false]) ∧ w' = w := by
  have := digits_any s m w hs hm0 hm1
  rw [digOut_no h] at this; exact this
end Go.Proofs.YtfnkmlpgfohjnaaDoor
