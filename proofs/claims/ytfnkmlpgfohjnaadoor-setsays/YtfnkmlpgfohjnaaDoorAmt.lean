/- What package amount's readers answer: contracts. -/
import Derived.Test.YtfnkmlpgfohjnaaDoorNum
import Derived.Test.YtfnkmlpgfohjnaaDoorMath2
import Derived.Test.YtfnkmlpgfohjnaaDoorShelf
namespace Go.Proofs.YtfnkmlpgfohjnaaDoor
open Go.RowKit
/-- An error's number as Go's value. -/
def errV (n : Int) : Value := if n = 0 then .nilIface else .iface 23 (.int .i64 n)
theorem read_yes (s : ByteArray) (m : Int) (w : World) (hs : s.size ≤ maxLen) (h : Ost.good m s.data.toList = true) :
    Calls Tryd.prog 46 #[.string s, .int .i64 m] w fun e w' => e = .returned (.tuple #[.int .i64 (Ost.val s.data.toList), .bool true]) ∧ w' = w := by
  have := read_any s m w hs
  rw [readOut_yes h] at this; exact this
theorem read_no (s : ByteArray) (m : Int) (w : World) (hs : s.size ≤ maxLen) (h : Ost.good m s.data.toList = false) :
    Calls Tryd.prog 46 #[.string s, .int .i64 m] w fun e w' => e = .returned (.tuple #[.int .i64 0, .bool false]) ∧ w' = w := by
  have := read_any s m w hs
  rw [readOut_no h] at this; exact this

/-- What amount.readPlaces answers. -/
def placesOut (l : List UInt8) : Value := if Ost.placesOk l then .tuple #[.int .i64 (Ost.val (Ost.pad l)), .bool true] else .tuple #[.int .i64 0, .bool false]
theorem placesOut_yes {l : List UInt8} (h : Ost.placesOk l = true) : placesOut l = .tuple #[.int .i64 (Ost.val (Ost.pad l)), .bool true] := by simp [placesOut, h]
theorem placesOut_no {l : List UInt8} (h : Ost.placesOk l = false) : placesOut l = .tuple #[.int .i64 0, .bool false] := by simp [placesOut, h]
set_option maxHeartbeats 400000 in
theorem places_any (s : ByteArray) (w : World) (hs : s.size ≤ maxLen) :
    Calls Tryd.prog 54 #[.string s] w fun e w' => e = .returned (placesOut s.data.toList) ∧ w' = w := by
  unfold maxLen at hs
  have HL : Hid (s.data.toList.length = s.size) := by unfold Hid; simp
  by_cases he : s.size = 0
  · have hem : s.toList.isEmpty = true := by rw [Ost.toList_isEmpty]; simp [he]
    have H : Hid (placesOut s.data.toList = .tuple #[.int .i64 0, .bool false]) := placesOut_no (by simp [Ost.placesOk, HL.out, he])
    clear he
    go_enter Tryd.func54, Tryd.ntmps54
    go_wp2_with fail
    go_ret2
    exact ⟨congrArg Ending.returned H.out.symm, rfl⟩
  have hem : s.toList.isEmpty = false := by rw [Ost.toList_isEmpty]; simp [he]
  by_cases h3 : 3 < s.size
  · have H : Hid (placesOut s.data.toList = .tuple #[.int .i64 0, .bool false]) := placesOut_no (by simp [Ost.placesOk, HL.out]; omega)
    clear he
    go_enter Tryd.func54, Tryd.ntmps54
    go_wp2_with fail
    go_ret2
    exact ⟨congrArg Ending.returned H.out.symm, rfl⟩
  have HE : Hid (¬ s.size = 0) := he
  clear he
  go_enter Tryd.func54, Tryd.ntmps54
  go_wp2_with fail
  go_loop [4, 15] (fun n i => ∃ k : Nat, k ≤ 3 ∧ i = .int .i64 k ∧ Ost.allDig (s.data.toList.take k) = true ∧ 0 ≤ Ost.val ((Ost.pad s.data.toList).take k) ∧ Ost.val ((Ost.pad s.data.toList).take k) < 10 ^ k ∧ n = .int .i64 (Ost.val ((Ost.pad s.data.toList).take k))) (fun _ i => 3 - (intOf i).toNat)
  case atStart => exact ⟨0, by omega, rfl, rfl, by simp [Ost.val], by simp [Ost.val], rfl⟩
  case round =>
    obtain ⟨k, hk, rfl, hd, hv0, hv1, rfl⟩ := hrel
    have HD : Hid (Ost.allDig (s.data.toList.take k) = true) := hd
    clear hd
    have hv2 : Ost.val ((Ost.pad s.data.toList).take k) < 1000 := by
      have : k = 0 ∨ k = 1 ∨ k = 2 ∨ k = 3 := by omega
      rcases this with e | e | e | e <;> subst e <;> omega
    by_cases hlt : k < 3
    · have hts := Ost.pad_snoc s.data.toList k (by rw [HL.out]; omega) hlt
      have HV1 : Hid (Ost.val ((Ost.pad s.data.toList).take k) < 10 ^ k) := hv1
      clear hv1
      by_cases hge : k < s.size
      · rw [dif_pos (by rw [HL.out]; exact hge)] at hts
        have hts2 := Ost.take_snoc s k hge
        cases hb : Ost.isDig s[k] with
        | false =>
          have H : Hid (placesOut s.data.toList = .tuple #[.int .i64 0, .bool false]) := placesOut_no (by
            have := Ost.allDig_get s.data.toList k (by rw [HL.out]; exact hge) hb
            simp [Ost.placesOk, this])
          clear hts hts2
          go_wp2_with (go_at_call 55; refine (digit_no _ _ hb).mono ?_; rintro e w' ⟨rfl, rfl⟩)
          go_ret2
          exact ⟨congrArg Ending.returned H.out.symm, rfl⟩
        | true =>
          have hb1 := ((Ost.isDig_iff s[k]).1 hb).1
          have hb2 := ((Ost.isDig_iff s[k]).1 hb).2
          have HV : Hid (Ost.val ((Ost.pad s.data.toList).take (k + 1)) = Ost.val ((Ost.pad s.data.toList).take k) * 10 + ((s[k].toNat : Int) - 48)) := by
            rw [hts, Ost.val_snoc]; rfl
          have HA : Hid (Ost.allDig (s.data.toList.take (k + 1)) = true) := by
            rw [hts2, Ost.allDig_snoc, HD.out, hb]; rfl
          clear hts hts2
          go_wp2_with (go_at_call 55; refine (digit_yes _ _ hb).mono ?_; rintro e w' ⟨rfl, rfl⟩)
          go_round
          case rel => exact ⟨k + 1, by omega, by go_num, HA.out, by rw [HV.out]; omega, by rw [HV.out]; have := HV1.out; rw [Int.pow_succ]; omega, by rw [HV.out]⟩
          case measure => simp [intOf]; omega
      · rw [dif_neg (by rw [HL.out]; exact hge)] at hts
        have HV : Hid (Ost.val ((Ost.pad s.data.toList).take (k + 1)) = Ost.val ((Ost.pad s.data.toList).take k) * 10) := by
          rw [hts, Ost.val_snoc]; simp [Hid, Ost.step]
        have HA : Hid (Ost.allDig (s.data.toList.take (k + 1)) = true) := by
          have := HD.out
          rw [List.take_of_length_le (by rw [HL.out]; omega)] at this ⊢
          exact this
        clear hts
        go_wp2_with fail
        go_round
        case rel => exact ⟨k + 1, by omega, by go_num, HA.out, by rw [HV.out]; omega, by rw [HV.out]; have := HV1.out; rw [Int.pow_succ]; omega, by rw [HV.out]⟩
        case measure => simp [intOf]; omega
    · have H : Hid (placesOut s.data.toList = .tuple #[.int .i64 (Ost.val ((Ost.pad s.data.toList).take k)), .bool true]) := by
        have hk3 : k = 3 := by omega
        subst hk3
        have hf : (Ost.pad s.data.toList).take 3 = Ost.pad s.data.toList := List.take_of_length_le (by rw [Ost.pad_length _ (by rw [HL.out]; omega)]; omega)
        have hg : s.data.toList.take 3 = s.data.toList := List.take_of_length_le (by rw [HL.out]; omega)
        have hd := HD.out
        rw [hg] at hd
        unfold Hid
        rw [hf]
        have := HE.out
        exact placesOut_yes (by unfold Ost.placesOk; rw [hd, Bool.and_true, decide_eq_true_eq, HL.out]; omega)
      clear hv1
      go_wp2_with fail
      go_ret2
      exact ⟨congrArg Ending.returned H.out.symm, rfl⟩
theorem places_yes (s : ByteArray) (w : World) (hs : s.size ≤ maxLen) (h : Ost.placesOk s.data.toList = true) :
    Calls Tryd.prog 54 #[.string s] w fun e w' => e = .returned (.tuple #[.int .i64 (Ost.val (Ost.pad s.data.toList)), .bool true]) ∧ w' = w := by
  have := places_any s w hs
  rw [placesOut_yes h] at this; exact this
theorem places_no (s : ByteArray) (w : World) (hs : s.size ≤ maxLen) (h : Ost.placesOk s.data.toList = false) :
    Calls Tryd.prog 54 #[.string s] w fun e w' => e = .returned (.tuple #[.int .i64 0, .bool false]) ∧ w' = w := by
  have := places_any s w hs
  rw [placesOut_no h] at this; exact this

theorem cutSuffix_yes (s p : ByteArray) (w : World) (hs : s.size ≤ 9223372036854775807) (h : Lib.hasSuffix s.data.toList p.data.toList = true) :
    Calls Tryd.prog 53 #[.string s, .string p] w fun e w' => e = .returned (.tuple #[.string ⟨(Lib.trimSuffix s.data.toList p.data.toList).toArray⟩, .bool true]) ∧ w' = w := by
  have := Tryd.strings_CutSuffix s p w hs
  rw [h] at this; exact this
theorem cutSuffix_no (s p : ByteArray) (w : World) (hs : s.size ≤ 9223372036854775807) (h : Lib.hasSuffix s.data.toList p.data.toList = false) :
    Calls Tryd.prog 53 #[.string s, .string p] w fun e w' => e = .returned (.tuple #[.string s, .bool false]) ∧ w' = w := by
  have := Tryd.strings_CutSuffix s p w hs
  rw [h, show Lib.trimSuffix s.data.toList p.data.toList = s.data.toList by simp [Lib.trimSuffix, h]] at this; exact this
theorem trim_le (s p : List UInt8) : (Lib.trimSuffix s p).length ≤ s.length := by
  unfold Lib.trimSuffix; split
  · simp
  · exact Nat.le_refl _
theorem cut1_le (c : UInt8) (l : List UInt8) : (Ost.cut1 c l).1.length ≤ l.length ∧ (Ost.cut1 c l).2.1.length ≤ l.length := by
  rcases Ost.cut1_index c l with ⟨_, h⟩ | ⟨i, _, h⟩ <;> rw [h] <;> simp <;> omega

/-- The library's variable that strings.Cut may look at holds some number. -/
def Mx (w : World) : Prop := ∃ m : Int, w.cell? ⟨2, 0, none⟩ = some (.int .i64 m)
theorem Mx.below {w w' : World} (h : Mx w) (hb : Below w.heap.size w w') : Mx w' := by
  obtain ⟨m, hm⟩ := h
  exact ⟨m, (hb.cell (p := ⟨2, 0, none⟩) (World.block_lt_of_cell? w _ hm)).trans hm⟩
theorem cut_any (s : ByteArray) (c : UInt8) (w : World) (hs : s.size < 4294967281) (hm : Mx w) :
    Calls Tryd.prog 52 #[.string s, .string ⟨#[c]⟩] w fun e w' => e = .returned (.tuple #[.string ⟨(Ost.cut1 c s.data.toList).1.toArray⟩, .string ⟨(Ost.cut1 c s.data.toList).2.1.toArray⟩, .bool (Ost.cut1 c s.data.toList).2.2]) ∧ ∃ n, w' = w.drewN n := by
  obtain ⟨m, hm⟩ := hm
  have := Tryd.strings_Cut s ⟨#[c]⟩ m w hs hm
  rw [show Lib.cut s.data.toList (ByteArray.mk #[c]).data.toList = Ost.cut1 c s.data.toList from Ost.cut_one c _] at this
  exact this
theorem cut_yes (s : ByteArray) (c : UInt8) (w : World) (hs : s.size < 4294967281) (hm : Mx w) (h : (Ost.cut1 c s.data.toList).2.2 = true) :
    Calls Tryd.prog 52 #[.string s, .string ⟨#[c]⟩] w fun e w' => e = .returned (.tuple #[.string ⟨(Ost.cut1 c s.data.toList).1.toArray⟩, .string ⟨(Ost.cut1 c s.data.toList).2.1.toArray⟩, .bool true]) ∧ ∃ n, w' = w.drewN n := by
  have := cut_any s c w hs hm
  rw [h] at this; exact this
theorem cut_no (s : ByteArray) (c : UInt8) (w : World) (hs : s.size < 4294967281) (hm : Mx w) (h : (Ost.cut1 c s.data.toList).2.2 = false) :
    Calls Tryd.prog 52 #[.string s, .string ⟨#[c]⟩] w fun e w' => e = .returned (.tuple #[.string ⟨(Ost.cut1 c s.data.toList).1.toArray⟩, .string ⟨(Ost.cut1 c s.data.toList).2.1.toArray⟩, .bool false]) ∧ ∃ n, w' = w.drewN n := by
  have := cut_any s c w hs hm
  rw [h] at this; exact this

/-- What amount.readMilli answers. -/
def rawOut : Option Int → Value
  | none => .tuple #[.int .i64 0, .bool false]
  | some v => .tuple #[.int .i64 v, .bool true]
theorem good_val (m : Int) (l : List UInt8) (h : Ost.good m l = true) : 0 ≤ Ost.val l ∧ Ost.val l < 10 ^ l.length ∧ (l.length : Int) ≤ m := by
  obtain ⟨⟨_, _, h3⟩, h4, _⟩ := (Ost.good_iff m l).1 h
  exact ⟨Ost.val_nonneg l h3, Ost.val_lt_pow l h3, h4⟩
theorem good6_val (l : List UInt8) (h : Ost.good 6 l = true) : 0 ≤ Ost.val l ∧ Ost.val l ≤ 999999 := by
  obtain ⟨h1, h2, h3⟩ := good_val 6 l h
  refine ⟨h1, ?_⟩
  have : l.length = 0 ∨ l.length = 1 ∨ l.length = 2 ∨ l.length = 3 ∨ l.length = 4 ∨ l.length = 5 ∨ l.length = 6 := by omega
  rcases this with e | e | e | e | e | e | e <;> rw [e] at h2 <;> omega
theorem places_val (l : List UInt8) (h : Ost.placesOk l = true) : 0 ≤ Ost.val (Ost.pad l) ∧ Ost.val (Ost.pad l) ≤ 999 := by
  unfold Ost.placesOk at h
  rw [Bool.and_eq_true, decide_eq_true_eq] at h
  have := Ost.val_pad_bound l h.2 3 (by omega) h.1.2
  rw [List.take_of_length_le (by rw [Ost.pad_length l h.1.2]; omega)] at this
  exact this
set_option maxHeartbeats 400000 in
theorem readMilli_any (s : ByteArray) (w : World) (hs : s.size < 4294967281) (hm : Mx w) :
    Calls Tryd.prog 44 #[.string s] w fun e w' => e = .returned (rawOut (Ost.milliRaw s.data.toList)) ∧ ∃ n, w' = w.drewN n := by
  have HL : Hid (s.data.toList.length = s.size) := by unfold Hid; simp
  have hs1 : s.size ≤ 9223372036854775807 := by omega
  cases hsuf : Lib.hasSuffix s.data.toList [109] with
  | true =>
    have HS : (ByteArray.mk (Lib.trimSuffix s.data.toList [109]).toArray).size ≤ maxLen := by
      have := trim_le s.data.toList [109]; rw [HL.out] at this; show (Lib.trimSuffix s.data.toList [109]).toArray.size ≤ _; unfold maxLen; simp; omega
    cases hg : Ost.good 9 (Lib.trimSuffix s.data.toList [109]) with
    | true =>
      have H : Hid (rawOut (Ost.milliRaw s.data.toList) = .tuple #[.int .i64 (Ost.val (Lib.trimSuffix s.data.toList [109])), .bool true]) := by simp [Hid, Ost.milliRaw, hsuf, hg, rawOut]
      go_enter Tryd.func44, Tryd.ntmps44
      go_wp2_with fail
      refine (cutSuffix_yes s ⟨#[109]⟩ _ hs1 hsuf).mono ?_; rintro e w' ⟨rfl, rfl⟩
      go_wp2_with fail
      refine (read_yes _ 9 _ HS hg).mono ?_; rintro e w' ⟨rfl, rfl⟩
      go_wp2_with fail
      go_ret2
      exact ⟨congrArg Ending.returned H.out.symm, 0, rfl⟩
    | false =>
      have H : Hid (rawOut (Ost.milliRaw s.data.toList) = .tuple #[.int .i64 0, .bool false]) := by simp [Hid, Ost.milliRaw, hsuf, hg, rawOut]
      go_enter Tryd.func44, Tryd.ntmps44
      go_wp2_with fail
      refine (cutSuffix_yes s ⟨#[109]⟩ _ hs1 hsuf).mono ?_; rintro e w' ⟨rfl, rfl⟩
      go_wp2_with fail
      refine (read_no _ 9 _ HS hg).mono ?_; rintro e w' ⟨rfl, rfl⟩
      go_wp2_with fail
      go_ret2
      exact ⟨congrArg Ending.returned H.out.symm, 0, rfl⟩
  | false =>
    have hle := cut1_le 46 s.data.toList
    have HS1 : (ByteArray.mk (Ost.cut1 46 s.data.toList).1.toArray).size ≤ maxLen := by
      have := hle.1; rw [HL.out] at this; show (Ost.cut1 46 s.data.toList).1.toArray.size ≤ _; unfold maxLen; simp; omega
    have HS2 : (ByteArray.mk (Ost.cut1 46 s.data.toList).2.1.toArray).size ≤ maxLen := by
      have := hle.2; rw [HL.out] at this; show (Ost.cut1 46 s.data.toList).2.1.toArray.size ≤ _; unfold maxLen; simp; omega
    clear hle
    cases hf : (Ost.cut1 46 s.data.toList).2.2 with
    | false =>
      cases hg : Ost.good 6 (Ost.cut1 46 s.data.toList).1 with
      | false =>
        have H : Hid (rawOut (Ost.milliRaw s.data.toList) = .tuple #[.int .i64 0, .bool false]) := by simp [Hid, Ost.milliRaw, hsuf, hg, rawOut]
        go_enter Tryd.func44, Tryd.ntmps44
        go_wp2_with fail
        refine (cutSuffix_no s ⟨#[109]⟩ _ hs1 hsuf).mono ?_; rintro e w' ⟨rfl, rfl⟩
        go_wp2_with fail
        refine (cut_no s 46 _ hs hm hf).mono ?_; rintro e w' ⟨rfl, n, rfl⟩
        go_wp2_with fail
        refine (read_no _ 6 _ HS1 hg).mono ?_; rintro e w' ⟨rfl, rfl⟩
        go_wp2_with fail
        go_ret2
        exact ⟨congrArg Ending.returned H.out.symm, n, rfl⟩
      | true =>
        have hv := good6_val _ hg
        have hv1 := hv.1
        have hv2 := hv.2
        clear hv
        have H : Hid (rawOut (Ost.milliRaw s.data.toList) = .tuple #[.int .i64 (Ost.val (Ost.cut1 46 s.data.toList).1 * 1000), .bool true]) := by simp [Hid, Ost.milliRaw, hsuf, hg, hf, rawOut]
        go_enter Tryd.func44, Tryd.ntmps44
        go_wp2_with fail
        refine (cutSuffix_no s ⟨#[109]⟩ _ hs1 hsuf).mono ?_; rintro e w' ⟨rfl, rfl⟩
        go_wp2_with fail
        refine (cut_no s 46 _ hs hm hf).mono ?_; rintro e w' ⟨rfl, n, rfl⟩
        go_wp2_with fail
        refine (read_yes _ 6 _ HS1 hg).mono ?_; rintro e w' ⟨rfl, rfl⟩
        go_wp2_with fail
        go_ret2
        exact ⟨congrArg Ending.returned H.out.symm, n, rfl⟩
    | true =>
      cases hg : Ost.good 6 (Ost.cut1 46 s.data.toList).1 with
      | false =>
        have H : Hid (rawOut (Ost.milliRaw s.data.toList) = .tuple #[.int .i64 0, .bool false]) := by simp [Hid, Ost.milliRaw, hsuf, hg, rawOut]
        go_enter Tryd.func44, Tryd.ntmps44
        go_wp2_with fail
        refine (cutSuffix_no s ⟨#[109]⟩ _ hs1 hsuf).mono ?_; rintro e w' ⟨rfl, rfl⟩
        go_wp2_with fail
        refine (cut_yes s 46 _ hs hm hf).mono ?_; rintro e w' ⟨rfl, n, rfl⟩
        go_wp2_with fail
        refine (read_no _ 6 _ HS1 hg).mono ?_; rintro e w' ⟨rfl, rfl⟩
        go_wp2_with fail
        go_ret2
        exact ⟨congrArg Ending.returned H.out.symm, n, rfl⟩
      | true =>
        have hv := good6_val _ hg
        have hv1 := hv.1
        have hv2 := hv.2
        clear hv
        cases hp : Ost.placesOk (Ost.cut1 46 s.data.toList).2.1 with
        | false =>
          have H : Hid (rawOut (Ost.milliRaw s.data.toList) = .tuple #[.int .i64 0, .bool false]) := by simp [Hid, Ost.milliRaw, hsuf, hg, hf, hp, rawOut]
          go_enter Tryd.func44, Tryd.ntmps44
          go_wp2_with fail
          refine (cutSuffix_no s ⟨#[109]⟩ _ hs1 hsuf).mono ?_; rintro e w' ⟨rfl, rfl⟩
          go_wp2_with fail
          refine (cut_yes s 46 _ hs hm hf).mono ?_; rintro e w' ⟨rfl, n, rfl⟩
          go_wp2_with fail
          refine (read_yes _ 6 _ HS1 hg).mono ?_; rintro e w' ⟨rfl, rfl⟩
          go_wp2_with fail
          refine (places_no _ _ HS2 hp).mono ?_; rintro e w' ⟨rfl, rfl⟩
          go_wp2_with fail
          go_ret2
          exact ⟨congrArg Ending.returned H.out.symm, n, rfl⟩
        | true =>
          have hq := places_val _ hp
          have hq1 := hq.1
          have hq2 := hq.2
          clear hq
          have H : Hid (rawOut (Ost.milliRaw s.data.toList) = .tuple #[.int .i64 (Ost.val (Ost.cut1 46 s.data.toList).1 * 1000 + Ost.val (Ost.pad (Ost.cut1 46 s.data.toList).2.1)), .bool true]) := by simp [Hid, Ost.milliRaw, hsuf, hg, hf, hp, rawOut]
          go_enter Tryd.func44, Tryd.ntmps44
          go_wp2_with fail
          refine (cutSuffix_no s ⟨#[109]⟩ _ hs1 hsuf).mono ?_; rintro e w' ⟨rfl, rfl⟩
          go_wp2_with fail
          refine (cut_yes s 46 _ hs hm hf).mono ?_; rintro e w' ⟨rfl, n, rfl⟩
          go_wp2_with fail
          refine (read_yes _ 6 _ HS1 hg).mono ?_; rintro e w' ⟨rfl, rfl⟩
          go_wp2_with fail
          refine (places_yes _ _ HS2 hp).mono ?_; rintro e w' ⟨rfl, rfl⟩
          go_wp2_with fail
          go_ret2
          exact ⟨congrArg Ending.returned H.out.symm, n, rfl⟩
end Go.Proofs.YtfnkmlpgfohjnaaDoor
