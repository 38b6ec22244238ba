/- What the document's own answer to B1 is: the contract of the plain function that tells it. -/
import Derived.Test.YtfnkmlpgfohjnaaDoorRef
import Derived.Test.YtfnkmlpgfohjnaaDoorMath3
namespace Go.Proofs.YtfnkmlpgfohjnaaDoor
open Go.RowKit
/-- Two numbers: what is read, and an error's. -/
def twoNums (p : Int × Int) : Value := .tuple #[.int .i64 p.1, .int .i64 p.2]
theorem extract_list (s : ByteArray) (a b : Nat) : (s.extract a b).data.toList = (s.data.toList.take b).drop a := by
  rw [ByteArray.data_extract, Array.toList_extract, List.extract_eq_take_drop]
  rw [List.drop_take]
theorem isNum_long (m : Int) (l : List UInt8) (hm : m ≤ 18) (h : (Ost.isNum l && decide ((l.length : Int) ≤ m)) = true) : Ost.good m l = true := by
  rw [Ost.good_of_num m l hm]; exact h
set_option maxHeartbeats 400000 in
theorem refMilli_m (s : ByteArray) (w : World) (hs : s.size ≤ 100) (h0 : 0 < s.size) (hl : Lib.hasSuffix s.data.toList [109] = true) :
    Calls Tryd.prog 26 #[.string s] w fun e w' => e = .returned (twoNums (Ost.milliOut s.data.toList)) ∧ w' = w := by
  have HL : Hid (s.data.toList.length = s.size) := by unfold Hid; simp
  have hlast : ((s[s.size - 1].toNat : Int) == 109) = true := by
    rw [Ost.hasSuffix_one, decide_eq_true_eq, Ost.last_s s h0] at hl
    rw [hl]; rfl
  have hd : (s.extract 0 (s.size - 1)).data.toList = Lib.trimSuffix s.data.toList [109] := by
    rw [extract_list, List.drop_zero, Ost.trim_one _ _ hl, HL.out]
  have hsz : (s.extract 0 (s.size - 1)).size ≤ maxLen := by rw [ByteArray.size_extract]; unfold maxLen; omega
  have hdl : (Lib.trimSuffix s.data.toList [109]).length = s.size - 1 := by rw [Ost.trim_one _ _ hl, List.length_take, HL.out]; omega
  have HG := hideIt (Ost.good_of_num 9 (Lib.trimSuffix s.data.toList [109]) (by omega))
  have HR : Hid (∀ p, (Ost.bound (if Ost.good 9 (Lib.trimSuffix s.data.toList [109]) then some (Ost.val (Lib.trimSuffix s.data.toList [109])) else none)) = p → Ost.milliOut s.data.toList = p) := by
    intro p h; rw [← h, Ost.milliOut, Ost.milliRaw, if_pos hl]
  clear hl
  generalize Lib.trimSuffix s.data.toList [109] = t at *
  have HD := hideIt hd
  have HDL := hideIt hdl
  have HSZ := hideIt hsz
  clear hd hdl hsz
  rcases two (Ost.isNum t) with hn | hn
  · have hv0 := Ost.val_nonneg t ((Ost.isNum_iff t).1 hn).2.2
    have HN := hideIt hn
    clear hn
    obtain ⟨k, hk⟩ : ∃ k, min (Ost.val t) (1000000 + 1) = k := ⟨_, rfl⟩
    have hk0 : 0 ≤ k := by omega
    have hk1 : k ≤ 1000001 := by omega
    have HK := hideIt hk
    clear hk
    by_cases h9 : 9 < s.size - 1
    · have H : Hid (Ost.milliOut s.data.toList = (0, 4)) := HR.out _ (by rw [HG.out, HN.out, HDL.out, decide_eq_false (by omega)]; rfl)
      clear HR
      go_enter Tryd.func26, Tryd.ntmps26
      go_wp2_with fail
      refine (digits_yes _ 1000000 k _ HSZ.out (by omega) (by omega) (by rw [HD.out]; exact HN.out) (by rw [HD.out]; exact HK.out)).mono ?_; rintro e w' ⟨rfl, rfl⟩
      go_wp2_with fail
      go_ret2
      exact ⟨congrArg Ending.returned (congrArg twoNums H.out).symm, rfl⟩
    · by_cases hb : 1000000 < k
      · have H : Hid (Ost.milliOut s.data.toList = (0, 1)) := HR.out _ (by
          rw [HG.out, HN.out, HDL.out, decide_eq_true (by omega)]; simp [Ost.bound]
          have := HK.out; omega)
        clear HR
        go_enter Tryd.func26, Tryd.ntmps26
        go_wp2_with fail
        refine (digits_yes _ 1000000 k _ HSZ.out (by omega) (by omega) (by rw [HD.out]; exact HN.out) (by rw [HD.out]; exact HK.out)).mono ?_; rintro e w' ⟨rfl, rfl⟩
        go_wp2_with fail
        go_ret2
        exact ⟨congrArg Ending.returned (congrArg twoNums H.out).symm, rfl⟩
      · have H : Hid (Ost.milliOut s.data.toList = (k, 0)) := HR.out _ (by
          have hkk := HK.out
          have e : Ost.val t = k := by omega
          rw [HG.out, HN.out, HDL.out, decide_eq_true (by omega), e]; simp [Ost.bound]
          omega)
        clear HR
        go_enter Tryd.func26, Tryd.ntmps26
        go_wp2_with fail
        refine (digits_yes _ 1000000 k _ HSZ.out (by omega) (by omega) (by rw [HD.out]; exact HN.out) (by rw [HD.out]; exact HK.out)).mono ?_; rintro e w' ⟨rfl, rfl⟩
        go_wp2_with fail
        go_ret2
        exact ⟨congrArg Ending.returned (congrArg twoNums H.out).symm, rfl⟩
  · have H : Hid (Ost.milliOut s.data.toList = (0, 4)) := HR.out _ (by rw [HG.out, hn]; rfl)
    have HN := hideIt hn
    clear HR hn
    go_enter Tryd.func26, Tryd.ntmps26
    go_wp2_with fail
    refine (digits_no _ 1000000 _ HSZ.out (by omega) (by omega) (by rw [HD.out]; exact HN.out)).mono ?_; rintro e w' ⟨rfl, rfl⟩
    go_wp2_with fail
    go_ret2
    exact ⟨congrArg Ending.returned (congrArg twoNums H.out).symm, rfl⟩

set_option maxHeartbeats 400000 in
theorem refMilli_none (w : World) :
    Calls Tryd.prog 26 #[.string ⟨#[]⟩] w fun e w' => e = .returned (twoNums (0, 4)) ∧ w' = w := by
  go_enter Tryd.func26, Tryd.ntmps26
  go_wp2_with fail
  go_loop [7, 8] (fun a i => a = .int .i64 0 ∧ i = .int .i64 (-1)) (fun _ _ => 0)
  case atStart => exact ⟨rfl, rfl⟩
  case round =>
    obtain ⟨rfl, rfl⟩ := hrel
    go_wp2_with fail
    refine (digits_no _ 1000000 _ ?_ (by omega) (by omega) ?_).mono ?_
    · decide
    · decide
    rintro e w' ⟨rfl, rfl⟩
    go_wp2_with fail
    go_ret2
    exact ⟨rfl, rfl⟩
/-- The parting of a text that bears no letter m behind it. -/
theorem milliOut_dot (l : List UInt8) (hl : Lib.hasSuffix l [109] = false) (p : Int × Int)
    (h : (Ost.bound (if Ost.isNum (l.take (Ost.dotAt l 0)) = true ∧ Ost.dotAt l 0 ≤ 6 then (if Ost.dotAt l 0 < l.length then (if Ost.placesOk (l.drop (Ost.dotAt l 0 + 1)) then some (Ost.val (l.take (Ost.dotAt l 0)) * 1000 + Ost.val (Ost.pad (l.drop (Ost.dotAt l 0 + 1)))) else none) else some (Ost.val (l.take (Ost.dotAt l 0)) * 1000)) else none)) = p) : Ost.milliOut l = p := by
  have hle := Ost.dotAt_le l 0 (by omega)
  rw [← h, Ost.milliOut, Ost.milliRaw, hl, Ost.cut1_dotAt, Ost.good_of_num 6 _ (by omega)]
  simp only [List.length_take, Nat.min_eq_left hle, Bool.and_eq_true, decide_eq_true_eq]
  simp only [Bool.false_eq_true, if_false]
  have e : ((Ost.dotAt l 0 : Int) ≤ 6) ↔ Ost.dotAt l 0 ≤ 6 := by omega
  simp only [e]
set_option maxHeartbeats 1000000 in
theorem refMilli_dot (s : ByteArray) (w : World) (hs : s.size ≤ 100) (hl : Lib.hasSuffix s.data.toList [109] = false) :
    Calls Tryd.prog 26 #[.string s] w fun e w' => e = .returned (twoNums (Ost.milliOut s.data.toList)) ∧ w' = w := by
  have HL : Hid (s.data.toList.length = s.size) := by unfold Hid; simp
  have hlast : 0 < s.size → ∀ h : s.size - 1 < s.size, ((s[s.size - 1].toNat : Int) == 109) = false := by
    intro h0 h
    rw [Ost.hasSuffix_one, decide_eq_false_iff_not, Ost.last_s s h0] at hl
    simp only [beq_eq_false_iff_ne, ne_eq]
    intro e
    exact hl ((Ost.u8_eq _ 109 (by omega)).2 (by omega))
  have HO := hideIt (milliOut_dot s.data.toList hl)
  clear hl
  by_cases h0 : s.size = 0
  · have H : Hid (Ost.milliOut s.data.toList = (0, 4)) := by
      have h1 : s.data.toList = [] := List.eq_nil_of_length_eq_zero (HL.out.trans h0)
      unfold Hid; rw [h1]; decide
    have h1 : s = ⟨#[]⟩ := by
      rcases s with ⟨⟨l⟩⟩
      cases l with
      | nil => rfl
      | cons a r => simp [ByteArray.size] at h0
    clear hlast HO
    have h3 := refMilli_none w
    rw [← h1, ← H.out] at h3
    exact h3
  · have h0' : 0 < s.size := by omega
    have hla := hlast h0' (by omega)
    clear hlast h0
    go_enter Tryd.func26, Tryd.ntmps26
    go_wp2_with fail
    go_loop [7, 8] (fun a i => ∃ j : Nat, j ≤ s.size ∧ i = .int .i64 ((j : Int) - 1) ∧ a = .int .i64 (Ost.dotAt s.data.toList j)) (fun _ i => (intOf i + 1).toNat)
    case atStart => exact ⟨s.size, Nat.le_refl _, rfl, by have := Ost.dotAt_end s.data.toList; rw [HL.out] at this; rw [this]⟩
    case round =>
      obtain ⟨j, hj, rfl, rfl⟩ := hrel
      have hdl := Ost.dotAt_le s.data.toList j (by rw [HL.out]; exact hj)
      rw [HL.out] at hdl
      by_cases hj0 : j = 0
      · subst hj0
        generalize ha : Ost.dotAt s.data.toList 0 = a at *
        clear ha
        have HD1 : Hid ((s.extract 0 a).data.toList = s.data.toList.take a) := by
          unfold Hid; rw [extract_list, List.drop_zero]
        have HT1 : Hid ((s.extract (a + 1) s.size).data.toList = s.data.toList.drop (a + 1)) := by
          unfold Hid; rw [extract_list, List.take_of_length_le (by rw [HL.out]; omega)]
        have HSZ : Hid ((s.extract 0 a).size ≤ maxLen) := by unfold Hid; rw [ByteArray.size_extract]; unfold maxLen; omega
        have HTL : Hid ((s.data.toList.drop (a + 1)).length = s.size - (a + 1)) := by unfold Hid; rw [List.length_drop, HL.out]
        have HLE : Hid ((s.data.toList.take a).length = a) := by unfold Hid; rw [List.length_take, HL.out]; omega
        rw [HL.out] at HO
        generalize s.data.toList.take a = L at *
        generalize s.data.toList.drop (a + 1) = T at *
        rcases two (Ost.isNum L) with hn | hn
        · have hv0 := Ost.val_nonneg L ((Ost.isNum_iff L).1 hn).2.2
          have HVP := hideIt (Ost.val_lt_pow L ((Ost.isNum_iff L).1 hn).2.2)
          have HN := hideIt hn
          clear hn
          obtain ⟨k, hk⟩ : ∃ k, min (Ost.val L) (1000000 + 1) = k := ⟨_, rfl⟩
          have hk0 : 0 ≤ k := by omega
          have hk1 : k ≤ 1000001 := by omega
          have HK := hideIt hk
          clear hk
          by_cases h6 : 6 < a
          · have H : Hid (Ost.milliOut s.data.toList = (0, 4)) := HO.out _ (by rw [if_neg (by omega)]; rfl)
            clear HO
            go_wp2_with fail
            refine (digits_yes _ 1000000 k _ HSZ.out (by omega) (by omega) (by rw [HD1.out]; exact HN.out) (by rw [HD1.out]; exact HK.out)).mono ?_; rintro e w' ⟨rfl, rfl⟩
            go_wp2_with fail
            go_ret2
            exact ⟨congrArg Ending.returned (congrArg twoNums H.out).symm, rfl⟩
          · have HKV : Hid (Ost.val L = k) := by
              have h1 := HVP.out
              have h2 := HK.out
              rw [HLE.out] at h1
              have h3 : a = 0 ∨ a = 1 ∨ a = 2 ∨ a = 3 ∨ a = 4 ∨ a = 5 ∨ a = 6 := by omega
              unfold Hid
              rcases h3 with e | e | e | e | e | e | e <;> subst e <;> omega
            by_cases hd : a < s.size
            · by_cases ht : 1 ≤ s.size - (a + 1) ∧ s.size - (a + 1) ≤ 3
              · have ht1 : 1 ≤ s.size - (a + 1) := ht.1
                have ht2 : s.size - (a + 1) ≤ 3 := ht.2
                clear ht
                have HO2 : Hid (∀ p, Ost.bound (if Ost.placesOk T then some (k * 1000 + Ost.val (Ost.pad T)) else none) = p → Ost.milliOut s.data.toList = p) := fun p h => HO.out p (by
                  rw [if_pos ⟨HN.out, by omega⟩, if_pos hd, HKV.out]; exact h)
                clear HO
                go_wp2_with fail
                refine (digits_yes _ 1000000 k _ HSZ.out (by omega) (by omega) (by rw [HD1.out]; exact HN.out) (by rw [HD1.out]; exact HK.out)).mono ?_; rintro e w' ⟨rfl, rfl⟩
                go_wp2_with fail
                have hts : (s.extract (a + 1) s.size).size = s.size - (a + 1) := by rw [ByteArray.size_extract]; omega
                generalize s.extract (a + 1) s.size = t at *
                have hts1 : 1 ≤ t.size := by omega
                have hts2 : t.size ≤ 3 := by omega
                have HTS : Hid (T.length = t.size) := by unfold Hid; rw [HTL.out, hts]
                clear hts HTL
                have hTt := HT1.out
                subst hTt
                go_loop [11, 13] (fun n i => ∃ q : Nat, q ≤ 3 ∧ i = .int .i64 q ∧ Hid (Ost.allDig (t.data.toList.take q) = true) ∧ 0 ≤ Ost.val ((Ost.pad t.data.toList).take q) ∧ Hid (Ost.val ((Ost.pad t.data.toList).take q) < 10 ^ q) ∧ n = .int .i64 (Ost.val ((Ost.pad t.data.toList).take q))) (fun _ i => 3 - (intOf i).toNat)
                case atStart => exact ⟨0, by omega, rfl, rfl, by simp [Ost.val], by simp [Hid, Ost.val], rfl⟩
                case round =>
                  obtain ⟨q, hq, rfl, HD, hq0, HV1, rfl⟩ := hrel
                  have hv2 : Ost.val ((Ost.pad t.data.toList).take q) < 1000 := by
                    have h1 := HV1.out
                    have : q = 0 ∨ q = 1 ∨ q = 2 ∨ q = 3 := by omega
                    rcases this with e | e | e | e <;> subst e <;> omega
                  by_cases hlt : q < 3
                  · have hts := Ost.pad_snoc t.data.toList q (by rw [HTS.out]; omega) hlt
                    by_cases hge : q < t.size
                    · rw [dif_pos (by rw [HTS.out]; exact hge)] at hts
                      have hts3 := Ost.take_snoc t q hge
                      rcases two (Ost.isDig t[q]) with hb | hb
                      · have hb1 := ((Ost.isDig_iff t[q]).1 hb).1
                        have hb2 := ((Ost.isDig_iff t[q]).1 hb).2
                        have HV : Hid (Ost.val ((Ost.pad t.data.toList).take (q + 1)) = 10 * Ost.val ((Ost.pad t.data.toList).take q) + ((t[q].toNat : Int) - 48)) := by
                          rw [hts, Ost.val_snoc]; show _ * 10 + ((t[q].toNat : Int) - 48) = _; omega
                        have HA : Hid (Ost.allDig (t.data.toList.take (q + 1)) = true) := by
                          rw [hts3, Ost.allDig_snoc, HD.out, hb]; rfl
                        clear hts hts3 hb
                        go_wp2_with fail
                        go_round
                        case rel => exact ⟨q + 1, by omega, by go_num, HA, by rw [HV.out]; omega, by unfold Hid; rw [HV.out]; have := HV1.out; rw [Int.pow_succ]; omega, by rw [HV.out]⟩
                        case measure => simp [intOf]; omega
                      · have H : Hid (Ost.milliOut s.data.toList = (0, 4)) := HO2.out _ (by
                          have := Ost.allDig_get t.data.toList q (by rw [HTS.out]; exact hge) hb
                          simp [Ost.placesOk, this, Ost.bound])
                        have hb1 := (Ost.isDig_not t[q]).1 hb
                        have hb2 : t[q].toNat < 48 ∨ (48 ≤ t[q].toNat ∧ 57 < t[q].toNat) := by omega
                        clear hts hts3 hb hb1
                        rcases hb2 with hb2 | ⟨hb1, hb2⟩
                        all_goals
                          go_wp2_with fail
                          go_ret2
                          exact ⟨congrArg Ending.returned (congrArg twoNums H.out).symm, rfl⟩
                    · rw [dif_neg (by rw [HTS.out]; exact hge)] at hts
                      have HV : Hid (Ost.val ((Ost.pad t.data.toList).take (q + 1)) = 10 * Ost.val ((Ost.pad t.data.toList).take q)) := by
                        rw [hts, Ost.val_snoc]; simp [Hid, Ost.step]; omega
                      have HA : Hid (Ost.allDig (t.data.toList.take (q + 1)) = true) := by
                        have := HD.out
                        rw [List.take_of_length_le (by rw [HTS.out]; omega)] at this ⊢
                        exact this
                      clear hts
                      go_wp2_with fail
                      go_round
                      case rel => exact ⟨q + 1, by omega, by go_num, HA, by rw [HV.out]; omega, by unfold Hid; rw [HV.out]; have := HV1.out; rw [Int.pow_succ]; omega, by rw [HV.out]⟩
                      case measure => simp [intOf]; omega
                  · have HP : Hid (Ost.placesOk t.data.toList = true ∧ Ost.val (Ost.pad t.data.toList) = Ost.val ((Ost.pad t.data.toList).take q)) := by
                      have hq3 : q = 3 := by omega
                      subst hq3
                      have hf : (Ost.pad t.data.toList).take 3 = Ost.pad t.data.toList := List.take_of_length_le (by rw [Ost.pad_length _ (by rw [HTS.out]; omega)]; omega)
                      have hg : t.data.toList.take 3 = t.data.toList := List.take_of_length_le (by rw [HTS.out]; omega)
                      have hd := HD.out
                      rw [hg] at hd
                      refine ⟨?_, by rw [hf]⟩
                      unfold Ost.placesOk; rw [hd, Bool.and_true, decide_eq_true_eq, HTS.out]; omega
                    have HO3 : Hid (∀ p, Ost.bound (some (k * 1000 + Ost.val ((Ost.pad t.data.toList).take q))) = p → Ost.milliOut s.data.toList = p) := fun p h => HO2.out p (by
                      rw [if_pos HP.out.1, HP.out.2]; exact h)
                    clear HO2 HP
                    by_cases hb : 1000000 < 1000 * k + Ost.val ((Ost.pad t.data.toList).take q)
                    · have H : Hid (Ost.milliOut s.data.toList = (0, 1)) := HO3.out _ (by rw [Ost.bound, if_pos (by omega)])
                      clear HO3
                      go_wp2_with fail
                      go_ret2
                      exact ⟨congrArg Ending.returned (congrArg twoNums H.out).symm, rfl⟩
                    · have H : Hid (Ost.milliOut s.data.toList = (1000 * k + Ost.val ((Ost.pad t.data.toList).take q), 0)) := HO3.out _ (by rw [Ost.bound, if_neg (by omega), Int.mul_comm])
                      clear HO3
                      go_wp2_with fail
                      go_ret2
                      exact ⟨congrArg Ending.returned (congrArg twoNums H.out).symm, rfl⟩
              · have H : Hid (Ost.milliOut s.data.toList = (0, 4)) := HO.out _ (by
                  have : Ost.placesOk T = false := by
                    unfold Ost.placesOk; rw [HTL.out, decide_eq_false (by omega)]; rfl
                  rw [if_pos ⟨HN.out, by omega⟩, if_pos hd, this]; rfl)
                clear HO
                have ht2 : s.size - (a + 1) < 1 ∨ 3 < s.size - (a + 1) := by omega
                clear ht
                rcases ht2 with ht | ht
                all_goals
                  go_wp2_with fail
                  refine (digits_yes _ 1000000 k _ HSZ.out (by omega) (by omega) (by rw [HD1.out]; exact HN.out) (by rw [HD1.out]; exact HK.out)).mono ?_; rintro e w' ⟨rfl, rfl⟩
                  go_wp2_with fail
                  go_ret2
                  exact ⟨congrArg Ending.returned (congrArg twoNums H.out).symm, rfl⟩
            · by_cases hb : 1000000 < 1000 * k
              · have H : Hid (Ost.milliOut s.data.toList = (0, 1)) := HO.out _ (by
                  rw [if_pos ⟨HN.out, by omega⟩, if_neg hd, HKV.out, Ost.bound, if_pos (by omega)])
                clear HO
                go_wp2_with fail
                refine (digits_yes _ 1000000 k _ HSZ.out (by omega) (by omega) (by rw [HD1.out]; exact HN.out) (by rw [HD1.out]; exact HK.out)).mono ?_; rintro e w' ⟨rfl, rfl⟩
                go_wp2_with fail
                go_ret2
                exact ⟨congrArg Ending.returned (congrArg twoNums H.out).symm, rfl⟩
              · have H : Hid (Ost.milliOut s.data.toList = (1000 * k, 0)) := HO.out _ (by
                  rw [if_pos ⟨HN.out, by omega⟩, if_neg hd, HKV.out, Ost.bound, if_neg (by omega), Int.mul_comm])
                clear HO
                go_wp2_with fail
                refine (digits_yes _ 1000000 k _ HSZ.out (by omega) (by omega) (by rw [HD1.out]; exact HN.out) (by rw [HD1.out]; exact HK.out)).mono ?_; rintro e w' ⟨rfl, rfl⟩
                go_wp2_with fail
                go_ret2
                exact ⟨congrArg Ending.returned (congrArg twoNums H.out).symm, rfl⟩
        · have H : Hid (Ost.milliOut s.data.toList = (0, 4)) := HO.out _ (by rw [if_neg (fun h => by rw [hn] at h; exact absurd h.1 (by simp))]; rfl)
          have HN := hideIt hn
          clear HO hn
          go_wp2_with fail
          refine (digits_no _ 1000000 _ HSZ.out (by omega) (by omega) (by rw [HD1.out]; exact HN.out)).mono ?_; rintro e w' ⟨rfl, rfl⟩
          go_wp2_with fail
          go_ret2
          exact ⟨congrArg Ending.returned (congrArg twoNums H.out).symm, rfl⟩
      · obtain ⟨q, rfl⟩ : ∃ q, j = q + 1 := ⟨j - 1, by omega⟩
        rw [show ((q + 1 : Nat) : Int) - 1 = (q : Int) by omega]
        clear hj0
        have hq : q < s.size := by omega
        rcases two ((s[q].toNat : Int) == 46) with h46 | h46
        · have HD : Hid (Ost.dotAt s.data.toList q = q) := Ost.dotAt_dot _ _ (by rw [HL.out]; exact hq) ((Ost.u8_eq _ 46 (by omega)).2 (by have := beq_iff_eq.1 h46; show s[q].toNat = 46; omega))
          go_wp2_with fail
          go_round
          case rel => exact ⟨q, by omega, rfl, by rw [HD.out]⟩
          case measure => simp [intOf]
        · have HD : Hid (Ost.dotAt s.data.toList q = Ost.dotAt s.data.toList (q + 1)) := Ost.dotAt_not _ _ (by rw [HL.out]; exact hq) (fun h => by
            have h2 : s[q].toNat = 46 := (Ost.u8_eq _ 46 (by omega)).1 h
            rw [beq_eq_false_iff_ne] at h46; exact h46 (by omega))
          go_wp2_with fail
          go_round
          case rel => exact ⟨q, by omega, rfl, by rw [HD.out]⟩
          case measure => simp [intOf]
theorem refMilli_any (s : ByteArray) (w : World) (hs : s.size ≤ 100) :
    Calls Tryd.prog 26 #[.string s] w fun e w' => e = .returned (twoNums (Ost.milliOut s.data.toList)) ∧ w' = w := by
  rcases two (Lib.hasSuffix s.data.toList [109]) with h | h
  · refine refMilli_m s w hs ?_ h
    rw [Ost.hasSuffix_one, decide_eq_true_eq] at h
    by_cases h0 : s.size = 0
    · have h1 : s.data.toList = [] := List.eq_nil_of_length_eq_zero (by simpa using h0)
      rw [h1] at h; simp at h
    · omega
  · exact refMilli_dot s w hs h
end Go.Proofs.YtfnkmlpgfohjnaaDoor
