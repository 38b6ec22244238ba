/- What the document's own answer to A2's reading is: the contract of the plain function that tells it. -/
import Derived.Test.YtfnkmlpgfohjnaaDoorWords
namespace Go.Proofs.YtfnkmlpgfohjnaaDoor
open Go.RowKit
/-- Where the first dash stands in what is behind place j (-1: nowhere). -/
def dashAt (l : List UInt8) (j : Nat) : Int := if (Ost.cut1 45 (l.drop j)).2.2 then ((j + (Ost.cut1 45 (l.drop j)).1.length : Nat) : Int) else -1
theorem dashAt_end (l : List UInt8) : dashAt l l.length = -1 := by simp [dashAt, Ost.cut1]
theorem dashAt_dash (l : List UInt8) (j : Nat) (h : j < l.length) (hd : l[j] = 45) : dashAt l j = j := by
  unfold dashAt
  rw [List.drop_eq_getElem_cons h, Ost.cut1, if_pos hd]; simp
theorem dashAt_not (l : List UInt8) (j : Nat) (h : j < l.length) (hd : l[j] ≠ 45) : dashAt l j = dashAt l (j + 1) := by
  unfold dashAt
  rw [List.drop_eq_getElem_cons h, Ost.cut1, if_neg hd]
  simp only [List.length_cons]
  split
  · congr 1; omega
  · rfl
theorem dashAt_bd (l : List UInt8) (j : Nat) : -1 ≤ dashAt l j := by
  unfold dashAt; split <;> omega
theorem inInt_c (s : ByteArray) (w : World) (b : Bool) (hs : s.size ≤ 300) (h : Ost.inIntB s.data.toList = b) :
    Calls Tryd.prog 43 #[.string s] w fun e w' => e = .returned (.bool b) ∧ w' = w := by
  have := inInt_any s w hs
  rw [h] at this; exact this
theorem digits_gen (s : ByteArray) (w : World) (hs : s.size ≤ maxLen) :
    Calls Tryd.prog 42 #[.string s, .int .i64 1000] w fun e w' => (∃ (k : Int) (b : Bool), e = .returned (.tuple #[.int .i64 k, .bool b])) ∧ w' = w := by
  cases h : Ost.isNum s.data.toList with
  | true =>
    refine (digits_yes s 1000 _ w hs (by omega) (by omega) h rfl).mono ?_
    rintro e w' ⟨rfl, rfl⟩
    exact ⟨⟨_, _, rfl⟩, rfl⟩
  | false =>
    refine (digits_no s 1000 w hs (by omega) (by omega) h).mono ?_
    rintro e w' ⟨rfl, rfl⟩
    exact ⟨⟨_, _, rfl⟩, rfl⟩
theorem less_cases (a b : ByteArray) : (Ost.lessB a.data.toList b.data.toList = true → b.size < a.size ∨ (a.size = b.size ∧ (!Op.bytesLess a.toList b.toList && !(a.toList == b.toList)) = true)) ∧
    (Ost.lessB a.data.toList b.data.toList = false → ¬ b.size < a.size ∧ (a.size = b.size → (!Op.bytesLess a.toList b.toList && !(a.toList == b.toList)) = false)) := by
  have ha : a.data.toList.length = a.size := by simp
  have hb : b.data.toList.length = b.size := by simp
  unfold Ost.lessB
  rw [ha, hb, toListL, toListL]
  by_cases h1 : b.size < a.size
  · rw [decide_eq_true h1]; exact ⟨fun _ => .inl h1, fun h => by simp at h⟩
  · by_cases h2 : a.size = b.size
    · rw [decide_eq_false h1, decide_eq_true h2, Bool.false_or, Bool.true_and]
      exact ⟨fun h => .inr ⟨h2, h⟩, fun h => ⟨h1, fun _ => h⟩⟩
    · rw [decide_eq_false h1, decide_eq_false h2]
      exact ⟨fun h => by simp at h, fun _ => ⟨h1, fun h => absurd h h2⟩⟩
set_option maxRecDepth 100000 in
set_option maxHeartbeats 8000000 in
theorem readSet_walk (s : ByteArray) (w : World) (hs : s.size ≤ 300) (h0 : 0 < s.size) :
    Calls Tryd.prog 22 #[.string s] w fun e w' => e = .returned (setNum (Ost.parseOut s.data.toList)) ∧ Below w.heap.size w w' := by
  have hem : s.toList.isEmpty = false := by rw [Ost.toList_isEmpty, decide_eq_false (by omega)]
  have h300 : decide (300 < (s.size : Int)) = false := decide_eq_false (by omega)
  have HL : Hid (s.data.toList.length = s.size) := by unfold Hid; simp
  have HP0 : Hid (Left s.data.toList 0 0) := by
    unfold Hid Left Ost.parseOut
    rw [if_neg (by rw [HL.out]; omega), if_neg (fun e => by have := HL.out; rw [e] at this; simp at this; omega)]
    rfl
  have hn1 := splitC_len 44 s.data.toList
  rw [HL.out] at hn1
  have HX := hideIt' (splitC_mem 44 s.data.toList)
  have hn0 : 0 < (Ost.splitC 44 s.data.toList).length := List.length_pos_iff.2 (Ost.splitC_ne _ _)
  go_enter Tryd.func22, Tryd.ntmps22
  go_wp2_with fail
  refine (words_any s _ hs).mono ?_
  rintro e w1 ⟨v, rfl, hrow, hB1⟩
  rcases ownsRow_cells hrow with ⟨_, h00⟩ | ⟨g, cap, hv, _, _, hcell⟩
  · exfalso; omega
  rw [hv]
  have HC : Hid (∀ k, k < (Ost.splitC 44 s.data.toList).length → w1.cell? ⟨g, k, none⟩ = some (.string ⟨((Ost.splitC 44 s.data.toList).getD k []).toArray⟩)) := by
    intro k hk
    apply hcell
    unfold strs
    simp [hk]
  clear hrow hv hcell
  go_wp2_with fail
  go_loop [4, 6] (fun t i => ∃ k acc : Nat, k ≤ (Ost.splitC 44 s.data.toList).length ∧ acc < 18446744073709551616 ∧ i = .int .i64 k ∧ t = .int .u64 acc ∧ Hid (Left s.data.toList k acc)) (fun _ i => (Ost.splitC 44 s.data.toList).length - (intOf i).toNat)
  case atStart => exact ⟨0, 0, by omega, by omega, rfl, rfl, HP0⟩
  case round =>
    obtain ⟨k, acc, hk, hacc, rfl, rfl, HLf⟩ := hrel
    clear HP0
    by_cases hlt : k < (Ost.splitC 44 s.data.toList).length
    · have hcell := HC.out k hlt
      have HNx := hideIt' (HLf.out.next hlt)
      have hps : ((Ost.splitC 44 s.data.toList).getD k []).length ≤ 300 := by
        have hmem : (Ost.splitC 44 s.data.toList).getD k [] ∈ Ost.splitC 44 s.data.toList := by simp [hlt]
        have := HX.out _ hmem
        rw [HL.out] at this; omega
      generalize (Ost.splitC 44 s.data.toList).getD k [] = tl at hcell HNx hps
      obtain ⟨t, ht⟩ : ∃ t : ByteArray, t = ⟨tl.toArray⟩ := ⟨_, rfl⟩
      have htd : tl = t.data.toList := by rw [ht]
      rw [← ht] at hcell
      subst htd
      clear ht
      have HLt : Hid (t.data.toList.length = t.size) := by unfold Hid; simp
      rw [HLt.out] at hps
      go_wp2_with fail
      go_loop [7, 8] (fun a i => ∃ j : Nat, j ≤ t.size ∧ i = .int .i64 ((j : Int) - 1) ∧ a = .int .i64 (dashAt t.data.toList j)) (fun _ i => (intOf i + 1).toNat)
      case atStart => exact ⟨t.size, Nat.le_refl _, rfl, by have := dashAt_end t.data.toList; rw [HLt.out] at this; rw [this]⟩
      case round =>
        obtain ⟨j, hj, rfl, rfl⟩ := hrel
        by_cases hj0 : j = 0
        · subst hj0
          rcases two' (Ost.cut1 45 t.data.toList).2.2 with hf | hf
          · obtain ⟨L1, L2, hL, HAB0, hda⟩ : ∃ L1 L2, t.data.toList = L1 ++ 45 :: L2 ∧ Hid (Ost.spanOf t.data.toList = if Ost.isNum L1 && Ost.isNum L2 && (Ost.inIntB L1 && Ost.inIntB L2) && !Ost.lessB L1 L2 then some (Ost.val L1, Ost.val L2) else none) ∧ dashAt t.data.toList 0 = (L1.length : Nat) :=
              ⟨_, _, (Ost.cut1_true 45 t.data.toList hf).1, Ost.spanOf_ab t.data.toList _ _ (.inl ⟨hf, rfl, rfl⟩), by unfold dashAt; rw [List.drop_zero, if_pos hf, Nat.zero_add]⟩
            have hln := congrArg List.length hL
            simp only [List.length_append, List.length_cons] at hln
            rw [HLt.out] at hln
            rw [hda]
            have HA1 : Hid ((t.extract 0 L1.length).data.toList = L1) := by
              unfold Hid; rw [extract_list, List.drop_zero, hL]; simp
            have HA2 : Hid ((t.extract (L1.length + 1) t.size).data.toList = L2) := by
              unfold Hid; rw [extract_list, List.take_of_length_le (by rw [HLt.out]; omega), hL]; simp
            have hn2 : L1.length < t.size := by omega
            clear hL hln hda hf
            go_wp2_with fail
            have HSa : Hid ((t.extract 0 L1.length).size ≤ maxLen) := by unfold Hid; rw [ByteArray.size_extract]; unfold maxLen; omega
            have HSb : Hid ((t.extract (L1.length + 1) t.size).size ≤ maxLen) := by unfold Hid; rw [ByteArray.size_extract]; unfold maxLen; omega
            have HRa : Hid ((t.extract 0 L1.length).size ≤ 300) := by unfold Hid; rw [ByteArray.size_extract]; omega
            have HRb : Hid ((t.extract (L1.length + 1) t.size).size ≤ 300) := by unfold Hid; rw [ByteArray.size_extract]; omega
            generalize t.extract 0 L1.length = a at *
            generalize t.extract (L1.length + 1) t.size = b at *
            have HAB : Hid (Ost.spanOf t.data.toList = if Ost.isNum a.data.toList && Ost.isNum b.data.toList && (Ost.inIntB a.data.toList && Ost.inIntB b.data.toList) && !Ost.lessB a.data.toList b.data.toList then some (Ost.val a.data.toList, Ost.val b.data.toList) else none) := by
              unfold Hid; rw [HA1.out, HA2.out]; exact HAB0.out
            clear HA1 HA2 HAB0
            rcases two' (Ost.isNum a.data.toList) with hna | hna
            · have HNa := hideIt' hna
              obtain ⟨ka, hka⟩ : ∃ k, min (Ost.val a.data.toList) (1000 + 1) = k := ⟨_, rfl⟩
              have hva := Ost.val_nonneg a.data.toList ((Ost.isNum_iff a.data.toList).1 hna).2.2
              have hka0 : 0 ≤ ka := by omega
              have hka1 : ka ≤ 1001 := by omega
              have HKa := hideIt' hka
              have HVa := hideIt' hva
              clear hka hva
              rcases two' (Ost.isNum b.data.toList) with hnb | hnb
              · have HNb := hideIt' hnb
                obtain ⟨kb, hkb⟩ : ∃ k, min (Ost.val b.data.toList) (1000 + 1) = k := ⟨_, rfl⟩
                have hvb := Ost.val_nonneg b.data.toList ((Ost.isNum_iff b.data.toList).1 hnb).2.2
                have hkb0 : 0 ≤ kb := by omega
                have hkb1 : kb ≤ 1001 := by omega
                have HKb := hideIt' hkb
                have HVb := hideIt' hvb
                clear hkb hvb
                rcases two' (Ost.inIntB a.data.toList) with hia | hia
                · have HIa := hideIt' hia
                  rcases two' (Ost.inIntB b.data.toList) with hib | hib
                  · have HIb := hideIt' hib
                    have HLs := hideIt' (less_cases a b)
                    rcases two' (Ost.lessB a.data.toList b.data.toList) with hlb | hlb
                    · have H : Hid (Ost.parseOut s.data.toList = (0, 4)) := HNx.out.1 (by rw [HAB.out]; simp [hlb])
                      have HT := hideIt' (HLs.out.1 hlb)
                      clear hna hnb hia hib hlb HNx HAB HLs
                      rcases HT.out with hc | ⟨hc, hd⟩
                      · have hc1 : (b.size : Int) < (a.size : Int) := by omega
                        clear HT hc
                        refine (digits_yes a 1000 _ _ HSa.out (by omega) (by omega) HNa.out HKa.out).mono ?_; rintro e w' ⟨rfl, rfl⟩
                        go_wp2_with fail
                        refine (digits_yes b 1000 _ _ HSb.out (by omega) (by omega) HNb.out HKb.out).mono ?_; rintro e w' ⟨rfl, rfl⟩
                        go_wp2_with fail
                        refine (inInt_c a _ true HRa.out HIa.out).mono ?_; rintro e w' ⟨rfl, rfl⟩
                        go_wp2_with fail
                        refine (inInt_c b _ true HRb.out HIb.out).mono ?_; rintro e w' ⟨rfl, rfl⟩
                        go_wp2_with fail
                        go_ret2
                        exact ⟨congrArg Ending.returned (congrArg setNum H.out).symm, hB1⟩
                      · have hle : a.size ≤ b.size := by omega
                        have hc0 : decide ((b.size : Int) < (a.size : Int)) = false := decide_eq_false (by omega)
                        have hc1 : ((a.size : Int) == (b.size : Int)) = true := by rw [beq_iff_eq]; omega
                        clear HT hc
                        refine (digits_yes a 1000 _ _ HSa.out (by omega) (by omega) HNa.out HKa.out).mono ?_; rintro e w' ⟨rfl, rfl⟩
                        go_wp2_with fail
                        refine (digits_yes b 1000 _ _ HSb.out (by omega) (by omega) HNb.out HKb.out).mono ?_; rintro e w' ⟨rfl, rfl⟩
                        go_wp2_with fail
                        refine (inInt_c a _ true HRa.out HIa.out).mono ?_; rintro e w' ⟨rfl, rfl⟩
                        go_wp2_with fail
                        refine (inInt_c b _ true HRb.out HIb.out).mono ?_; rintro e w' ⟨rfl, rfl⟩
                        go_wp2_with fail
                        go_ret2
                        exact ⟨congrArg Ending.returned (congrArg setNum H.out).symm, hB1⟩
                    · have HQ := hideIt' (HNx.out.2 (Ost.val a.data.toList) (Ost.val b.data.toList) (by rw [HAB.out]; simp [hna, hnb, hia, hib, hlb]))
                      have HLe : Hid (Ost.val a.data.toList ≤ Ost.val b.data.toList) := by
                        have h1 := Ost.lessB_val a.data.toList b.data.toList hna hnb
                        rw [hlb] at h1
                        have h2 := of_decide_eq_false h1.symm
                        unfold Hid; omega
                      have HT := hideIt' (HLs.out.2 hlb)
                      clear hna hnb hia hib hlb HNx HAB HLs
                      have hle : a.size ≤ b.size := by have := HT.out.1; omega
                      have hc0 : decide ((b.size : Int) < (a.size : Int)) = false := decide_eq_false (by omega)
                      by_cases hsz : a.size = b.size
                      · have hc1 : ((a.size : Int) == (b.size : Int)) = true := by rw [beq_iff_eq]; omega
                        have hd := HT.out.2 hsz
                        clear HT hsz
                        by_cases h63 : 63 < kb
                        · have H : Hid (Ost.parseOut s.data.toList = (0, 1)) := HQ.out.1 (by have := HKb.out; omega)
                          clear HQ
                          refine (digits_yes a 1000 _ _ HSa.out (by omega) (by omega) HNa.out HKa.out).mono ?_; rintro e w' ⟨rfl, rfl⟩
                          go_wp2_with fail
                          refine (digits_yes b 1000 _ _ HSb.out (by omega) (by omega) HNb.out HKb.out).mono ?_; rintro e w' ⟨rfl, rfl⟩
                          go_wp2_with fail
                          refine (inInt_c a _ true HRa.out HIa.out).mono ?_; rintro e w' ⟨rfl, rfl⟩
                          go_wp2_with fail
                          refine (inInt_c b _ true HRb.out HIb.out).mono ?_; rintro e w' ⟨rfl, rfl⟩
                          go_wp2_with fail
                          go_ret2
                          exact ⟨congrArg Ending.returned (congrArg setNum H.out).symm, hB1⟩
                        · have hkab : ka ≤ kb := by have := HKa.out; have := HKb.out; have := HLe.out; omega
                          have HQ2 : Hid (Left s.data.toList (k + 1) (acc ||| Ost.rb ka.toNat (kb - ka + 1).toNat)) := by
                            have h1 := HQ.out.2 (by have := HKb.out; have := HVb.out; omega)
                            have e1 : Ost.val a.data.toList = ka := by have := HKa.out; have := HKb.out; have := HLe.out; omega
                            have e2 : Ost.val b.data.toList = kb := by have := HKb.out; omega
                            rw [← e1, ← e2]; exact h1
                          obtain ⟨F, rfl⟩ := Int.eq_ofNat_of_zero_le hka0
                          obtain ⟨T, rfl⟩ := Int.eq_ofNat_of_zero_le hkb0
                          have hFT : F ≤ T := by omega
                          have hT63 : T ≤ 63 := by omega
                          clear HQ h63
                          refine (digits_yes a 1000 _ _ HSa.out (by omega) (by omega) HNa.out HKa.out).mono ?_; rintro e w' ⟨rfl, rfl⟩
                          go_wp2_with fail
                          refine (digits_yes b 1000 _ _ HSb.out (by omega) (by omega) HNb.out HKb.out).mono ?_; rintro e w' ⟨rfl, rfl⟩
                          go_wp2_with fail
                          refine (inInt_c a _ true HRa.out HIa.out).mono ?_; rintro e w' ⟨rfl, rfl⟩
                          go_wp2_with fail
                          refine (inInt_c b _ true HRb.out HIb.out).mono ?_; rintro e w' ⟨rfl, rfl⟩
                          go_wp2_with fail
                          go_loop [4, 16] (fun t i => ∃ q : Nat, q ≤ T - F + 1 ∧ i = .int .i64 (F + q : Nat) ∧ t = .int .u64 (acc ||| Ost.rb F q : Nat)) (fun _ i => 65 - (intOf i).toNat)
                          case atStart => exact ⟨0, by omega, rfl, by simp [Ost.rb]⟩
                          case round =>
                            obtain ⟨q, hq, rfl, rfl⟩ := hrel
                            have hlt2 : acc ||| Ost.rb F q < 18446744073709551616 := or_lt _ _ hacc (rb_lt F q (by omega))
                            by_cases hend : F + q ≤ T
                            · have HOr : Hid (bits BinOp.or IntKind.u64 (acc ||| Ost.rb F q : Nat) (IntKind.u64.wrap (2 ^ (F + q))) = ((acc ||| Ost.rb F (q + 1) : Nat) : Int)) := by
                                unfold Hid; rw [or_step _ _ hlt2 (by omega), Ost.rb, Nat.or_assoc]
                              go_wp2_with fail
                              go_round
                              case rel => exact ⟨q + 1, by omega, by go_num, by rw [← HOr.out]⟩
                              case measure => simp [intOf]; omega
                            · have HA : Hid (Left s.data.toList (k + 1) (acc ||| Ost.rb F q)) := by
                                have h1 := HQ2.out
                                rw [show ((F : Nat) : Int).toNat = F by omega, show (((T : Nat) : Int) - (F : Nat) + 1).toNat = q by omega] at h1
                                exact h1
                              go_wp2_with fail
                              go_round
                              case rel => exact ⟨k + 1, _, by omega, hlt2, by go_num, rfl, HA⟩
                              case measure => simp [intOf]; omega
                      · have hc1 : ((a.size : Int) == (b.size : Int)) = false := by rw [beq_eq_false_iff_ne]; omega
                        clear HT hsz
                        by_cases h63 : 63 < kb
                        · have H : Hid (Ost.parseOut s.data.toList = (0, 1)) := HQ.out.1 (by have := HKb.out; omega)
                          clear HQ
                          refine (digits_yes a 1000 _ _ HSa.out (by omega) (by omega) HNa.out HKa.out).mono ?_; rintro e w' ⟨rfl, rfl⟩
                          go_wp2_with fail
                          refine (digits_yes b 1000 _ _ HSb.out (by omega) (by omega) HNb.out HKb.out).mono ?_; rintro e w' ⟨rfl, rfl⟩
                          go_wp2_with fail
                          refine (inInt_c a _ true HRa.out HIa.out).mono ?_; rintro e w' ⟨rfl, rfl⟩
                          go_wp2_with fail
                          refine (inInt_c b _ true HRb.out HIb.out).mono ?_; rintro e w' ⟨rfl, rfl⟩
                          go_wp2_with fail
                          go_ret2
                          exact ⟨congrArg Ending.returned (congrArg setNum H.out).symm, hB1⟩
                        · have hkab : ka ≤ kb := by have := HKa.out; have := HKb.out; have := HLe.out; omega
                          have HQ2 : Hid (Left s.data.toList (k + 1) (acc ||| Ost.rb ka.toNat (kb - ka + 1).toNat)) := by
                            have h1 := HQ.out.2 (by have := HKb.out; have := HVb.out; omega)
                            have e1 : Ost.val a.data.toList = ka := by have := HKa.out; have := HKb.out; have := HLe.out; omega
                            have e2 : Ost.val b.data.toList = kb := by have := HKb.out; omega
                            rw [← e1, ← e2]; exact h1
                          obtain ⟨F, rfl⟩ := Int.eq_ofNat_of_zero_le hka0
                          obtain ⟨T, rfl⟩ := Int.eq_ofNat_of_zero_le hkb0
                          have hFT : F ≤ T := by omega
                          have hT63 : T ≤ 63 := by omega
                          clear HQ h63
                          refine (digits_yes a 1000 _ _ HSa.out (by omega) (by omega) HNa.out HKa.out).mono ?_; rintro e w' ⟨rfl, rfl⟩
                          go_wp2_with fail
                          refine (digits_yes b 1000 _ _ HSb.out (by omega) (by omega) HNb.out HKb.out).mono ?_; rintro e w' ⟨rfl, rfl⟩
                          go_wp2_with fail
                          refine (inInt_c a _ true HRa.out HIa.out).mono ?_; rintro e w' ⟨rfl, rfl⟩
                          go_wp2_with fail
                          refine (inInt_c b _ true HRb.out HIb.out).mono ?_; rintro e w' ⟨rfl, rfl⟩
                          go_wp2_with fail
                          go_loop [4, 16] (fun t i => ∃ q : Nat, q ≤ T - F + 1 ∧ i = .int .i64 (F + q : Nat) ∧ t = .int .u64 (acc ||| Ost.rb F q : Nat)) (fun _ i => 65 - (intOf i).toNat)
                          case atStart => exact ⟨0, by omega, rfl, by simp [Ost.rb]⟩
                          case round =>
                            obtain ⟨q, hq, rfl, rfl⟩ := hrel
                            have hlt2 : acc ||| Ost.rb F q < 18446744073709551616 := or_lt _ _ hacc (rb_lt F q (by omega))
                            by_cases hend : F + q ≤ T
                            · have HOr : Hid (bits BinOp.or IntKind.u64 (acc ||| Ost.rb F q : Nat) (IntKind.u64.wrap (2 ^ (F + q))) = ((acc ||| Ost.rb F (q + 1) : Nat) : Int)) := by
                                unfold Hid; rw [or_step _ _ hlt2 (by omega), Ost.rb, Nat.or_assoc]
                              go_wp2_with fail
                              go_round
                              case rel => exact ⟨q + 1, by omega, by go_num, by rw [← HOr.out]⟩
                              case measure => simp [intOf]; omega
                            · have HA : Hid (Left s.data.toList (k + 1) (acc ||| Ost.rb F q)) := by
                                have h1 := HQ2.out
                                rw [show ((F : Nat) : Int).toNat = F by omega, show (((T : Nat) : Int) - (F : Nat) + 1).toNat = q by omega] at h1
                                exact h1
                              go_wp2_with fail
                              go_round
                              case rel => exact ⟨k + 1, _, by omega, hlt2, by go_num, rfl, HA⟩
                              case measure => simp [intOf]; omega
                  · have HIb := hideIt' hib
                    have H : Hid (Ost.parseOut s.data.toList = (0, 4)) := HNx.out.1 (by rw [HAB.out]; simp [hib])
                    clear hna hnb hia hib HNx HAB
                    refine (digits_yes a 1000 _ _ HSa.out (by omega) (by omega) HNa.out HKa.out).mono ?_; rintro e w' ⟨rfl, rfl⟩
                    go_wp2_with fail
                    refine (digits_yes b 1000 _ _ HSb.out (by omega) (by omega) HNb.out HKb.out).mono ?_; rintro e w' ⟨rfl, rfl⟩
                    go_wp2_with fail
                    refine (inInt_c a _ true HRa.out HIa.out).mono ?_; rintro e w' ⟨rfl, rfl⟩
                    go_wp2_with fail
                    refine (inInt_c b _ false HRb.out HIb.out).mono ?_; rintro e w' ⟨rfl, rfl⟩
                    go_wp2_with fail
                    go_ret2
                    exact ⟨congrArg Ending.returned (congrArg setNum H.out).symm, hB1⟩
                · have HIa := hideIt' hia
                  have H : Hid (Ost.parseOut s.data.toList = (0, 4)) := HNx.out.1 (by rw [HAB.out]; simp [hia])
                  clear hna hnb hia HNx HAB
                  refine (digits_yes a 1000 _ _ HSa.out (by omega) (by omega) HNa.out HKa.out).mono ?_; rintro e w' ⟨rfl, rfl⟩
                  go_wp2_with fail
                  refine (digits_yes b 1000 _ _ HSb.out (by omega) (by omega) HNb.out HKb.out).mono ?_; rintro e w' ⟨rfl, rfl⟩
                  go_wp2_with fail
                  refine (inInt_c a _ false HRa.out HIa.out).mono ?_; rintro e w' ⟨rfl, rfl⟩
                  go_wp2_with fail
                  go_ret2
                  exact ⟨congrArg Ending.returned (congrArg setNum H.out).symm, hB1⟩
              · have HNb := hideIt' hnb
                have H : Hid (Ost.parseOut s.data.toList = (0, 4)) := HNx.out.1 (by rw [HAB.out]; simp [hnb])
                clear hna hnb HNx HAB
                refine (digits_yes a 1000 _ _ HSa.out (by omega) (by omega) HNa.out HKa.out).mono ?_; rintro e w' ⟨rfl, rfl⟩
                go_wp2_with fail
                refine (digits_no b 1000 _ HSb.out (by omega) (by omega) HNb.out).mono ?_; rintro e w' ⟨rfl, rfl⟩
                go_wp2_with (go_at_call 43; refine (inInt_any _ _ (by first | exact HRa.out | exact HRb.out)).mono ?_; rintro e w' ⟨rfl, rfl⟩)
                all_goals go_ret2
                all_goals exact ⟨congrArg Ending.returned (congrArg setNum H.out).symm, hB1⟩
            · have HNa := hideIt' hna
              have H : Hid (Ost.parseOut s.data.toList = (0, 4)) := HNx.out.1 (by rw [HAB.out]; simp [hna])
              clear hna HNx HAB
              refine (digits_no a 1000 _ HSa.out (by omega) (by omega) HNa.out).mono ?_; rintro e w' ⟨rfl, rfl⟩
              go_wp2_with fail
              refine (digits_gen b _ HSb.out).mono ?_; rintro e w' ⟨⟨kq, bq, rfl⟩, rfl⟩
              go_wp2_with (go_at_call 43; refine (inInt_any _ _ (by first | exact HRa.out | exact HRb.out)).mono ?_; rintro e w' ⟨rfl, rfl⟩)
              all_goals go_ret2
              all_goals exact ⟨congrArg Ending.returned (congrArg setNum H.out).symm, hB1⟩
          · have hda : dashAt t.data.toList 0 = -1 := by
              unfold dashAt; rw [List.drop_zero, if_neg (by rw [hf]; simp)]
            rw [hda]
            have HAB := hideIt' (Ost.spanOf_ab t.data.toList t.data.toList t.data.toList (.inr ⟨hf, rfl, rfl⟩))
            have HSt : Hid (t.size ≤ maxLen) := by unfold Hid maxLen; omega
            have HRt : Hid (t.size ≤ 300) := hps
            clear hda hf
            go_wp2_with fail
            rcases two' (Ost.isNum t.data.toList) with hna | hna
            · have HNa := hideIt' hna
              obtain ⟨ka, hka⟩ : ∃ k, min (Ost.val t.data.toList) (1000 + 1) = k := ⟨_, rfl⟩
              have hva := Ost.val_nonneg t.data.toList ((Ost.isNum_iff t.data.toList).1 hna).2.2
              have hka0 : 0 ≤ ka := by omega
              have hka1 : ka ≤ 1001 := by omega
              have HKa := hideIt' hka
              have HVa := hideIt' hva
              clear hka hva
              rcases two' (Ost.isNum t.data.toList) with hnb | hnb
              · have HNb := hideIt' hnb
                obtain ⟨kb, hkb⟩ : ∃ k, min (Ost.val t.data.toList) (1000 + 1) = k := ⟨_, rfl⟩
                have hvb := Ost.val_nonneg t.data.toList ((Ost.isNum_iff t.data.toList).1 hnb).2.2
                have hkb0 : 0 ≤ kb := by omega
                have hkb1 : kb ≤ 1001 := by omega
                have HKb := hideIt' hkb
                have HVb := hideIt' hvb
                clear hkb hvb
                rcases two' (Ost.inIntB t.data.toList) with hia | hia
                · have HIa := hideIt' hia
                  rcases two' (Ost.inIntB t.data.toList) with hib | hib
                  · have HIb := hideIt' hib
                    have HLs := hideIt' (less_cases t t)
                    rcases two' (Ost.lessB t.data.toList t.data.toList) with hlb | hlb
                    · exfalso
                      have h1 := Ost.lessB_val t.data.toList t.data.toList hna hnb
                      rw [hlb] at h1
                      have h2 := of_decide_eq_true h1.symm
                      omega
                    · have HQ := hideIt' (HNx.out.2 (Ost.val t.data.toList) (Ost.val t.data.toList) (by rw [HAB.out]; simp [hna, hia, hlb]))
                      have HLe : Hid (Ost.val t.data.toList ≤ Ost.val t.data.toList) := by
                        have h1 := Ost.lessB_val t.data.toList t.data.toList hna hnb
                        rw [hlb] at h1
                        have h2 := of_decide_eq_false h1.symm
                        unfold Hid; omega
                      have HT := hideIt' (HLs.out.2 hlb)
                      clear hna hnb hia hib hlb HNx HAB HLs
                      have hle : t.size ≤ t.size := by have := HT.out.1; omega
                      have hc0 : decide ((t.size : Int) < (t.size : Int)) = false := decide_eq_false (by omega)
                      have hc1 : ((t.size : Int) == (t.size : Int)) = true := by rw [beq_iff_eq]
                      have hd := HT.out.2 rfl
                      clear HT
                      by_cases h63 : 63 < kb
                      · have H : Hid (Ost.parseOut s.data.toList = (0, 1)) := HQ.out.1 (by have := HKb.out; omega)
                        clear HQ
                        refine (digits_yes t 1000 _ _ HSt.out (by omega) (by omega) HNa.out HKa.out).mono ?_; rintro e w' ⟨rfl, rfl⟩
                        go_wp2_with fail
                        refine (digits_yes t 1000 _ _ HSt.out (by omega) (by omega) HNb.out HKb.out).mono ?_; rintro e w' ⟨rfl, rfl⟩
                        go_wp2_with fail
                        refine (inInt_c t _ true HRt.out HIa.out).mono ?_; rintro e w' ⟨rfl, rfl⟩
                        go_wp2_with fail
                        refine (inInt_c t _ true HRt.out HIb.out).mono ?_; rintro e w' ⟨rfl, rfl⟩
                        go_wp2_with fail
                        go_ret2
                        exact ⟨congrArg Ending.returned (congrArg setNum H.out).symm, hB1⟩
                      · have hkab : ka ≤ kb := by have := HKa.out; have := HKb.out; have := HLe.out; omega
                        have HQ2 : Hid (Left s.data.toList (k + 1) (acc ||| Ost.rb ka.toNat (kb - ka + 1).toNat)) := by
                          have h1 := HQ.out.2 (by have := HKb.out; have := HVb.out; omega)
                          have e1 : Ost.val t.data.toList = ka := by have := HKa.out; have := HKb.out; have := HLe.out; omega
                          have e2 : Ost.val t.data.toList = kb := by have := HKb.out; omega
                          rw [← e1, ← e2]; exact h1
                        obtain ⟨F, rfl⟩ := Int.eq_ofNat_of_zero_le hka0
                        obtain ⟨T, rfl⟩ := Int.eq_ofNat_of_zero_le hkb0
                        have hFT : F ≤ T := by omega
                        have hT63 : T ≤ 63 := by omega
                        clear HQ h63
                        refine (digits_yes t 1000 _ _ HSt.out (by omega) (by omega) HNa.out HKa.out).mono ?_; rintro e w' ⟨rfl, rfl⟩
                        go_wp2_with fail
                        refine (digits_yes t 1000 _ _ HSt.out (by omega) (by omega) HNb.out HKb.out).mono ?_; rintro e w' ⟨rfl, rfl⟩
                        go_wp2_with fail
                        refine (inInt_c t _ true HRt.out HIa.out).mono ?_; rintro e w' ⟨rfl, rfl⟩
                        go_wp2_with fail
                        refine (inInt_c t _ true HRt.out HIb.out).mono ?_; rintro e w' ⟨rfl, rfl⟩
                        go_wp2_with fail
                        go_loop [4, 16] (fun t i => ∃ q : Nat, q ≤ T - F + 1 ∧ i = .int .i64 (F + q : Nat) ∧ t = .int .u64 (acc ||| Ost.rb F q : Nat)) (fun _ i => 65 - (intOf i).toNat)
                        case atStart => exact ⟨0, by omega, rfl, by simp [Ost.rb]⟩
                        case round =>
                          obtain ⟨q, hq, rfl, rfl⟩ := hrel
                          have hlt2 : acc ||| Ost.rb F q < 18446744073709551616 := or_lt _ _ hacc (rb_lt F q (by omega))
                          by_cases hend : F + q ≤ T
                          · have HOr : Hid (bits BinOp.or IntKind.u64 (acc ||| Ost.rb F q : Nat) (IntKind.u64.wrap (2 ^ (F + q))) = ((acc ||| Ost.rb F (q + 1) : Nat) : Int)) := by
                              unfold Hid; rw [or_step _ _ hlt2 (by omega), Ost.rb, Nat.or_assoc]
                            go_wp2_with fail
                            go_round
                            case rel => exact ⟨q + 1, by omega, by go_num, by rw [← HOr.out]⟩
                            case measure => simp [intOf]; omega
                          · have HA : Hid (Left s.data.toList (k + 1) (acc ||| Ost.rb F q)) := by
                              have h1 := HQ2.out
                              rw [show ((F : Nat) : Int).toNat = F by omega, show (((T : Nat) : Int) - (F : Nat) + 1).toNat = q by omega] at h1
                              exact h1
                            go_wp2_with fail
                            go_round
                            case rel => exact ⟨k + 1, _, by omega, hlt2, by go_num, rfl, HA⟩
                            case measure => simp [intOf]; omega
                  · have HIb := hideIt' hib
                    have H : Hid (Ost.parseOut s.data.toList = (0, 4)) := HNx.out.1 (by rw [HAB.out]; simp [hib])
                    clear hna hnb hia hib HNx HAB
                    refine (digits_yes t 1000 _ _ HSt.out (by omega) (by omega) HNa.out HKa.out).mono ?_; rintro e w' ⟨rfl, rfl⟩
                    go_wp2_with fail
                    refine (digits_yes t 1000 _ _ HSt.out (by omega) (by omega) HNb.out HKb.out).mono ?_; rintro e w' ⟨rfl, rfl⟩
                    go_wp2_with fail
                    refine (inInt_c t _ true HRt.out HIa.out).mono ?_; rintro e w' ⟨rfl, rfl⟩
                    go_wp2_with fail
                    refine (inInt_c t _ false HRt.out HIb.out).mono ?_; rintro e w' ⟨rfl, rfl⟩
                    go_wp2_with fail
                    go_ret2
                    exact ⟨congrArg Ending.returned (congrArg setNum H.out).symm, hB1⟩
                · have HIa := hideIt' hia
                  have H : Hid (Ost.parseOut s.data.toList = (0, 4)) := HNx.out.1 (by rw [HAB.out]; simp [hia])
                  clear hna hnb hia HNx HAB
                  refine (digits_yes t 1000 _ _ HSt.out (by omega) (by omega) HNa.out HKa.out).mono ?_; rintro e w' ⟨rfl, rfl⟩
                  go_wp2_with fail
                  refine (digits_yes t 1000 _ _ HSt.out (by omega) (by omega) HNb.out HKb.out).mono ?_; rintro e w' ⟨rfl, rfl⟩
                  go_wp2_with fail
                  refine (inInt_c t _ false HRt.out HIa.out).mono ?_; rintro e w' ⟨rfl, rfl⟩
                  go_wp2_with fail
                  go_ret2
                  exact ⟨congrArg Ending.returned (congrArg setNum H.out).symm, hB1⟩
              · have HNb := hideIt' hnb
                have H : Hid (Ost.parseOut s.data.toList = (0, 4)) := HNx.out.1 (by rw [HAB.out]; simp [hnb])
                clear hna hnb HNx HAB
                refine (digits_yes t 1000 _ _ HSt.out (by omega) (by omega) HNa.out HKa.out).mono ?_; rintro e w' ⟨rfl, rfl⟩
                go_wp2_with fail
                refine (digits_no t 1000 _ HSt.out (by omega) (by omega) HNb.out).mono ?_; rintro e w' ⟨rfl, rfl⟩
                go_wp2_with (go_at_call 43; refine (inInt_any _ _ (by first | exact HRt.out | exact HRt.out)).mono ?_; rintro e w' ⟨rfl, rfl⟩)
                all_goals go_ret2
                all_goals exact ⟨congrArg Ending.returned (congrArg setNum H.out).symm, hB1⟩
            · have HNa := hideIt' hna
              have H : Hid (Ost.parseOut s.data.toList = (0, 4)) := HNx.out.1 (by rw [HAB.out]; simp [hna])
              clear hna HNx HAB
              refine (digits_no t 1000 _ HSt.out (by omega) (by omega) HNa.out).mono ?_; rintro e w' ⟨rfl, rfl⟩
              go_wp2_with fail
              refine (digits_gen t _ HSt.out).mono ?_; rintro e w' ⟨⟨kq, bq, rfl⟩, rfl⟩
              go_wp2_with (go_at_call 43; refine (inInt_any _ _ (by first | exact HRt.out | exact HRt.out)).mono ?_; rintro e w' ⟨rfl, rfl⟩)
              all_goals go_ret2
              all_goals exact ⟨congrArg Ending.returned (congrArg setNum H.out).symm, hB1⟩
        · obtain ⟨q, rfl⟩ : ∃ q, j = q + 1 := ⟨j - 1, by omega⟩
          rw [show ((q + 1 : Nat) : Int) - 1 = (q : Int) by omega]
          clear hj0
          have hq : q < t.size := by omega
          have hdb := dashAt_bd t.data.toList (q + 1)
          rcases two' ((t[q].toNat : Int) == 45) with h45 | h45
          · have HD : Hid (dashAt t.data.toList q = q) := dashAt_dash _ _ (by rw [HLt.out]; exact hq) ((Ost.u8_eq _ 45 (by omega)).2 (by have := beq_iff_eq.1 h45; show t[q].toNat = 45; omega))
            go_wp2_with fail
            go_round
            case rel => exact ⟨q, by omega, rfl, by rw [HD.out]⟩
            case measure => simp [intOf]
          · have HD : Hid (dashAt t.data.toList q = dashAt t.data.toList (q + 1)) := dashAt_not _ _ (by rw [HLt.out]; exact hq) (fun h => by
              have h2 : t[q].toNat = 45 := (Ost.u8_eq _ 45 (by omega)).1 h
              rw [beq_eq_false_iff_ne] at h45; exact h45 (by omega))
            go_wp2_with fail
            go_round
            case rel => exact ⟨q, by omega, rfl, by rw [HD.out]⟩
            case measure => simp [intOf]
    · have H := hideIt' (HLf.out.done (by omega))
      go_wp2_with fail
      go_ret2
      exact ⟨congrArg Ending.returned (congrArg setNum H.out).symm, hB1⟩
end Go.Proofs.YtfnkmlpgfohjnaaDoor
