/- What the document's own text of a set is: the contract of the plain function that tells it. -/
import Derived.Test.YtfnkmlpgfohjnaaDoorTopSetW
import Derived.Test.YtfnkmlpgfohjnaaDoorRef3
namespace Go.Proofs.YtfnkmlpgfohjnaaDoor
open Go.RowKit
theorem bit_eq0 (A n : Nat) (hA : A < 18446744073709551616) : (bits BinOp.and IntKind.u64 ((A : Int) / 2 ^ n) 1 == 0) = !A.testBit n := by
  have e : ((A : Int) / 2 ^ n) = ((A / 2 ^ n : Nat) : Int) := by simp
  have hlt : A / 2 ^ n < 18446744073709551616 := Nat.lt_of_le_of_lt (Nat.div_le_self _ _) hA
  rw [e, show (1 : Int) = ((1 : Nat) : Int) from rfl, bits_and_u64_nat _ _ hlt (by omega), Nat.testBit_eq_decide_div_mod_eq, Nat.and_one_is_mod]
  rw [Bool.eq_iff_iff]; simp; omega
theorem dec_nat (k : Nat) : dec (k : Int) = Lib.decDigits k := by unfold dec; rw [Int.toNat_natCast]
theorem decimal_nat (k : Nat) (w : World) (h : k < 64) :
    Calls Tryd.prog 38 #[.int .i64 k] w fun e w' => e = .returned (.string ⟨(Lib.decDigits k).toArray⟩) ∧ Below w.heap.size w w' := by
  have := decimal (k : Int) w (by omega) (by omega)
  rw [dec_nat] at this; exact this
theorem joined_bd (A k : Nat) (hk : k ≤ 64) : (Ost.joined (Ost.spansTo A k)).length ≤ 200 := by
  have h1 := Ost.joined_len (Ost.spansTo A k) (fun p hp => by have := Ost.spansTo_mem A k p hp; omega)
  have h2 := (Ost.spansTo_half A k).1
  omega
theorem mk_empty (l : List UInt8) : (ByteArray.mk l.toArray).toList.isEmpty = l.isEmpty := by rw [ByteArray.toList_eq]
/-- A run that goes on. -/
def Run (A k e : Nat) : Prop := k ≤ e ∧ e ≤ 63 ∧ Ost.spansTo A e = Ost.spansTo A k ∧ Ost.runStart A e = k ∧ A.testBit e = true
theorem Run.more {A k e : Nat} (h : Run A k e) (he : e < 63) (hb : A.testBit (e + 1) = true) : Run A k (e + 1) := by
  obtain ⟨h1, h2, h3, h4, h5⟩ := h
  refine ⟨by omega, by omega, ?_, ?_, hb⟩
  · rw [Ost.spansTo, hb]; simp [h3]
  · rw [Ost.runStart, if_pos h5, h4]
theorem Run.stop {A k e : Nat} (h : Run A k e) (hA : A < 18446744073709551616) (hs : ¬ (e < 63 ∧ A.testBit (e + 1) = true)) : Ost.spansTo A (e + 1) = Ost.spansTo A k ++ [(k, e)] ∧ A.testBit (e + 1) = false := by
  obtain ⟨h1, h2, h3, h4, h5⟩ := h
  have hb : A.testBit (e + 1) = false := by
    by_cases h6 : e < 63
    · cases h7 : A.testBit (e + 1) with
      | false => rfl
      | true => exact absurd ⟨h6, h7⟩ hs
    · exact Ost.bit_high A hA (e + 1) (by omega)
  refine ⟨?_, hb⟩
  rw [Ost.spansTo, h5, hb, h3, h4]; rfl
set_option maxRecDepth 100000 in
set_option maxHeartbeats 4000000 in
theorem setText_any (A : Nat) (w : World) (hA : A < 18446744073709551616) :
    Calls Tryd.prog 20 #[.int .u64 A] w fun e w' => e = .returned (.string ⟨(Ost.txt A).toArray⟩) ∧ Below w.heap.size w w' := by
  go_enter Tryd.func20, Tryd.ntmps20
  go_wp2_with fail
  go_loopw [3, 4] (fun t n wr => ∃ k : Nat, k ≤ 64 ∧ n = .int .i64 k ∧ t = .string ⟨(Ost.joined (Ost.spansTo A k)).toArray⟩ ∧ Hid (A.testBit k = true → Ost.runStart A k = k) ∧ Below w.heap.size w wr) (fun _ n _ => 64 - (intOf n).toNat)
  case atStart => exact ⟨0, by omega, rfl, rfl, fun _ => rfl, Below.refl _ _⟩
  case round =>
    obtain ⟨k, hk, rfl, rfl, HR, hnx⟩ := hrel
    by_cases hlt : k < 64
    · have hlen := joined_bd A k hk
      have h00 := bit_eq0 A k hA
      rcases two' (A.testBit k) with hb | hb
      · rw [hb] at h00
        have HRun : Hid (Run A k k) := ⟨Nat.le_refl _, by omega, rfl, HR.out hb, hb⟩
        clear hb
        have h01 : (bits BinOp.and IntKind.u64 ((A : Int) / 2 ^ k) 1 == 0) = false := h00
        clear h00 HR
        go_wp2_with fail
        go_loop [5] (fun i => ∃ e : Nat, e ≤ 63 ∧ k ≤ e ∧ i = .int .i64 e ∧ Hid (Run A k e)) (fun i => 63 - (intOf i).toNat)
        case atStart => exact ⟨k, by omega, by omega, rfl, HRun⟩
        case round =>
          obtain ⟨e, he, hke, rfl, HE⟩ := hrel
          clear HRun
          have hbe := bit_eq A (e + 1) hA
          by_cases hgo : e < 63 ∧ A.testBit (e + 1) = true
          · have HM := hideIt' (HE.out.more hgo.1 hgo.2)
            have h1 := hgo.1
            rw [hgo.2] at hbe
            clear hgo
            go_wp2_with fail
            go_round
            case rel => exact ⟨e + 1, by omega, by omega, by go_num, HM⟩
            case measure => simp [intOf]; omega
          · have hst := HE.out.stop hA hgo
            have HS := hideIt' hst.1
            have HB := hideIt' hst.2
            have key : ¬ e < 63 ∨ (e < 63 ∧ (bits BinOp.and IntKind.u64 ((A : Int) / 2 ^ (e + 1)) 1 == 1) = false) := by
              by_cases h1 : e < 63
              · exact .inr ⟨h1, by rw [hbe]; exact hst.2⟩
              · exact .inl h1
            have HJ := hideIt' (Ost.joined_snoc (Ost.spansTo A k) (k, e))
            clear hst hgo hbe HE
            have l1 := Ost.dd_two k (by omega)
            have l2 := Ost.dd_two e (by omega)
            rcases key with h1 | ⟨h1, h2⟩
            all_goals
              by_cases hem : Ost.joined (Ost.spansTo A k) = []
              · have hie : (Ost.joined (Ost.spansTo A k)).isEmpty = true := by rw [hem]; rfl
                have HJ2 : Hid (Ost.joined (Ost.spansTo A (e + 1)) = Ost.joined (Ost.spansTo A k) ++ Ost.spanTxt (k, e)) := by
                  unfold Hid; rw [HS.out, HJ.out, if_pos hem, hem]; rfl
                clear hem HJ
                by_cases hmo : k < e
                · skip
                  have HT : Hid (Ost.joined (Ost.spansTo A (e + 1)) = Ost.joined (Ost.spansTo A k) ++ Lib.decDigits k ++ [45] ++ Lib.decDigits e) := by
                    unfold Hid; rw [HJ2.out, Ost.spanTxt, if_neg (by simp; omega)]; simp
                  go_wp2_with fail
                  refine (decimal_nat k _ hlt).mono ?_
                  rintro e1 w1 ⟨rfl, hb1⟩
                  have hB1 := hnx.trans (hb1.mono hnx.size)
                  clear hb1
                  go_wp2_with fail
                  refine (decimal_nat e _ (by omega)).mono ?_
                  rintro e2 w2 ⟨rfl, hb2⟩
                  have hB2 := hB1.trans (hb2.mono hB1.size)
                  clear hb2
                  go_wp2_with fail
                  go_roundw
                  case rel =>
                    refine ⟨e + 1, by omega, by go_num, ?_, (fun hb => by rw [HB.out] at hb; cases hb), hB2⟩
                    rw [HT.out]
                    show Value.string (((ByteArray.mk (Ost.joined (Ost.spansTo A k)).toArray ++ ByteArray.mk (Lib.decDigits k).toArray) ++ ByteArray.mk [45].toArray) ++ ByteArray.mk (Lib.decDigits e).toArray) = _
                    simp only [str_app]
                  case measure => simp [intOf]; omega
                · skip
                  have HT : Hid (Ost.joined (Ost.spansTo A (e + 1)) = Ost.joined (Ost.spansTo A k) ++ Lib.decDigits k) := by
                    unfold Hid; rw [HJ2.out, Ost.spanTxt, if_pos (by simp; omega)]
                  go_wp2_with fail
                  refine (decimal_nat k _ hlt).mono ?_
                  rintro e1 w1 ⟨rfl, hb1⟩
                  have hB1 := hnx.trans (hb1.mono hnx.size)
                  clear hb1
                  go_wp2_with fail
                  go_roundw
                  case rel =>
                    refine ⟨e + 1, by omega, by go_num, ?_, (fun hb => by rw [HB.out] at hb; cases hb), hB1⟩
                    rw [HT.out]
                    show Value.string (ByteArray.mk (Ost.joined (Ost.spansTo A k)).toArray ++ ByteArray.mk (Lib.decDigits k).toArray) = _
                    simp only [str_app]
                  case measure => simp [intOf]; omega
              · have hie : (Ost.joined (Ost.spansTo A k)).isEmpty = false := by cases hj : Ost.joined (Ost.spansTo A k) with
                  | nil => exact absurd hj hem
                  | cons _ _ => rfl
                have HJ2 : Hid (Ost.joined (Ost.spansTo A (e + 1)) = Ost.joined (Ost.spansTo A k) ++ [44] ++ Ost.spanTxt (k, e)) := by
                  unfold Hid; rw [HS.out, HJ.out, if_neg hem]
                clear hem HJ
                by_cases hmo : k < e
                · skip
                  have HT : Hid (Ost.joined (Ost.spansTo A (e + 1)) = Ost.joined (Ost.spansTo A k) ++ [44] ++ Lib.decDigits k ++ [45] ++ Lib.decDigits e) := by
                    unfold Hid; rw [HJ2.out, Ost.spanTxt, if_neg (by simp; omega)]; simp
                  go_wp2_with fail
                  refine (decimal_nat k _ hlt).mono ?_
                  rintro e1 w1 ⟨rfl, hb1⟩
                  have hB1 := hnx.trans (hb1.mono hnx.size)
                  clear hb1
                  go_wp2_with fail
                  refine (decimal_nat e _ (by omega)).mono ?_
                  rintro e2 w2 ⟨rfl, hb2⟩
                  have hB2 := hB1.trans (hb2.mono hB1.size)
                  clear hb2
                  go_wp2_with fail
                  go_roundw
                  case rel =>
                    refine ⟨e + 1, by omega, by go_num, ?_, (fun hb => by rw [HB.out] at hb; cases hb), hB2⟩
                    rw [HT.out]
                    show Value.string ((((ByteArray.mk (Ost.joined (Ost.spansTo A k)).toArray ++ ByteArray.mk [44].toArray) ++ ByteArray.mk (Lib.decDigits k).toArray) ++ ByteArray.mk [45].toArray) ++ ByteArray.mk (Lib.decDigits e).toArray) = _
                    simp only [str_app]
                  case measure => simp [intOf]; omega
                · skip
                  have HT : Hid (Ost.joined (Ost.spansTo A (e + 1)) = Ost.joined (Ost.spansTo A k) ++ [44] ++ Lib.decDigits k) := by
                    unfold Hid; rw [HJ2.out, Ost.spanTxt, if_pos (by simp; omega)]
                  go_wp2_with fail
                  refine (decimal_nat k _ hlt).mono ?_
                  rintro e1 w1 ⟨rfl, hb1⟩
                  have hB1 := hnx.trans (hb1.mono hnx.size)
                  clear hb1
                  go_wp2_with fail
                  go_roundw
                  case rel =>
                    refine ⟨e + 1, by omega, by go_num, ?_, (fun hb => by rw [HB.out] at hb; cases hb), hB1⟩
                    rw [HT.out]
                    show Value.string ((ByteArray.mk (Ost.joined (Ost.spansTo A k)).toArray ++ ByteArray.mk [44].toArray) ++ ByteArray.mk (Lib.decDigits k).toArray) = _
                    simp only [str_app]
                  case measure => simp [intOf]; omega
      · rw [hb] at h00
        have h01 : (bits BinOp.and IntKind.u64 ((A : Int) / 2 ^ k) 1 == 0) = true := h00
        have HS : Hid (Ost.spansTo A (k + 1) = Ost.spansTo A k) := by unfold Hid; rw [Ost.spansTo, hb]; rfl
        have HR2 : Hid (Ost.runStart A (k + 1) = k + 1) := by unfold Hid; rw [Ost.runStart, if_neg (by rw [hb]; simp)]
        clear hb h00 HR
        go_wp2_with fail
        go_roundw
        case rel => exact ⟨k + 1, by omega, by go_num, by rw [HS.out], fun _ => HR2.out, hnx⟩
        case measure => simp [intOf]; omega
    · have hk64 : k = 64 := by omega
      subst hk64
      clear hk hlt
      go_wp2_with fail
      go_ret
      exact ⟨rfl, hnx⟩
end Go.Proofs.YtfnkmlpgfohjnaaDoor
