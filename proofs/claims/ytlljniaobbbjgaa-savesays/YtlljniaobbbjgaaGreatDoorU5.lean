/- SetText, QW3, QW4, QW5, VR2, VD3, VX1, VC1, QW6 -/
import Derived.Test.YtlljniaobbbjgaaGreatDoorU4
import Derived.Deep.RegionHeld3
import Derived.Test.YtlljniaobbbjgaaGreatDoorU3
import Derived.Test.YtlljniaobbbjgaaGreatDoorU2
namespace Go.Proofs.YtlljniaobbbjgaaGreatDoor.S1
open Go.RowKit
theorem bit_eq0 (A n : Nat) (hA : A < 18446744073709551616) : (bits BinOp.and IntKind.u64 ((A : Int) / 2 ^ n) 1 == 0) = !A.testBit n := by
  have e : ((A : Int) / 2 ^ n) = ((A / 2 ^ n : Nat) : Int) := by simp
  have hlt : A / 2 ^ n < 18446744073709551616 := Nat.lt_of_le_of_lt (Nat.div_le_self _ _) hA
  rw [e, show (1 : Int) = ((1 : Nat) : Int) from rfl, bits_and_u64_nat _ _ hlt (by omega), Nat.testBit_eq_decide_div_mod_eq, Nat.and_one_is_mod]
  rw [Bool.eq_iff_iff]; simp; omega
theorem dec_nat (k : Nat) : dec (k : Int) = Lib.decDigits k := by unfold dec; rw [Int.toNat_natCast]
theorem decimal_nat (k : Nat) (w : World) (h : k < 64) :
    Calls Tryz.prog 34 #[.int .i64 k] w fun e w' => e = .returned (.string ⟨(Lib.decDigits k).toArray⟩) ∧ Below w.heap.size w w' := by
  have := decimal (k : Int) w (by omega) (by omega)
  rw [dec_nat] at this; exact this
theorem joined_bd (A k : Nat) (hk : k ≤ 64) : (Ost.joined (Ost.spansTo A k)).length ≤ 200 := by
  have h1 := Ost.joined_len (Ost.spansTo A k) (fun p hp => by have := Ost.spansTo_mem A k p hp; omega)
  have h2 := (Ost.spansTo_half A k).1
  omega
theorem mk_empty (l : List UInt8) : (ByteArray.mk l.toArray).toList.isEmpty = l.isEmpty := by rw [ByteArray.toList_eq]
/-- A run that goes on. -/
def Run (A k e : Nat) : Prop := k ≤ e ∧ e ≤ 63 ∧ Ost.spansTo A e = Ost.spansTo A k ∧ Ost.runStart A e = k ∧ A.testBit e = true
theorem Run.more {A k e : Nat} (h : Run A k e) (he : e < 63) (hb : A.testBit (e + 1) = true) : Run A k (e + 1) := by
  obtain ⟨h1, h2, h3, h4, h5⟩ := h
  refine ⟨by omega, by omega, ?_, ?_, hb⟩
  · rw [Ost.spansTo, hb]; simp [h3]
  · rw [Ost.runStart, if_pos h5, h4]
theorem Run.stop {A k e : Nat} (h : Run A k e) (hA : A < 18446744073709551616) (hs : ¬ (e < 63 ∧ A.testBit (e + 1) = true)) : Ost.spansTo A (e + 1) = Ost.spansTo A k ++ [(k, e)] ∧ A.testBit (e + 1) = false := by
  obtain ⟨h1, h2, h3, h4, h5⟩ := h
  have hb : A.testBit (e + 1) = false := by
    by_cases h6 : e < 63
    · cases h7 : A.testBit (e + 1) with
      | false => rfl
      | true => exact absurd ⟨h6, h7⟩ hs
    · exact Ost.bit_high A hA (e + 1) (by omega)
  refine ⟨?_, hb⟩
  rw [Ost.spansTo, h5, hb, h3, h4]; rfl
set_option maxRecDepth 100000 in
set_option maxHeartbeats 4000000 in
theorem setText_any (A : Nat) (w : World) (hA : A < 18446744073709551616) :
    Calls Tryz.prog 64 #[.int .u64 A] w fun e w' => e = .returned (.string ⟨(Ost.txt A).toArray⟩) ∧ Below w.heap.size w w' := by
  go_enter Tryz.func64, Tryz.ntmps64
  go_wp2_with fail
  go_loopw [3, 4] (fun t n wr => ∃ k : Nat, k ≤ 64 ∧ n = .int .i64 k ∧ t = .string ⟨(Ost.joined (Ost.spansTo A k)).toArray⟩ ∧ Hid (A.testBit k = true → Ost.runStart A k = k) ∧ Below w.heap.size w wr) (fun _ n _ => 64 - (intOf n).toNat)
  case atStart => exact ⟨0, by omega, rfl, rfl, fun _ => rfl, Below.refl _ _⟩
  case round =>
    obtain ⟨k, hk, rfl, rfl, HR, hnx⟩ := hrel
    by_cases hlt : k < 64
    · have hlen := joined_bd A k hk
      have h00 := bit_eq0 A k hA
      rcases two' (A.testBit k) with hb | hb
      · rw [hb] at h00
        have HRun : Hid (Run A k k) := ⟨Nat.le_refl _, by omega, rfl, HR.out hb, hb⟩
        clear hb
        have h01 : (bits BinOp.and IntKind.u64 ((A : Int) / 2 ^ k) 1 == 0) = false := h00
        clear h00 HR
        go_wp2_with fail
        go_loop [5] (fun i => ∃ e : Nat, e ≤ 63 ∧ k ≤ e ∧ i = .int .i64 e ∧ Hid (Run A k e)) (fun i => 63 - (intOf i).toNat)
        case atStart => exact ⟨k, by omega, by omega, rfl, HRun⟩
        case round =>
          obtain ⟨e, he, hke, rfl, HE⟩ := hrel
          clear HRun
          have hbe := bit_eq A (e + 1) hA
          by_cases hgo : e < 63 ∧ A.testBit (e + 1) = true
          · have HM := hideIt' (HE.out.more hgo.1 hgo.2)
            have h1 := hgo.1
            rw [hgo.2] at hbe
            clear hgo
            go_wp2_with fail
            go_round
            case rel => exact ⟨e + 1, by omega, by omega, by go_num, HM⟩
            case measure => simp [intOf]; omega
          · have hst := HE.out.stop hA hgo
            have HS := hideIt' hst.1
            have HB := hideIt' hst.2
            have key : ¬ e < 63 ∨ (e < 63 ∧ (bits BinOp.and IntKind.u64 ((A : Int) / 2 ^ (e + 1)) 1 == 1) = false) := by
              by_cases h1 : e < 63
              · exact .inr ⟨h1, by rw [hbe]; exact hst.2⟩
              · exact .inl h1
            have HJ := hideIt' (Ost.joined_snoc (Ost.spansTo A k) (k, e))
            clear hst hgo hbe HE
            have l1 := Ost.dd_two k (by omega)
            have l2 := Ost.dd_two e (by omega)
            rcases key with h1 | ⟨h1, h2⟩
            all_goals
              by_cases hem : Ost.joined (Ost.spansTo A k) = []
              · have hie : (Ost.joined (Ost.spansTo A k)).isEmpty = true := by rw [hem]; rfl
                have HJ2 : Hid (Ost.joined (Ost.spansTo A (e + 1)) = Ost.joined (Ost.spansTo A k) ++ Ost.spanTxt (k, e)) := by
                  unfold Hid; rw [HS.out, HJ.out, if_pos hem, hem]; rfl
                clear hem HJ
                by_cases hmo : k < e
                · skip
                  have HT : Hid (Ost.joined (Ost.spansTo A (e + 1)) = Ost.joined (Ost.spansTo A k) ++ Lib.decDigits k ++ [45] ++ Lib.decDigits e) := by
                    unfold Hid; rw [HJ2.out, Ost.spanTxt, if_neg (by simp; omega)]; simp
                  go_wp2_with fail
                  refine (decimal_nat k _ hlt).mono ?_
                  rintro e1 w1 ⟨rfl, hb1⟩
                  have hB1 := hnx.trans (hb1.mono hnx.size)
                  clear hb1
                  go_wp2_with fail
                  refine (decimal_nat e _ (by omega)).mono ?_
                  rintro e2 w2 ⟨rfl, hb2⟩
                  have hB2 := hB1.trans (hb2.mono hB1.size)
                  clear hb2
                  go_wp2_with fail
                  go_roundw
                  case rel =>
                    refine ⟨e + 1, by omega, by go_num, ?_, (fun hb => by rw [HB.out] at hb; cases hb), hB2⟩
                    rw [HT.out]
                    show Value.string (((ByteArray.mk (Ost.joined (Ost.spansTo A k)).toArray ++ ByteArray.mk (Lib.decDigits k).toArray) ++ ByteArray.mk [45].toArray) ++ ByteArray.mk (Lib.decDigits e).toArray) = _
                    simp only [str_app]
                  case measure => simp [intOf]; omega
                · skip
                  have HT : Hid (Ost.joined (Ost.spansTo A (e + 1)) = Ost.joined (Ost.spansTo A k) ++ Lib.decDigits k) := by
                    unfold Hid; rw [HJ2.out, Ost.spanTxt, if_pos (by simp; omega)]
                  go_wp2_with fail
                  refine (decimal_nat k _ hlt).mono ?_
                  rintro e1 w1 ⟨rfl, hb1⟩
                  have hB1 := hnx.trans (hb1.mono hnx.size)
                  clear hb1
                  go_wp2_with fail
                  go_roundw
                  case rel =>
                    refine ⟨e + 1, by omega, by go_num, ?_, (fun hb => by rw [HB.out] at hb; cases hb), hB1⟩
                    rw [HT.out]
                    show Value.string (ByteArray.mk (Ost.joined (Ost.spansTo A k)).toArray ++ ByteArray.mk (Lib.decDigits k).toArray) = _
                    simp only [str_app]
                  case measure => simp [intOf]; omega
              · have hie : (Ost.joined (Ost.spansTo A k)).isEmpty = false := by cases hj : Ost.joined (Ost.spansTo A k) with
                  | nil => exact absurd hj hem
                  | cons _ _ => rfl
                have HJ2 : Hid (Ost.joined (Ost.spansTo A (e + 1)) = Ost.joined (Ost.spansTo A k) ++ [44] ++ Ost.spanTxt (k, e)) := by
                  unfold Hid; rw [HS.out, HJ.out, if_neg hem]
                clear hem HJ
                by_cases hmo : k < e
                · skip
                  have HT : Hid (Ost.joined (Ost.spansTo A (e + 1)) = Ost.joined (Ost.spansTo A k) ++ [44] ++ Lib.decDigits k ++ [45] ++ Lib.decDigits e) := by
                    unfold Hid; rw [HJ2.out, Ost.spanTxt, if_neg (by simp; omega)]; simp
                  go_wp2_with fail
                  refine (decimal_nat k _ hlt).mono ?_
                  rintro e1 w1 ⟨rfl, hb1⟩
                  have hB1 := hnx.trans (hb1.mono hnx.size)
                  clear hb1
                  go_wp2_with fail
                  refine (decimal_nat e _ (by omega)).mono ?_
                  rintro e2 w2 ⟨rfl, hb2⟩
                  have hB2 := hB1.trans (hb2.mono hB1.size)
                  clear hb2
                  go_wp2_with fail
                  go_roundw
                  case rel =>
                    refine ⟨e + 1, by omega, by go_num, ?_, (fun hb => by rw [HB.out] at hb; cases hb), hB2⟩
                    rw [HT.out]
                    show Value.string ((((ByteArray.mk (Ost.joined (Ost.spansTo A k)).toArray ++ ByteArray.mk [44].toArray) ++ ByteArray.mk (Lib.decDigits k).toArray) ++ ByteArray.mk [45].toArray) ++ ByteArray.mk (Lib.decDigits e).toArray) = _
                    simp only [str_app]
                  case measure => simp [intOf]; omega
                · skip
                  have HT : Hid (Ost.joined (Ost.spansTo A (e + 1)) = Ost.joined (Ost.spansTo A k) ++ [44] ++ Lib.decDigits k) := by
                    unfold Hid; rw [HJ2.out, Ost.spanTxt, if_pos (by simp; omega)]
                  go_wp2_with fail
                  refine (decimal_nat k _ hlt).mono ?_
                  rintro e1 w1 ⟨rfl, hb1⟩
                  have hB1 := hnx.trans (hb1.mono hnx.size)
                  clear hb1
                  go_wp2_with fail
                  go_roundw
                  case rel =>
                    refine ⟨e + 1, by omega, by go_num, ?_, (fun hb => by rw [HB.out] at hb; cases hb), hB1⟩
                    rw [HT.out]
                    show Value.string ((ByteArray.mk (Ost.joined (Ost.spansTo A k)).toArray ++ ByteArray.mk [44].toArray) ++ ByteArray.mk (Lib.decDigits k).toArray) = _
                    simp only [str_app]
                  case measure => simp [intOf]; omega
      · rw [hb] at h00
        have h01 : (bits BinOp.and IntKind.u64 ((A : Int) / 2 ^ k) 1 == 0) = true := h00
        have HS : Hid (Ost.spansTo A (k + 1) = Ost.spansTo A k) := by unfold Hid; rw [Ost.spansTo, hb]; rfl
        have HR2 : Hid (Ost.runStart A (k + 1) = k + 1) := by unfold Hid; rw [Ost.runStart, if_neg (by rw [hb]; simp)]
        clear hb h00 HR
        go_wp2_with fail
        go_roundw
        case rel => exact ⟨k + 1, by omega, by go_num, by rw [HS.out], fun _ => HR2.out, hnx⟩
        case measure => simp [intOf]; omega
    · have hk64 : k = 64 := by omega
      subst hk64
      clear hk hlt
      go_wp2_with fail
      go_ret
      exact ⟨rfl, hnx⟩
end Go.Proofs.YtlljniaobbbjgaaGreatDoor.S1
namespace Go.Proofs.YtlljniaobbbjgaaGreatDoor
open Go.RowKit
open Qos (Nd Ct Pd nd0 ct0 pd0 nd ct pd needF contF podF amtOk over twice leS)
open Dvs (nameMay first)
theorem podF_1 {p : Pd} (h : nameMay p.nm = false) : podF p = 3 := by unfold podF; rw [if_pos h]
theorem podF_2 {p : Pd} (h : nameMay p.nm = true) (h2 : p.pr < 0 ∨ 1000 < p.pr) : podF p = 1 := by unfold podF; rw [if_neg (by rw [h]; decide), if_pos h2]
theorem podF_3 {p : Pd} (h : nameMay p.nm = true) (h2 : ¬ (p.pr < 0 ∨ 1000 < p.pr)) (h3 : p.cs.length < 1 ∨ 3 < p.cs.length) : podF p = 2 := by unfold podF; rw [if_neg (by rw [h]; decide), if_neg h2, if_pos h3]
theorem podF_4 {p : Pd} (h : nameMay p.nm = true) (h2 : ¬ (p.pr < 0 ∨ 1000 < p.pr)) (h3 : ¬ (p.cs.length < 1 ∨ 3 < p.cs.length)) : podF p = first (contF p.cs) p.cs.length := by unfold podF; rw [if_neg (by rw [h]; decide), if_neg h2, if_neg h3]
theorem errQ_pos {f : Nat} (h : f ≠ 0) : errV (f : Int) = .iface 80 (.int .i64 f) := by unfold errV; rw [if_neg (by omega)]
theorem below_drew' {B : Nat} {a w : World} (h : Below B a w) : Below B a w.drew := ⟨h.os, h.tape, h.output, h.size, h.block⟩
set_option maxRecDepth 100000 in
set_option maxHeartbeats 2000000 in
theorem check_any (p : Pd) (cv : Value) (w : World) (h : ConsAt w cv p.cs) : Calls Tryz.prog 62 #[podV p cv] w fun e w' => e = .returned (errV (podF p : Nat)) ∧ Below w.heap.size w w' := by
  obtain ⟨ao, c, rfl, hm, hr⟩ := h
  have HR := hideIt hr
  have HM := hideIt hm
  clear hr hm
  have H1 := hideIt (@podF_1 p)
  have H2 := hideIt (@podF_2 p)
  have H3 := hideIt (@podF_3 p)
  have H4 := hideIt (@podF_4 p)
  unfold podV
  have HB0 := hideIt ((Below.refl w.heap.size w).alloc (Nat.le_refl _) (.cells #[.string p.nm, .int .i64 p.pr, .slice ao p.cs.length c] 59))
  rcases two (nameMay p.nm) with hn | hn
  · have H2 := hideIt (H2.out hn)
    have H3 := hideIt (H3.out hn)
    have H4 := hideIt (H4.out hn)
    by_cases hp : p.pr < 0 ∨ 1000 < p.pr
    · have he := H2.out hp
      go_enter Tryz.func62, Tryz.ntmps62
      go_wp2_with fail
      refine (name_any _ _).mono ?_
      rintro e w1 ⟨rfl, rfl⟩
      rw [hn]
      go_wp2_with fail
      refine (within_any _ _ _ _).mono ?_
      rintro e w1 ⟨rfl, rfl⟩
      rw [show (decide (0 ≤ p.pr) && decide (p.pr ≤ 1000)) = false by simp; omega]
      go_wp2_with fail
      go_ret
      exact ⟨by rw [he]; rfl, HB0.out⟩
    have H3 := hideIt (H3.out hp)
    have H4 := hideIt (H4.out hp)
    have hp' : (decide (0 ≤ p.pr) && decide (p.pr ≤ 1000)) = true := by simp; omega
    clear hp
    by_cases hl : p.cs.length < 1 ∨ 3 < p.cs.length
    · have he := H3.out hl
      have hl' : (decide ((1 : Int) ≤ p.cs.length) && decide ((p.cs.length : Int) ≤ 3)) = false := by simp; omega
      clear hl H1 H2 H3 H4
      go_enter Tryz.func62, Tryz.ntmps62
      go_wp2_with fail
      refine (name_any _ _).mono ?_
      rintro e w1 ⟨rfl, rfl⟩
      rw [hn]
      go_wp2_with fail
      refine (within_any _ _ _ _).mono ?_
      rintro e w1 ⟨rfl, rfl⟩
      rw [hp']
      go_wp2_with fail
      refine (within_any _ _ _ _).mono ?_
      rintro e w1 ⟨rfl, rfl⟩
      rw [hl']
      go_wp2_with fail
      go_ret
      exact ⟨by rw [he]; rfl, HB0.out⟩
    have HE := hideIt (H4.out hl)
    have hl' : (decide ((1 : Int) ≤ p.cs.length) && decide ((p.cs.length : Int) ≤ 3)) = true := by simp; omega
    have hlen : p.cs.length ≤ 3 := by omega
    rw [HE.out]
    clear hl H1 H2 H3 H4 HE
    clear H2 H3 H4
    generalize p.cs = cs at *
    go_enter Tryz.func62, Tryz.ntmps62
    go_wp2_with fail
    refine (name_any _ _).mono ?_
    rintro e w1 ⟨rfl, rfl⟩
    rw [hn]
    go_wp2_with fail
    refine (within_any _ _ _ _).mono ?_
    rintro e w1 ⟨rfl, rfl⟩
    rw [hp']
    go_wp2_with fail
    refine (within_any _ _ _ _).mono ?_
    rintro e w1 ⟨rfl, rfl⟩
    rw [hl']
    go_wp2_with fail
    go_loopw [25] (fun i wr => ∃ k : Nat, k ≤ cs.length ∧ i = .int .i64 k ∧ Below w.heap.size w wr ∧ Hid (w.heap.size < wr.heap.size) ∧ wr.cell? ⟨w.heap.size, 2, none⟩ = some (.slice ao cs.length c) ∧ Hid (first (contF cs) k = 0)) (fun i _ => cs.length - (intOf i).toNat)
    case atStart => exact ⟨0, by omega, rfl, HB0.out, by simp [Hid], by simp, rfl⟩
    case round =>
      obtain ⟨k, hk, rfl, hB, HLT, hcv, HF⟩ := hrel
      by_cases hlt : k < cs.length
      · obtain ⟨b, o, dv, rfl, hin⟩ := HR.out (by omega)
        have hin := hin.below hB
        obtain ⟨c0, c1, c2, c3, c4, c5⟩ := hin.at hlt
        have hkc : k ≤ c := Nat.le_trans hk HM.out.1
        have HO := hideIt (Dvs.first_hit (f := contF cs) (n := cs.length) HF.out · hlt)
        have HZ := hideIt (Dvs.first_zero (f := contF cs) (k := k) HF.out)
        have HI := hideIt hin
        have hB1 := hideIt (hB.alloc hB.size (.cells #[.string (ct cs k).nm, .int .i64 (ct cs k).am, .int .i64 (ct cs k).ab, .int .i64 (ct cs k).cm, .int .i64 (ct cs k).cb, dv k] 56))
        have HBX := hideIt ((BoxAt.made wr (ct cs k) (dv k)).below (below_drew' (Below.refl _ _)))
        have HCK := hideIt (fun W (hb : Below wr.heap.size wr W) => checkCont_any b o c k cs dv W (hin.below hb) hlt (Nat.le_trans HM.out.1 HM.out.2))
        have HL2 := hideIt ((Below.refl wr.heap.size wr).alloc (Nat.le_refl _) (.cells #[.string (ct cs k).nm, .int .i64 (ct cs k).am, .int .i64 (ct cs k).ab, .int .i64 (ct cs k).cm, .int .i64 (ct cs k).cb, dv k] 56))
        have HCV := hideIt hcv
        have hsl : ∃ a n e, dv k = .slice a n e := by
          obtain ⟨a, e, he, _⟩ := (hin.2 k hlt).2
          exact ⟨a, _, e, he⟩
        clear hin HF hB
        generalize ct cs k = x at *
        generalize dv k = d at *
        obtain ⟨da, dn, dc, rfl⟩ := hsl
        generalize contF cs k = F at *
        go_wp2_with fail
        obtain ⟨l0, b0, b1, b2, b3, b4, b5⟩ := HBX.out
        have HC2 := (below_drew' HL2.out).cell (p := ⟨w.heap.size, 2, none⟩) HLT.out |>.trans HCV.out
        clear HBX
        refine wp_region_held_drew (S := (fun w' => (w'.cell? ⟨wr.heap.size, 0, none⟩ = some (.string x.nm) ∧ w'.cell? ⟨wr.heap.size, 1, none⟩ = some (.int .i64 x.am) ∧ w'.cell? ⟨wr.heap.size, 2, none⟩ = some (.int .i64 x.ab) ∧ w'.cell? ⟨wr.heap.size, 3, none⟩ = some (.int .i64 x.cm) ∧ w'.cell? ⟨wr.heap.size, 4, none⟩ = some (.int .i64 x.cb) ∧ w'.cell? ⟨wr.heap.size, 5, none⟩ = some (.slice da dn dc)) ∧ w'.cell? ⟨w.heap.size, 2, none⟩ = some (.slice (some ⟨b, o, none⟩) cs.length c))) (by kernel_rfl) ⟨⟨b0, b1, b2, b3, b4, b5⟩, HC2⟩ (fun hHeld => ?_)
        refine wpAnyH_take (i := 0) (oi := { dst := some 30, op := Op.load 56 (Operand.tmp 4), type := 56, pos := "qos.go:31", after := #[], guard := none }) (v := ?v1x0) rfl (by kernel_rfl) (by kernel_rfl) (by kernel_rfl) (fun _ _ _ h => h) (Or.inl ⟨by rfl, ?h1x0⟩) (by assumption) ?r1x0
        case h1x0 =>
          intro w' hSw
          (try dsimp only at hSw)
          go_simp
          first | done | with_reducible rfl | rfl
        (try simp only [Act.put, List.setIfInBounds_toArray, List.set_cons_zero, List.set_cons_succ])
        refine wpAnyH_take (i := 1) (oi := { dst := some 31, op := Op.fieldAddr 59 (Operand.tmp 1) 2, type := 0, pos := "qos.go:31", after := #[], guard := none }) (v := ?v2x1) rfl (by kernel_rfl) (by kernel_rfl) (by kernel_rfl) (fun _ _ _ h => h) (Or.inl ⟨by rfl, ?h2x1⟩) (by assumption) ?r2x1
        case h2x1 =>
          intro w' hSw
          (try dsimp only at hSw)
          go_simp
          first | done | with_reducible rfl | rfl
        (try simp only [Act.put, List.setIfInBounds_toArray, List.set_cons_zero, List.set_cons_succ])
        refine wpAnyH_take (i := 2) (oi := { dst := some 32, op := Op.load 57 (Operand.tmp 31), type := 57, pos := "qos.go:31", after := #[{ on := 1, ground := Ground.data }], guard := none }) (v := ?v3x2) rfl (by kernel_rfl) (by kernel_rfl) (by kernel_rfl) (fun _ _ _ h => h) (Or.inl ⟨by rfl, ?h3x2⟩) (by assumption) ?r3x2
        case h3x2 =>
          intro w' hSw
          (try dsimp only at hSw)
          go_simp
          first | done | with_reducible rfl | rfl
        (try simp only [Act.put, List.setIfInBounds_toArray, List.set_cons_zero, List.set_cons_succ])
        refine wpAnyH_take (i := 3) (oi := { dst := some 33, op := Op.move (Operand.tmp 3), type := 3, pos := "qos.go:31", after := #[], guard := none }) (v := ?v4x3) rfl (by kernel_rfl) (by kernel_rfl) (by kernel_rfl) (fun _ _ _ h => h) (Or.inl ⟨by rfl, ?h4x3⟩) (by assumption) ?r4x3
        case h4x3 =>
          intro w' hSw
          (try dsimp only at hSw)
          go_simp
          first | done | with_reducible rfl | rfl
        (try simp only [Act.put, List.setIfInBounds_toArray, List.set_cons_zero, List.set_cons_succ])
        refine wpAnyH_take (i := 4) (oi := { dst := some 34, op := Op.slice 57 (Operand.tmp 32) none (some (Operand.tmp 33)) none, type := 57, pos := "qos.go:31", after := #[{ on := 2, ground := Ground.data }, { on := 3, ground := Ground.data }], guard := none }) (v := ?v5x4) rfl (by kernel_rfl) (by kernel_rfl) (by kernel_rfl) (fun _ _ _ h => h) (Or.inl ⟨by rfl, ?h5x4⟩) (by assumption) ?r5x4
        case h5x4 =>
          intro w' hSw
          (try dsimp only at hSw)
          go_simp
          first | done | with_reducible rfl | rfl
        (try simp only [Act.put, List.setIfInBounds_toArray, List.set_cons_zero, List.set_cons_succ])
        refine wpAnyH_ready (rs := [5]) (by kernel_rfl) (by simp) (AllReadyH.cons rfl (fun K hK => ?_) AllReadyH.nil)
        go_simp
        go_wp2_with fail
        refine (HCK.out _ (below_drew' HL2.out)).mono ?_
        rintro e w5 ⟨rfl, hb5⟩
        have HB5 := hideIt hb5
        have HS5 := hideIt (And.intro (And.intro ((hb5.cell (p := ⟨wr.heap.size, 0, none⟩) l0).trans b0) (And.intro ((hb5.cell (p := ⟨wr.heap.size, 1, none⟩) l0).trans b1) (And.intro ((hb5.cell (p := ⟨wr.heap.size, 2, none⟩) l0).trans b2) (And.intro ((hb5.cell (p := ⟨wr.heap.size, 3, none⟩) l0).trans b3) (And.intro ((hb5.cell (p := ⟨wr.heap.size, 4, none⟩) l0).trans b4) ((hb5.cell (p := ⟨wr.heap.size, 5, none⟩) l0).trans b5)))))) ((hb5.cell (p := ⟨w.heap.size, 2, none⟩) (Nat.lt_trans HLT.out l0)).trans HC2))
        clear hb5
        go_wp2_with fail
        refine hK.out _ _ HS5.out (fun hHeld => ?_)
        clear hK K
        refine wpAnyH_take (i := 6) (oi := { dst := some 5, op := Op.assign (Operand.tmp 35), type := 27, pos := "qos.go:31", after := #[{ on := 5, ground := Ground.data }, { on := 5, ground := Ground.chain }, { on := 0, ground := Ground.phase }, { on := 1, ground := Ground.phase }, { on := 2, ground := Ground.phase }, { on := 3, ground := Ground.phase }, { on := 4, ground := Ground.phase }, { on := 5, ground := Ground.phase }], guard := none }) (v := ?v6x6) rfl (by kernel_rfl) (by kernel_rfl) (by kernel_rfl) (fun _ _ _ h => h) (Or.inl ⟨by rfl, ?h6x6⟩) (by assumption) ?r6x6
        case h6x6 =>
          intro w' hSw
          (try dsimp only at hSw)
          go_simp
          first | done | with_reducible rfl | rfl
        (try simp only [Act.put, List.setIfInBounds_toArray, List.set_cons_zero, List.set_cons_succ])
        refine wpAnyH_done (by kernel_rfl) ?_ _
        have HB6 := hideIt ((below_drew' hB1.out).trans (HB5.out.mono (below_drew' hB1.out).size))
        have HC6 := hideIt hHeld.2
        have HL6 := hideIt (Nat.lt_of_lt_of_le (Nat.lt_trans HLT.out l0) HB5.out.size)
        clear HB5 HS5 hHeld hB1 HCK HL2 HCV HI HC2 b0 b1 b2 b3 b4 b5 l0 HLT hcv c0 c1 c2 c3 c4 c5
        by_cases hF : F = 0
        · have HZ' := hideIt (HZ.out hF)
          rw [show errV (F : Int) = .nilIface by rw [hF]; rfl]
          clear HO HZ hF
          go_wp2_with fail
          go_roundw
          case rel => exact ⟨k + 1, by omega, by go_num, HB6.out, HL6, HC6.out, HZ'⟩
          case measure => simp [intOf]; omega
        · have HO' := hideIt (HO.out hF)
          have HE := hideIt (errQ_pos hF)
          rw [HE.out]
          clear HO HZ hF
          go_wp2_with fail
          go_ret
          exact ⟨by rw [HO'.out, HE.out]; rfl, HB6.out⟩
      · have hke : k = cs.length := by omega
        subst hke
        have hB1 := hideIt hB
        clear hB
        go_wp2_with fail
        go_ret
        exact ⟨by rw [HF.out]; rfl, hB1.out⟩
  · have he := H1.out hn
    go_enter Tryz.func62, Tryz.ntmps62
    go_wp2_with fail
    refine (name_any _ _).mono ?_
    rintro e w1 ⟨rfl, rfl⟩
    rw [hn]
    go_wp2_with fail
    go_ret
    exact ⟨by rw [he]; rfl, HB0.out⟩
end Go.Proofs.YtlljniaobbbjgaaGreatDoor
namespace Go.Proofs.YtlljniaobbbjgaaGreatDoor
open Go.RowKit
open Qos (Nd Ct Pd nd0 ct0 pd0 nd ct pd silent certain classOf quiet sure sumM sumB Mild)
end Go.Proofs.YtlljniaobbbjgaaGreatDoor
namespace Go.Proofs.YtlljniaobbbjgaaGreatDoor
open Go.RowKit
open Qos (Nd Ct Pd nd0 ct0 pd0 nd ct pd silent certain classOf quiet sure sumM sumB Mild)
theorem results_cellQ {fn : Func} {p : Tmp} {ty : TypeId} (h : fn.results = #[.cell p ty]) (tmps : Array Value) (P : Program) (w : World) :
    (results fn tmps).run P w = ((asAddr (tmps.getD p undef)).run P w).andThen fun a w₁ => (loadVar ty a).run P w₁ := by
  simp only [results, h]
  simp [Sem.run_bind, Result.andThen]
/-- Two numbers side by side, all its own. -/
def TwoAt (w : World) (B : Nat) (m b : Int) : Prop := (w.cell? ⟨B, 0, none⟩ = some (.int .i64 m) ∧ w.frozen? ⟨B, 0, none⟩ = false) ∧ (w.cell? ⟨B, 1, none⟩ = some (.int .i64 b) ∧ w.frozen? ⟨B, 1, none⟩ = false)
theorem TwoAt.lt {w : World} {B : Nat} {m b : Int} (h : TwoAt w B m b) : B < w.heap.size := World.block_lt_of_cell? w _ h.1.1
theorem TwoAt.kept {w w' : World} {B : Nat} {m b : Int} {g : Option Nat} (h : TwoAt w B m b) (hg : w.grownBy w' g) (hne : some B ≠ g) : TwoAt w' B m b :=
  ⟨⟨(hg.cell_far _ h.lt hne).trans h.1.1, (hg.frozen_far _ h.lt hne).trans h.1.2⟩, ⟨(hg.cell_far _ h.lt hne).trans h.2.1, (hg.frozen_far _ h.lt hne).trans h.2.2⟩⟩
theorem TwoAt.below {w w' : World} {B : Nat} {m b : Int} (h : TwoAt w B m b) (hb : Below w.heap.size w w') : TwoAt w' B m b := h.kept (grown_below hb none) (by simp)
theorem TwoAt.alloc {w : World} {B : Nat} {m b : Int} (h : TwoAt w B m b) (o : Obj) : TwoAt (w.alloc o) B m b := h.below ((Below.refl _ w).alloc (Nat.le_refl _) o)
theorem TwoAt.made (w : World) (t : TypeId) (m b : Int) : TwoAt (w.alloc (.cells #[.int .i64 m, .int .i64 b] t)) w.heap.size m b := ⟨⟨by simp, by simp⟩, ⟨by simp, by simp⟩⟩
theorem TwoAt.set0 {w : World} {B : Nat} {m b : Int} (h : TwoAt w B m b) (n : Int) : TwoAt (w.setCell ⟨B, 0, none⟩ (.int .i64 n)) B n b := by
  obtain ⟨⟨c0, z0⟩, ⟨c1, z1⟩⟩ := h
  refine ⟨⟨?_, (World.frozen?_setCell ..).trans z0⟩, ⟨?_, (World.frozen?_setCell ..).trans z1⟩⟩
  · clear c1; go_simp
  · have hne : (⟨B, 0, none⟩ : Addr) ≠ ⟨B, 1, none⟩ := by intro h; cases h
    rw [World.cell?_setCell_other (h := hne)]; exact c1
theorem TwoAt.set1 {w : World} {B : Nat} {m b : Int} (h : TwoAt w B m b) (n : Int) : TwoAt (w.setCell ⟨B, 1, none⟩ (.int .i64 n)) B m n := by
  obtain ⟨⟨c0, z0⟩, ⟨c1, z1⟩⟩ := h
  refine ⟨⟨?_, (World.frozen?_setCell ..).trans z0⟩, ⟨?_, (World.frozen?_setCell ..).trans z1⟩⟩
  · have hne : (⟨B, 1, none⟩ : Addr) ≠ ⟨B, 0, none⟩ := by intro h; cases h
    rw [World.cell?_setCell_other (h := hne)]; exact c0
  · clear c0; go_simp
theorem below_set2 {K : Nat} {a w : World} (h : Below K a w) (B j : Nat) (v : Value) (hB : K ≤ B) (hw : K ≤ w.heap.size) : Below K a (w.setCell ⟨B, j, none⟩ v) :=
  h.trans (below_grown (grown_setCell w ⟨B, j, none⟩ v) (K := K) hw (fun i hi => by cases hi; exact hB))
end Go.Proofs.YtlljniaobbbjgaaGreatDoor
namespace Go.Proofs.YtlljniaobbbjgaaGreatDoor
open Go.RowKit Go.Shelf
open Ost (splitC)
attribute [local go_sem] Oper.semAt_some
theorem results_cc {fn : Func} {p q : Tmp} {ty ty' : TypeId} (h : fn.results = #[.cell p ty, .cell q ty']) (tmps : Array Value) (P : Program) (w : World) :
    (results fn tmps).run P w =
      ((asAddr (tmps.getD p undef)).run P w).andThen fun a w₁ => ((loadVar ty a).run P w₁).andThen fun v w₂ => ((asAddr (tmps.getD q undef)).run P w₂).andThen fun b w₃ => ((loadVar ty' b).run P w₃).andThen fun u w₄ => .ok (.tuple #[v, u]) w₄ := by
  simp only [results, h]
  simp [Sem.run_bind, Result.andThen]
theorem Apart.boxed {K : Nat → Prop} {A B : World} (h : Apart K A B) {b : Nat} {t : TypeId} {v : Value} (hb : Boxed A b t v) (hn : ¬ K b) : Boxed B b t v := (h.block b hb.lt hn).trans hb
theorem Apart.below {K : Nat → Prop} {A B : World} (h : Apart K A B) {w : World} {N : Nat} (hb : Below N w A) (hN : N ≤ w.heap.size) (hK : ∀ j, K j → N ≤ j) : Below N w B :=
  ⟨h.os.trans hb.os, h.tape.trans hb.tape, h.output.trans hb.output, Nat.le_trans hb.size h.size, fun j hj => (h.block j (Nat.lt_of_lt_of_le (Nat.lt_of_lt_of_le hj hN) hb.size) (fun e => by have := hK j e; omega)).trans (hb.block j hj)⟩
theorem Apart.row {K : Nat → Prop} {A B : World} (h : Apart K A B) {base : Nat} {e : TypeId} {size : Nat} {v : Value} {n : Nat} {xs : List Value} (hr : A.ownsRow base e size v n xs) (hK : ∀ j, K j → j < base) : B.ownsRow base e size v n xs := by
  obtain ⟨h1, h2⟩ := hr
  refine ⟨h1, h2.imp id ?_⟩
  rintro ⟨g, cap, cur, hv, hg, hh, r⟩
  exact ⟨g, cap, cur, hv, hg, (h.block g (Array.getElem?_eq_some_iff.1 hh).1 (fun e => by have := hK g e; omega)).trans hh, r⟩
def intsV (l : List Int) : List Value := l.map fun (n : Int) => Value.int .i64 n
theorem ints_of_row {w : World} {base : Nat} {v : Value} {xs : List Int} (h : w.ownsRow base 3 1 v xs.length (intsV xs)) : IntsOf w v xs := by
  obtain ⟨hl, h⟩ := h
  rcases h with ⟨rfl, h0⟩ | ⟨g, cap, cur, rfl, hb, hh, hn, hc, hs, ht⟩
  · exact ⟨none, 0, by rw [h0], ⟨by omega, by unfold maxLen; omega⟩, fun h => by omega⟩
  · refine ⟨_, cap, rfl, ⟨hn, hc⟩, fun _ => ⟨g, 0, rfl, (Array.getElem?_eq_some_iff.1 hh).1, fun k hk => ?_⟩⟩
    have hx : (intsV xs)[k]? = some (.int .i64 (xs.getD k 0)) := by simp [intsV, hk]
    rw [← ht, List.getElem?_take, if_pos (by omega)] at hx
    rw [Nat.zero_add]
    simp only [World.cell?, hh]
    simpa using hx
/-- What is read of the first pieces. -/
def numsTo (ps : List (List UInt8)) (k : Nat) : List Int := (ps.take k).map nOf
theorem numsTo_next {ps : List (List UInt8)} {k : Nat} (h : k < ps.length) : numsTo ps (k + 1) = numsTo ps k ++ [nOf ps[k]] := by
  unfold numsTo
  rw [List.take_succ_eq_append_getElem h, List.map_append]; rfl
theorem numsTo_len {ps : List (List UInt8)} {k : Nat} (h : k ≤ ps.length) : (numsTo ps k).length = k := by unfold numsTo; simp; omega
theorem allOf_good {ps : List (List UInt8)} (h : ∀ x ∈ ps, gOf x = true) : Sv.allOf Sv.numS ps = some (ps.map nOf) := by
  induction ps with
  | nil => rfl
  | cons x r ih => rw [Sv.allOf, numS_n, if_pos (h x (by simp)), ih fun y hy => h y (by simp [hy])]; rfl
theorem allOf_bad {ps : List (List UInt8)} {x : List UInt8} (hx : x ∈ ps) (h : gOf x = false) : Sv.allOf Sv.numS ps = none := by
  induction ps with
  | nil => simp at hx
  | cons y r ih =>
    rw [Sv.allOf, numS_n]
    rcases List.mem_cons.1 hx with rfl | hx
    · rw [h]; rfl
    · cases gOf y with
      | true => rw [if_pos rfl, ih hx]; rfl
      | false => rfl
/-- What reading a list of numbers leaves. -/
def ReadsInts (w : World) (l : List UInt8) (e : Ending) (w' : World) : Prop :=
  ∃ v, e = .returned (.tuple #[v, .bool (Sv.listOf Sv.numS l).isSome]) ∧ (∀ xs, Sv.listOf Sv.numS l = some xs → IntsOf w' v xs) ∧ (∃ a n c, v = .slice a n c ∧ ∀ x, a = some x → w.heap.size ≤ x.block) ∧ Below w.heap.size w w'
theorem IntsOf.put {w : World} {v : Value} {xs : List Int} (h : IntsOf w v xs) {D : Nat} {o : Obj} (o' : Obj) (hD : w.heap[D]? = some o) (ho : o.isCells = false) : IntsOf (w.putObj D o') v xs := by
  obtain ⟨ao, c, hv, hc, hr⟩ := h
  refine ⟨ao, c, hv, hc, fun h0 => ?_⟩
  obtain ⟨g, o2, ha, hlt, hcs⟩ := hr h0
  exact ⟨g, o2, ha, Nat.lt_of_lt_of_le hlt (grownBy_putObj' w D o').size, fun k hk => cell_kept (hcs k hk) (grownBy_putObj' w D o') (fun r e => by cases e; exact ⟨_, hD, ho⟩)⟩
theorem spTs_len (c : UInt8) (s : List UInt8) : (spTs c s).length = (splitC c s).length := by simp [spTs]
theorem spTs_at (c : UInt8) (s : List UInt8) (k : Nat) (hk : k < (splitC c s).length) : (spTs c s)[k]'(by rw [spTs_len]; exact hk) = #[Value.string ⟨((splitC c s)[k]).toArray⟩] := by simp [spTs]
theorem infoIntV : (Tryz.prog.info? 3).map (fun i => (i.zero, i.size, i.bytes)) = some (some (.int .i64 0), 1, 8) := by kernel_rfl
theorem own_slice {w : World} {base : Nat} {e : TypeId} {size : Nat} {v : Value} {n : Nat} {xs : List Value} (h : w.ownsRow base e size v n xs) : ∃ ao c, v = .slice ao n c := by
  rcases h.2 with ⟨rfl, h0⟩ | ⟨g, cap, cur, rfl, _⟩
  · exact ⟨none, 0, by rw [h0]⟩
  · exact ⟨_, _, rfl⟩
theorem row_base {w : World} {base : Nat} {e : TypeId} {size : Nat} {ao : Option Addr} {n m c : Nat} {xs : List Value} (h : w.ownsRow base e size (.slice ao m c) n xs) (x : Addr) (hx : ao = some x) : base ≤ x.block := by
  rcases h.2 with ⟨h1, _⟩ | ⟨g, cap, cur, h1, hb, _⟩
  · subst hx; cases h1
  · subst hx
    injection h1 with h2 _ _
    injection h2 with h3
    rw [h3]; exact hb
theorem IntsOf.apart {K : Nat → Prop} {N : Nat} {A B : World} {v : Value} {xs : List Int} (h : IntsOf A v xs) (hv : ∃ a n c, v = .slice a n c ∧ ∀ x, a = some x → N ≤ x.block) (hab : Apart K A B) (hK : ∀ j, K j → j < N) : IntsOf B v xs := by
  obtain ⟨ao, c, rfl, hc, hr⟩ := h
  obtain ⟨_, _, _, e, hx⟩ := hv
  cases e
  refine ⟨ao, c, rfl, hc, fun h0 => ?_⟩
  obtain ⟨b, o, ha, hlt, hcs⟩ := hr h0
  have hb := hx _ ha
  have hblk := hab.block b hlt (fun e => by have := hK b e; simp at hb; omega)
  exact ⟨b, o, ha, Nat.lt_of_lt_of_le hlt hab.size, fun k hk => (World.cell?_of_block (a := ⟨b, o + k, none⟩) hblk).trans (hcs k hk)⟩
/-- What an append onto a row of the call's own leaves as it was. -/
theorem row_apart {w W : World} {base : Nat} {e : TypeId} {size : Nat} {v : Value} {n : Nat} {xs : List Value} {o : Obj} (h : w.ownsRow base e size v n xs) (hg : (w.alloc o).grownBy W v.ownBlock) : Apart (fun j => base ≤ j) w W := by
  refine (Apart.alloc _ w o).trans ⟨hg.os, hg.tape, hg.output, hg.size, fun j hj hn => hg.block j hj fun e => hn (h.lt j e.symm).1⟩
/-- Where the reading of numbers stands. -/
structure RInv (w A : World) (ps : List (List UInt8)) (k : Nat) (W : World) : Prop where
  le : k ≤ ps.length
  b0 : Boxed W w.heap.size 106 (.func (.func 92) #[] #[])
  b1 : Boxed W (w.heap.size + 1) 62 (.slice none 0 0)
  b2 : Boxed W (w.heap.size + 1 + 1) 4 (.bool false)
  row : ∃ v, Boxed W (w.heap.size + 1 + 1 + 1) 62 v ∧ W.ownsRow (A.heap.size + 2) 3 1 v (numsTo ps k).length (intsV (numsTo ps k))
  below : Below w.heap.size w W
  good : ∀ x ∈ ps.take k, gOf x = true
theorem RInv.apart {w A : World} {ps : List (List UInt8)} {k : Nat} {B C : World} (h : RInv w A ps k B) (hA : A.heap.size = w.heap.size + 1 + 1 + 1 + 1 + 3) (hab : Apart (fun j => KSp (w.heap.size + 1 + 1 + 1 + 1) j ∨ j = A.heap.size + 1) B C) : RInv w A ps k C := by
  obtain ⟨h1, h2, h3, h4, ⟨v, h5, h6⟩, h7, h8⟩ := h
  exact ⟨h1, hab.boxed h2 (by unfold KSp; omega), hab.boxed h3 (by unfold KSp; omega), hab.boxed h4 (by unfold KSp; omega), ⟨v, hab.boxed h5 (by unfold KSp; omega), hab.row h6 (fun j hj => by unfold KSp at hj; omega)⟩, hab.below h7 (Nat.le_refl _) (fun j hj => by unfold KSp at hj; omega), h8⟩
set_option maxRecDepth 100000 in
set_option maxHeartbeats 4000000 in
theorem readInts_any (s : ByteArray) (w : World) (hs : s.size ≤ 100000) :
    Calls Tryz.prog 97 #[.string s, .func (.func 92) #[] #[]] w (ReadsInts w s.data.toList) := by
  have hq := dash_eq s
  obtain ⟨i0, hi, hz0, hz1, hz2⟩ := info_parts infoIntV
  have hb3 := ((((Below.refl w.heap.size w).alloc (Nat.le_refl _) (.cells #[.func (.func 92) #[] #[]] 106)).alloc (by simp) (.cells #[.slice none 0 0] 62)).alloc (by simp; omega) (.cells #[.bool false] 4))
  by_cases h : s.data.toList = [45]
  · rw [decide_eq_true h] at hq
    have HL : Hid (Sv.listOf Sv.numS s.data.toList = some []) := by unfold Hid Sv.listOf; rw [if_pos h]
    clear hb3
    have hb := ((((Below.refl w.heap.size w).alloc (Nat.le_refl _) (.cells #[.func (.func 92) #[] #[]] 106)).alloc (by simp) (.cells #[.slice none 0 0] 62)).alloc (by simp; omega) (.cells #[.bool true] 4))
    have HB := hideIt hb
    clear hb
    go_enter Tryz.func97, Tryz.ntmps97
    go_wp2_with fail
    (try simp only [Exit.inBlock, Exit.then])
    refine bodyPost_ret (v := .tuple #[.slice none 0 0, .bool true]) ?_ rfl ⟨.slice none 0 0, by rw [HL.out]; rfl, fun xs hx => ?_, ⟨_, _, _, rfl, fun x hx => by cases hx⟩, HB.out⟩
    · rw [results_cc rfl]
      go_simp
    · rw [HL.out] at hx
      cases hx
      exact ⟨none, 0, rfl, ⟨by simp, by unfold maxLen; omega⟩, fun h => by simp at h⟩
  · rw [decide_eq_false h] at hq
    have HB3 := hideIt hb3
    clear hb3
    have x3 := ((Boxed.new w 106 (.func (.func 92) #[] #[])).alloc (.cells #[.slice none 0 0] 62)).alloc (.cells #[.bool false] 4) |>.alloc (.cells #[.slice none 0 0] 62)
    have x4 := ((Boxed.new (w.alloc (.cells #[.func (.func 92) #[] #[]] 106)) 62 (.slice none 0 0)).alloc (.cells #[.bool false] 4)).alloc (.cells #[.slice none 0 0] 62)
    have x5 := (Boxed.new ((w.alloc (.cells #[.func (.func 92) #[] #[]] 106)).alloc (.cells #[.slice none 0 0] 62)) 4 (.bool false)).alloc (.cells #[.slice none 0 0] 62)
    have x6 := Boxed.new (((w.alloc (.cells #[.func (.func 92) #[] #[]] 106)).alloc (.cells #[.slice none 0 0] 62)).alloc (.cells #[.bool false] 4)) 62 (.slice none 0 0)
    simp only [World.size_alloc] at x4 x5 x6
    have HB4 := hideIt (HB3.out.alloc (by simp; omega) (.cells #[.slice none 0 0] 62))
    have hsz : ((((w.alloc (.cells #[.func (.func 92) #[] #[]] 106)).alloc (.cells #[.slice none 0 0] 62)).alloc (.cells #[.bool false] 4)).alloc (.cells #[.slice none 0 0] 62)).heap.size = w.heap.size + 1 + 1 + 1 + 1 := by simp
    have X3 := hideIt x3
    have X4 := hideIt x4
    have X5 := hideIt x5
    have X6 := hideIt x6
    clear x3 x4 x5 x6 HB3
    refine (callsIn_wide (n := 3)).1 ?_
    refine callsIn_of_wp_marks Tryz.func97 rfl trivial ?_ rfl
    simp only [Tryz.ntmps97, List.size_toArray, List.length_cons, List.length_nil, Nat.reduceAdd, Nat.reduceSub, Array.replicate_succ, Array.replicate_zero, List.push_toArray, List.append_toArray, List.nil_append, List.cons_append]
    gi_wp2_with fail
    generalize (((w.alloc (.cells #[.func (.func 92) #[] #[]] 106)).alloc (.cells #[.slice none 0 0] 62)).alloc (.cells #[.bool false] 4)).alloc (.cells #[.slice none 0 0] 62) = V at *
    refine ⟨trivial, (callsIn_wide.2 (splitSeq_new s 44 V)).mono ?_⟩
    rintro e A ⟨rfl, hspb, hbA, hszA⟩
    have HBA := hideIt (HB4.out.trans (hbA.mono HB4.out.size))
    have XA3 := hideIt (show Boxed A _ _ _ from (hbA.block _ X3.out.lt).trans X3.out)
    have XA4 := hideIt (show Boxed A _ _ _ from (hbA.block _ X4.out.lt).trans X4.out)
    have XA5 := hideIt (show Boxed A _ _ _ from (hbA.block _ X5.out.lt).trans X5.out)
    have XA6 := hideIt (show Boxed A _ _ _ from (hbA.block _ X6.out.lt).trans X6.out)
    have hseq := splitSeq_iter 2 (by omega) V.heap.size 44 s.data.toList A hspb (by simp; omega)
    rw [hsz] at hszA hseq ⊢
    clear hbA X3 X4 X5 X6 HB4 hspb hsz
    gi_wp2_with fail
    have HL : Hid (Sv.listOf Sv.numS s.data.toList = Sv.allOf Sv.numS (splitC 44 s.data.toList)) := by unfold Hid Sv.listOf; rw [if_neg h]
    have HSP := hideIt (S1.splitC_mem 44 s.data.toList)
    have HSL := hideIt (S1.splitC_len 44 s.data.toList)
    have hdl : s.data.toList.length = s.size := by simp
    generalize hgl : s.data.toList = sl at *
    generalize hps : splitC 44 sl = ps at *
    have HTS : Hid (∀ k, (hk : k < ps.length) → ∃ hk' : k < (spTs 44 sl).length, (spTs 44 sl)[k] = #[Value.string ⟨(ps.getD k []).toArray⟩]) := fun k hk => by
      subst hps
      exact ⟨by rw [spTs_len]; exact hk, by rw [spTs_at _ _ _ hk]; simp [hk]⟩
    have HTL : Hid ((spTs 44 sl).length = ps.length) := by unfold Hid; rw [spTs_len, hps]
    have HTZ : Hid (∀ x ∈ spTs 44 sl, x.size = 1) := by
      intro x hx
      obtain ⟨y, _, rfl⟩ := List.mem_map.1 hx
      rfl
    have hb9 := HBA.out.size
    clear hps h hq
    refine wpIn_rangeW rfl (by omega) (gf := 145) rfl trivial (enters_of Tryz.func145 (by kernel_rfl) rfl) (K := KSp (w.heap.size + 1 + 1 + 1 + 1)) (ts := spTs 44 sl) (fun j hj => by unfold KSp at hj; omega) hseq HTZ.out
      (fun k W => RInv w A ps k W) (fun c W => c = .ret ∧ Boxed W (w.heap.size + 1) 62 (.slice none 0 0) ∧ Boxed W (w.heap.size + 1 + 1) 4 (.bool false) ∧ Below w.heap.size w W ∧ Sv.listOf Sv.numS sl = none)
      (fun k B C hi hab => hi.apart hszA hab) (fun c B C hx hab => ⟨hx.1, hab.boxed hx.2.1 (by unfold KSp; omega), hab.boxed hx.2.2.1 (by unfold KSp; omega), hab.below hx.2.2.2.1 (Nat.le_refl _) (fun j hj => by unfold KSp at hj; omega), hx.2.2.2.2⟩)
      ⟨Nat.zero_le _, XA3.out, XA4.out, XA5.out, ⟨_, XA6.out, World.ownsRow_nil _ _ _ _⟩, HBA.out, by simp⟩
      (fun k => { tmps := #[Value.string s, Value.func (Fn.func 92) #[] #[], undef, Value.pointer (some ⟨w.heap.size, 0, none⟩), Value.pointer (some ⟨w.heap.size + 1, 0, none⟩), Value.pointer (some ⟨w.heap.size + 1 + 1, 0, none⟩), Value.pointer (some ⟨w.heap.size + 1 + 1 + 1, 0, none⟩), Value.string ⟨(ps.getD k []).toArray⟩, undef, undef, Value.string s, Value.bool false, Value.string s, Value.func (Fn.func 145) #[] #[Value.pointer (some ⟨w.heap.size + 1 + 1 + 1 + 1 + 1, 0, none⟩), Value.pointer (some ⟨w.heap.size + 1 + 1 + 1 + 1, 0, none⟩), Value.pointer (some ⟨w.heap.size + 1 + 1 + 1 + 1 + 2, 0, none⟩)], Value.string ⟨(ps.getD k []).toArray⟩, undef, undef, undef, undef, undef, undef, undef, undef, undef, undef, undef, undef, undef], defers := [] }) ?assign ?body ?done ?stop
    case assign =>
      intro l k hk W R hR
      rw [HTL.out] at hk
      obtain ⟨hk', e⟩ := HTS.out k hk
      rw [e]
      clear e
      generalize ps.getD k [] = x at *
      gi_wp2_with fail
      exact hR
    case body =>
      intro l k W hk hWs hI
      rw [HTL.out] at hk
      obtain ⟨h1, hb0, hb1, hb2, ⟨v, hb3, hrow⟩, hbel, hgood⟩ := hI
      have hxm : ps.getD k [] ∈ ps := by simp [hk]
      have hxl := HSP.out _ hxm
      have HTK : Hid (ps.take (k + 1) = ps.take k ++ [ps.getD k []]) := by unfold Hid; rw [List.take_succ_eq_append_getElem hk]; simp [hk]
      have HNX : Hid (numsTo ps (k + 1) = numsTo ps k ++ [nOf (ps.getD k [])]) := by unfold Hid; rw [numsTo_next hk]; simp [hk]
      have HNL := hideIt (numsTo_len h1)
      have hsl := HSL.out
      have HBAD : Hid (gOf (ps.getD k []) = false → Sv.listOf Sv.numS sl = none) := fun hg => by rw [HL.out]; exact allOf_bad hxm hg
      generalize ps.getD k [] = x at *
      have HN := hideIt (readNumber_any ⟨x.toArray⟩ W (by unfold maxLen; show x.length ≤ _; omega))
      rw [show (ByteArray.mk x.toArray).data.toList = x by simp] at HN
      have c0 := hb0.cell
      have HB1 := hideIt hb1
      have HB2 := hideIt hb2
      have HB3 := hideIt hb3
      have HB0 := hideIt hb0
      have HROW := hideIt hrow
      have HBEL := hideIt hbel
      have HGOOD := hideIt hgood
      generalize nOf x = nx at *
      clear hgood hbel hseq HTS HTZ HSP hxm
      rcases two (gOf x) with hg | hg
      · rw [hg] at HN
        have c3 := hb3.cell
        have hlen : (numsTo ps k).length + 1 ≤ 200000 := by rw [HNL.out]; omega
        obtain ⟨va, vc, hv⟩ : ∃ ao c, v = .slice ao (numsTo ps k).length c := by
          rcases hrow.2 with ⟨rfl, h0⟩ | ⟨g, cap, cur, rfl, _⟩
          · exact ⟨none, 0, by rw [h0]⟩
          · exact ⟨_, _, rfl⟩
        generalize numsTo ps k = ns at *
        subst hv
        gi_wp2_with fail
        refine ⟨trivial, (CallsIn.inRound l (callsIn_wide.2 HN.out)).mono ?_⟩
        rintro e w1 ⟨rfl, rfl⟩
        gi_wp2_with (gi_at_builtin; refine wpListIn_append_own_at _ rfl _ _ 62 rfl (A.heap.size + 2) 3 i0 (.int .i64 0) 1 8 Tryz.underlying62 hi hz0 hz1 hz2 rfl (by decide) _ _ _ rfl (hrow.alloc _) ⟨_, 0, none⟩ 1 1 [.int .i64 nx] rfl rfl (cell_one_new _ _ _) (by intro u hu; simp at hu; subst hu; rfl) (by unfold maxLen; omega) (by omega) (by simp; omega) ?_; intro v' W2 hown' hgrow' _ _; obtain ⟨na, nc, rfl⟩ := own_slice hown'; have hg2 : (w1.alloc (.cells #[.int .i64 nx] 3)).grownBy W2 (Value.slice va ns.length vc).ownBlock := hgrow'; clear hgrow'; have hap := row_apart hrow hg2; have hbx2 := hap.boxed hb3 (by omega); have c3' := hbx2.cell; have f3' := hbx2.frozen)
        have hab : Apart (fun j => A.heap.size + 2 ≤ j ∨ j = w.heap.size + 1 + 1 + 1) w1 (W2.setCell ⟨w.heap.size + 1 + 1 + 1, 0, none⟩ (.slice na (ns.length + 1) nc)) := (hap.wide fun _ => .inl).trans (Apart.setCell (.inr rfl) _ _ _)
        refine ⟨fun j hj => hab.block j (by unfold KSp at hj; omega) (by unfold KSp at hj; omega), by omega, hab.boxed HB0.out (by omega), hab.boxed HB1.out (by omega), hab.boxed HB2.out (by omega), ⟨_, hbx2.set _, ?_⟩, hab.below HBEL.out (Nat.le_refl _) (fun j hj => by omega), ?_⟩
        · rw [HNX.out, show intsV (ns ++ [nx]) = intsV ns ++ [.int .i64 nx] by simp [intsV], List.length_append]
          exact (Apart.setCell (K := fun j => j = w.heap.size + 1 + 1 + 1) rfl W2 0 _).row hown' (fun j hj => by omega)
        · rw [HTK.out]
          intro y hy
          rcases List.mem_append.1 hy with hy | hy
          · exact HGOOD.out y hy
          · rw [List.mem_singleton] at hy; rw [hy]; exact hg
      · rw [hg] at HN
        have HNO := hideIt (HBAD.out hg)
        have f1 := hb1.frozen
        have f2 := hb2.frozen
        have c1 := hb1.cell
        have c2 := hb2.cell
        gi_wp2_with fail
        refine ⟨trivial, (CallsIn.inRound l (callsIn_wide.2 HN.out)).mono ?_⟩
        rintro e w1 ⟨rfl, rfl⟩
        gi_wp2_with fail
        have hab : Apart (fun j => j = w.heap.size + 1 ∨ j = w.heap.size + 1 + 1) w1 ((w1.setCell ⟨w.heap.size + 1, 0, none⟩ (.slice none 0 0)).setCell ⟨w.heap.size + 1 + 1, 0, none⟩ (.bool false)) := (Apart.setCell (.inl rfl) _ _ _).trans (Apart.setCell (.inr rfl) _ _ _)
        exact ⟨fun j hj => hab.block j (by unfold KSp at hj; omega) (by unfold KSp at hj; omega), rfl, (Apart.setCell (K := fun j => j = w.heap.size + 1 + 1) rfl _ 0 _).boxed (HB1.out.set _) (by omega), ((Apart.setCell (K := fun j => j = w.heap.size + 1) rfl _ 0 _).boxed HB2.out (by omega)).set _, hab.below HBEL.out (Nat.le_refl _) (fun j hj => by omega), HNO.out⟩
    case done =>
      intro W hI hD
      rw [HTL.out] at hI
      obtain ⟨_, hb0, hb1, hb2, ⟨v, hb3, hrow⟩, hbel, hgood⟩ := hI
      have HS : Hid (Sv.listOf Sv.numS sl = some (numsTo ps ps.length)) := by
        unfold Hid
        rw [List.take_length] at hgood
        rw [HL.out, allOf_good hgood, numsTo, List.take_length]
      have HROW := hideIt hrow
      have c3 := hb3.cell
      have c1 := hb1.cell
      have c2 := hb2.cell
      have f1 := hb1.frozen
      have f2 := hb2.frozen
      have HBEL := hideIt hbel
      have HB1 := hideIt hb1
      have HB2 := hideIt hb2
      obtain ⟨va, vc, rfl⟩ := own_slice hrow
      clear hgood hbel hrow hseq HTS HTZ HSP
      generalize numsTo ps ps.length = ns at *
      gi_wp2_with fail
      have hab : Apart (fun j => j = w.heap.size + 1 ∨ j = w.heap.size + 1 + 1) W ((W.setCell ⟨w.heap.size + 1, 0, none⟩ (.slice va ns.length vc)).setCell ⟨w.heap.size + 1 + 1, 0, none⟩ (.bool true)) := (Apart.setCell (.inl rfl) _ _ _).trans (Apart.setCell (.inr rfl) _ _ _)
      have b1 := (Apart.setCell (K := fun j => j = w.heap.size + 1 + 1) rfl _ 0 (.bool true)).boxed (HB1.out.set (.slice va ns.length vc)) (by omega)
      have b2 := ((Apart.setCell (K := fun j => j = w.heap.size + 1) rfl W 0 (.slice va ns.length vc)).boxed HB2.out (by omega)).set (.bool true)
      have hD5 := (hab.block A.heap.size (Array.getElem?_eq_some_iff.1 hD).1 (by omega)).trans hD
      generalize (W.setCell ⟨w.heap.size + 1, 0, none⟩ (.slice va ns.length vc)).setCell ⟨w.heap.size + 1 + 1, 0, none⟩ (.bool true) = W5 at *
      have hput : Apart (fun j => j = A.heap.size) W5 (W5.putObj A.heap.size (.deferred none)) := Apart.putObj (K := fun j => j = A.heap.size) rfl _ _
      have e1 := (hput.boxed b1 (by omega)).cell
      have e2 := (hput.boxed b2 (by omega)).cell
      have HR5 := hideIt (hput.row (hab.row HROW.out (fun j hj => by omega)) (fun j hj => by omega))
      have HB5 := hideIt (hput.below (hab.below HBEL.out (Nat.le_refl _) (fun j hj => by omega)) (Nat.le_refl _) (fun j hj => by omega))
      refine ⟨by simp, .inl ⟨_, _, rfl, run_takeDeferred hD5, ?_⟩⟩
      refine ⟨.tuple #[.slice va ns.length vc, .bool true], ?_, .slice va ns.length vc, by rw [HS.out]; rfl, fun xs hx => ?_, ⟨_, _, _, rfl, fun x hx => Nat.le_trans (by omega) (row_base HR5.out x hx)⟩, HB5.out⟩
      · generalize W5.putObj A.heap.size (Obj.deferred none) = W6 at *
        rw [results_cc rfl]
        go_simp
      · rw [HS.out] at hx
        cases hx
        exact ints_of_row HR5.out
    case stop =>
      rintro c W ⟨rfl, h4, h5, hb, hn⟩ hD
      have c1 := h4.cell
      have c2 := h5.cell
      have HN := hideIt hn
      have HB := hideIt hb
      clear hn hb hseq HTS HTZ HSP
      gi_wp2_with fail
      have hput : Apart (fun j => j = A.heap.size) W (W.putObj A.heap.size (.deferred none)) := Apart.putObj (K := fun j => j = A.heap.size) rfl _ _
      have e1 := (hput.boxed h4 (by omega)).cell
      have e2 := (hput.boxed h5 (by omega)).cell
      have HB5 := hideIt (hput.below HB.out (Nat.le_refl _) (fun j hj => by omega))
      refine ⟨by simp, .inl ⟨_, _, rfl, run_takeDeferred hD, ?_⟩⟩
      refine ⟨.tuple #[.slice none 0 0, .bool false], ?_, .slice none 0 0, by rw [HN.out]; rfl, fun xs hx => ?_, ⟨_, _, _, rfl, fun x hx => by cases hx⟩, HB5.out⟩
      · generalize W.putObj A.heap.size (Obj.deferred none) = W6 at *
        rw [results_cc rfl]
        go_simp
      · rw [HN.out] at hx; cases hx
end Go.Proofs.YtlljniaobbbjgaaGreatDoor
namespace Go.Proofs.YtlljniaobbbjgaaGreatDoor
open Go.RowKit
theorem step_two (l : Int) (d : Bool) : (stepE l d = 11 ∧ stepF l d = true) ∨ (stepE l d = 0 ∧ stepF l d = false) := by
  unfold stepE stepF
  by_cases h : d = true ∨ l = 0
  · exact .inl ⟨if_pos h, decide_eq_true h⟩
  · exact .inr ⟨if_neg h, decide_eq_false h⟩
theorem errV_11 : errV ((11 : Nat) : Int) = .iface 80 (.int .i64 11) := rfl
theorem errV_0 : errV ((0 : Nat) : Int) = .nilIface := rfl
set_option maxRecDepth 100000 in
set_option maxHeartbeats 1000000 in
theorem syncW_any (B : Nat) (n k : Sd) (v : Value) (l : Int) (d : Bool) (w : World) (h : DiskW w B n k v l d) (hl : -9223372036854775808 ≤ l ∧ l ≤ 9223372036854775807) : Calls Tryz.prog 41 #[.pointer (some ⟨B, 0, none⟩)] w fun e w' => e = .returned (errV ((stepE l d : Nat) : Int)) ∧ DiskW w' B n (if stepE l d = 0 then n else k) (if stepE l d = 0 then .slice none 0 0 else v) (stepN l d) (stepF l d) ∧ OnlyB B w w' := by
  have HS := hideIt (stepW_any B n k v l d w h hl)
  clear h
  rcases step_two l d with ⟨e1, e2⟩ | ⟨e1, e2⟩
  · rw [e1, e2, if_neg (by decide), if_neg (by decide), errV_11]
    rw [e1, e2, errV_11] at HS
    go_enter Tryz.func41, Tryz.ntmps41
    go_wp2_with fail
    refine HS.out.mono ?_
    rintro e w1 ⟨rfl, h1, ho1⟩
    have H1 := hideIt h1
    have HO := hideIt ho1
    clear h1 ho1 HS
    go_wp2_with fail
    go_ret
    exact ⟨rfl, H1.out, HO.out⟩
  · rw [e1, e2, if_pos rfl, if_pos rfl, errV_0]
    rw [e1, e2, errV_0] at HS
    go_enter Tryz.func41, Tryz.ntmps41
    go_wp2_with fail
    refine HS.out.mono ?_
    rintro e w1 ⟨rfl, h1, ho1⟩
    have H2 := hideIt ((h1.setKept n).set8 (.slice none 0 0))
    have HO := hideIt (((ho1.putS 4 n)).set 8 (.slice none 0 0))
    obtain ⟨n0, n1, n2, n3⟩ := h1.now
    obtain ⟨k0, k1, k2, k3⟩ := h1.kept
    obtain ⟨k8, _, _⟩ := h1.rest
    have f4 := h1.frozen 4
    have f5 := h1.frozen 5
    have f6 := h1.frozen 6
    have f7 := h1.frozen 7
    have f8 := h1.frozen 8
    clear h1 ho1 HS
    go_wp2_with fail
    go_ret
    exact ⟨rfl, H2.out, HO.out⟩
end Go.Proofs.YtlljniaobbbjgaaGreatDoor
namespace Go.Proofs.YtlljniaobbbjgaaGreatDoor
open Go.RowKit
open Qos (Nd Ct Pd nd ct pd)
open Sv (Gv Hd gv hd Tx orNo needTxt needsTxt devsTxt setTxt sumTxt fnv)
attribute [local go_sem] Oper.semAt_some
theorem decX (n : Int) (w : World) (h0 : 0 ≤ n) (h1 : n ≤ 9223372036854775807) : Calls Tryz.prog 34 #[.int .i64 n] w fun e w' => e = .returned (.string ⟨(Sv.dec n).toArray⟩) ∧ Below w.heap.size w w' := S1.decimal n w h0 h1
/-- The words ahead of the k-th, one behind the other. -/
def upTo (xs : List Tx) (k : Nat) : Tx := Lib.join (xs.take k) [44]
theorem upTo_all (xs : List Tx) : upTo xs xs.length = Lib.join xs [44] := by unfold upTo; rw [List.take_length]
theorem upTo_next {xs : List Tx} {k : Nat} (h : k < xs.length) : upTo xs (k + 1) = if k = 0 then xs.getD k [] else upTo xs k ++ [44] ++ xs.getD k [] := by
  unfold upTo
  rw [List.take_succ_eq_append_getElem h, Ost.join_snoc, show xs.getD k [] = xs[k] by simp [h]]
  by_cases h0 : k = 0
  · subst h0; simp
  · rw [if_neg h0, if_neg (by intro e; have h2 := congrArg List.length e; rw [List.length_take, Nat.min_eq_left (by omega)] at h2; exact h0 h2)]
theorem upTo_le {xs : List Tx} {k m : Nat} (h : ∀ x ∈ xs, x.length ≤ m) (hk : k ≤ xs.length) : (upTo xs k).length ≤ k * (m + 1) := by
  have h1 := Sv.join_le 44 m (xs.take k) (fun x hx => h x (List.mem_of_mem_take hx))
  rw [List.length_take, Nat.min_eq_left hk] at h1
  exact h1
theorem orNo_isEmpty (l : Tx) : orNo l = if l.isEmpty then [45] else l := by
  unfold orNo
  cases l <;> simp
theorem emptyX (l : List UInt8) : (ByteArray.mk l.toArray).toList.isEmpty = l.isEmpty := by rw [ByteArray.toList_eq]
set_option maxRecDepth 100000 in
set_option maxHeartbeats 1000000 in
theorem listed_any (v : Value) (xs : List Int) (w : World) (h : IntsOf w v xs) (hl : xs.length ≤ 16) (hx : ∀ x ∈ xs, 0 ≤ x ∧ x ≤ 15) : Calls Tryz.prog 37 #[v] w fun e w' => e = .returned (.string ⟨(devsTxt xs).toArray⟩) ∧ Below w.heap.size w w' := by
  obtain ⟨ao, c, rfl, hm, hr⟩ := h
  unfold maxLen at hm
  have HR := hideIt hr
  have HX := hideIt hx
  have HW : Hid (∀ k, k ≤ xs.length → (upTo (xs.map Sv.dec) k).length ≤ 1000) := fun k hk => by
    have := upTo_le (xs := xs.map Sv.dec) (k := k) (m := 20) (fun y hy => by obtain ⟨z, hz, rfl⟩ := List.mem_map.1 hy; exact Sv.dec_le z (by have := hx z hz; omega)) (by simpa using hk)
    have : k * 21 ≤ 16 * 21 := Nat.mul_le_mul_right _ (by omega)
    omega
  have HE : Hid (devsTxt xs = orNo (upTo (xs.map Sv.dec) xs.length)) := by unfold Hid devsTxt; rw [← upTo_all]; simp
  have HN : Hid (∀ k, k < xs.length → upTo (xs.map Sv.dec) (k + 1) = if k = 0 then Sv.dec (xs.getD k 0) else upTo (xs.map Sv.dec) k ++ [44] ++ Sv.dec (xs.getD k 0)) := fun k hk => by
    rw [upTo_next (by simpa using hk)]; simp [hk]
  have H0 : Hid (upTo (xs.map Sv.dec) 0 = []) := by unfold Hid upTo; rfl
  clear hr hx
  generalize upTo (xs.map Sv.dec) = U at *
  go_enter Tryz.func37, Tryz.ntmps37
  go_wp2_with fail
  go_loopw [3, 4] (fun s i wr => ∃ k : Nat, k ≤ xs.length ∧ i = .int .i64 k ∧ s = .string ⟨(U k).toArray⟩ ∧ Below w.heap.size w wr) (fun _ i _ => xs.length - (intOf i).toNat)
  case atStart => exact ⟨0, by omega, rfl, by rw [H0.out], Below.refl _ _⟩
  case round =>
    obtain ⟨k, hk, rfl, rfl, hB⟩ := hrel
    have HB := hideIt hB
    clear hB
    by_cases hlt : k < xs.length
    · obtain ⟨b, o, rfl, hb, hc⟩ := HR.out (by omega)
      have x0 := (HB.out.cell (p := ⟨b, o + k, none⟩) hb).trans (hc k hlt)
      have hxk := HX.out (xs.getD k 0) (by simp [hlt])
      have hU := HW.out k hk
      have hdl := Sv.dec_le (xs.getD k 0) (by omega)
      have HNk := hideIt (HN.out k hlt)
      clear hc
      generalize xs.getD k 0 = x at *
      by_cases h0 : k = 0
      · subst h0
        rw [H0.out]
        rw [Nat.add_zero] at x0
        rw [if_pos rfl] at HNk
        go_wp2_with fail
        refine (decX x wr hxk.1 (by omega)).mono ?_
        rintro e w1 ⟨rfl, hb1⟩
        have HB1 := hideIt (HB.out.trans (hb1.mono HB.out.size))
        clear hb1
        go_wp2_with fail
        go_roundw
        case rel => exact ⟨0 + 1, by omega, by go_num, by rw [HNk.out]; exact congrArg Value.string (by apply ByteArray.ext; simp), HB1.out⟩
        case measure => simp [intOf]; omega
      · have h0' : decide ((0 : Int) < (k : Int)) = true := decide_eq_true (by omega)
        have h0'' : 0 < k := by omega
        rw [if_neg h0] at HNk
        clear h0
        generalize U k = Y at *
        go_wp2_with fail
        refine (decX x wr hxk.1 (by omega)).mono ?_
        rintro e w1 ⟨rfl, hb1⟩
        have HB1 := hideIt (HB.out.trans (hb1.mono HB.out.size))
        clear hb1
        go_wp2_with fail
        go_roundw
        case rel => exact ⟨k + 1, by omega, by go_num, by rw [HNk.out]; exact congrArg Value.string (by apply ByteArray.ext; simp), HB1.out⟩
        case measure => simp [intOf]; omega
    · have hke : k = xs.length := by omega
      have HE2 : Hid (devsTxt xs = orNo (U k)) := by unfold Hid; rw [hke]; exact HE.out
      clear HE HN HW H0 hke
      generalize U k = Y at *
      rcases two Y.isEmpty with hy | hy
      · have hy2 : (ByteArray.mk Y.toArray).toList.isEmpty = true := (emptyX Y).trans hy
        go_wp2_with fail
        go_ret
        exact ⟨by rw [HE2.out, orNo_isEmpty, hy]; rfl, HB.out⟩
      · have hy2 : (ByteArray.mk Y.toArray).toList.isEmpty = false := (emptyX Y).trans hy
        go_wp2_with fail
        go_ret
        exact ⟨by rw [HE2.out, orNo_isEmpty, hy]; rfl, HB.out⟩
theorem txt_neX {A : Nat} (h0 : A ≠ 0) (hA : A < 18446744073709551616) : Ost.txt A ≠ [] := fun e => by
  have hp := Ost.parse_txt A hA
  rw [e] at hp
  have h2 : Ost.parseOut [] = (0, 0) := by decide
  rw [h2] at hp
  injection hp with h3 _
  exact h0 h3.symm
set_option maxRecDepth 100000 in
theorem setWord_any (A : Nat) (w : World) (hA : A < 18446744073709551616) : Calls Tryz.prog 36 #[.int .u64 A] w fun e w' => e = .returned (.string ⟨(setTxt A).toArray⟩) ∧ Below w.heap.size w w' := by
  by_cases h0 : A = 0
  · subst h0
    go_enter Tryz.func36, Tryz.ntmps36
    go_wp2_with fail
    go_ret
    exact ⟨rfl, Below.refl _ _⟩
  · have h1 : ((A : Int) == 0) = false := by simp; omega
    have HE : Hid (setTxt A = Ost.txt A) := by
      unfold Hid setTxt orNo
      rw [if_neg (txt_neX h0 hA)]
    go_enter Tryz.func36, Tryz.ntmps36
    go_wp2_with fail
    refine (S1.setText_any A w hA).mono ?_
    rintro e w1 ⟨rfl, hb⟩
    have HB := hideIt hb
    clear hb
    go_wp2_with fail
    go_ret
    exact ⟨by rw [HE.out]; rfl, HB.out⟩
set_option maxRecDepth 100000 in
theorem summed_any (b : List UInt8) (w : World) (hb : b.length ≤ 1000000) : Calls Tryz.prog 18 #[.string ⟨b.toArray⟩] w fun e w' => e = .returned (.string ⟨(b ++ sumTxt b).toArray⟩) ∧ Below w.heap.size w w' := by
  have HS := hideIt (refSum_any ⟨b.toArray⟩ w (by unfold maxLen; simp [ByteArray.size]; omega))
  rw [show (ByteArray.mk b.toArray).data.toList = b by simp] at HS
  have hlt := Sv.fnv_lt b
  have hdl := Sv.dd_le (fnv b) (by omega)
  have HE : Hid (sumTxt b = [115, 117, 109, 32] ++ Sv.dec (fnv b : Nat) ++ [10]) := by unfold Hid sumTxt Sv.dec; rw [Int.toNat_natCast]
  have hdl2 : (Sv.dec (fnv b : Nat)).length ≤ 20 := by unfold Sv.dec; rw [Int.toNat_natCast]; exact hdl
  clear hdl
  generalize fnv b = f at *
  go_enter Tryz.func18, Tryz.ntmps18
  go_wp2_with fail
  refine HS.out.mono ?_
  rintro e w1 ⟨rfl, rfl⟩
  go_wp2_with fail
  refine (decX (f : Int) _ (by omega) (by omega)).mono ?_
  rintro e w2 ⟨rfl, hb2⟩
  have HB := hideIt hb2
  clear hb2
  generalize Sv.dec (f : Int) = D at *
  go_wp2_with fail
  go_ret
  exact ⟨by rw [HE.out]; exact congrArg (fun x => Ending.returned (Value.string x)) (by apply ByteArray.ext; simp), HB.out⟩
theorem nd_map {ds : List Nd} {k : Nat} (h : k < ds.length) : (ds.map needTxt).getD k [] = needTxt (nd ds k) := by simp [nd, h]
set_option maxRecDepth 100000 in
set_option maxHeartbeats 2000000 in
theorem needsText_any (v : Value) (ds : List Nd) (w : World) (h : NeedsAt w v ds) (hl : ds.length ≤ 3) (hx : ∀ d ∈ ds, Sv.OkN d) : Calls Tryz.prog 35 #[v] w fun e w' => e = .returned (.string ⟨(needsTxt ds).toArray⟩) ∧ Below w.heap.size w w' := by
  obtain ⟨ao, c, rfl, hm, hr⟩ := h
  unfold maxLen at hm
  have HR := hideIt hr
  have HX := hideIt hx
  have HW : Hid (∀ k, k ≤ ds.length → (upTo (ds.map needTxt) k).length ≤ 1000) := fun k hk => by
    have := upTo_le (xs := ds.map needTxt) (k := k) (m := 29) (fun y hy => by obtain ⟨z, hz, rfl⟩ := List.mem_map.1 hy; exact Sv.needTxt_le (hx z hz)) (by simpa using hk)
    have : k * 30 ≤ 3 * 30 := Nat.mul_le_mul_right _ (by omega)
    omega
  have HE : Hid (needsTxt ds = orNo (upTo (ds.map needTxt) ds.length)) := by unfold Hid needsTxt; rw [← upTo_all]; simp
  have HN : Hid (∀ k, k < ds.length → upTo (ds.map needTxt) (k + 1) = if k = 0 then needTxt (nd ds k) else upTo (ds.map needTxt) k ++ [44] ++ needTxt (nd ds k)) := fun k hk => by
    rw [upTo_next (by simpa using hk), nd_map hk]
  have H0 : Hid (upTo (ds.map needTxt) 0 = []) := by unfold Hid upTo; rfl
  clear hr hx
  generalize upTo (ds.map needTxt) = U at *
  go_enter Tryz.func35, Tryz.ntmps35
  go_wp2_with fail
  go_loopw [3, 4] (fun s i wr => ∃ k : Nat, k ≤ ds.length ∧ i = .int .i64 k ∧ s = .string ⟨(U k).toArray⟩ ∧ Below w.heap.size w wr) (fun _ i _ => ds.length - (intOf i).toNat)
  case atStart => exact ⟨0, by omega, rfl, by rw [H0.out], Below.refl _ _⟩
  case round =>
    obtain ⟨k, hk, rfl, rfl, hB⟩ := hrel
    have HB := hideIt hB
    clear hB
    by_cases hlt : k < ds.length
    · obtain ⟨b, o, rfl, hb, hc⟩ := HR.out (by omega)
      have HS0 := hideIt (show wr.drew.cell? ⟨b, o + k * 2, none⟩ = some (.string (nd ds k).kind) ∧ wr.drew.cell? ⟨b, o + k * 2 + 1, none⟩ = some (.int .i64 (nd ds k).many) from ⟨(HB.out.cell (p := ⟨b, o + k * 2, none⟩) hb).trans (hc k hlt).1, (HB.out.cell (p := ⟨b, o + k * 2 + 1, none⟩) hb).trans (hc k hlt).2⟩)
      have HL := hideIt (Nat.lt_of_lt_of_le hb HB.out.size)
      obtain ⟨hn, hm0, hm1⟩ := HX.out (nd ds k) (Sv.mem_nd hlt)
      have hks := (Sv.name_size hn).2
      have hU := HW.out k hk
      have hdl := Sv.dec_le (nd ds k).many (by omega)
      have HNk := hideIt (HN.out k hlt)
      have hm0 : 0 ≤ (nd ds k).many := by omega
      have hm1 : (nd ds k).many ≤ 9223372036854775807 := by omega
      clear hc hn
      generalize nd ds k = x at *
      obtain ⟨kd, mn⟩ := x
      dsimp only at HS0 hm0 hm1 hks hdl
      have hkz : kd.size ≤ 8 := by simpa using hks
      clear hks
      by_cases h0 : k = 0
      · have h0' : decide ((0 : Int) < (k : Int)) = false := decide_eq_false (by omega)
        have h0'' : ¬ 0 < k := by omega
        have HY : Hid (U k = []) := by unfold Hid; rw [h0]; exact H0.out
        rw [if_pos h0] at HNk
        clear h0
        generalize U k = Y at *
        unfold needTxt at HNk
        dsimp only at HNk
        go_wp2_with fail
        refine wp_region_held_drew (S := (fun w' => w'.cell? ⟨b, o + k * 2, none⟩ = some (.string kd) ∧ w'.cell? ⟨b, o + k * 2 + 1, none⟩ = some (.int .i64 mn))) (by kernel_rfl) HS0.out (fun hHeld => ?_)
        refine wpAnyH_take (i := 0) (oi := { dst := some 15, op := Op.move (Operand.tmp 3), type := 9, pos := "ostler.go:416", after := #[], guard := none }) (v := ?v1x0) rfl (by kernel_rfl) (by kernel_rfl) (by kernel_rfl) (fun _ _ _ h => h) (Or.inl ⟨by rfl, ?h1x0⟩) (by assumption) ?r1x0
        case h1x0 =>
          intro w' hSw
          (try dsimp only at hSw)
          go_simp
          first | done | with_reducible rfl | rfl | (rw [if_neg (by omega)])
        (try simp only [Act.put, List.setIfInBounds_toArray, List.set_cons_zero, List.set_cons_succ])
        refine wpAnyH_take (i := 1) (oi := { dst := some 16, op := Op.move (Operand.tmp 0), type := 54, pos := "ostler.go:416", after := #[], guard := none }) (v := ?v2x1) rfl (by kernel_rfl) (by kernel_rfl) (by kernel_rfl) (fun _ _ _ h => h) (Or.inl ⟨by rfl, ?h2x1⟩) (by assumption) ?r2x1
        case h2x1 =>
          intro w' hSw
          (try dsimp only at hSw)
          go_simp
          first | done | with_reducible rfl | rfl | (rw [if_neg (by omega)])
        (try simp only [Act.put, List.setIfInBounds_toArray, List.set_cons_zero, List.set_cons_succ])
        refine wpAnyH_take (i := 2) (oi := { dst := some 17, op := Op.move (Operand.tmp 4), type := 3, pos := "ostler.go:416", after := #[], guard := none }) (v := ?v3x2) rfl (by kernel_rfl) (by kernel_rfl) (by kernel_rfl) (fun _ _ _ h => h) (Or.inl ⟨by rfl, ?h3x2⟩) (by assumption) ?r3x2
        case h3x2 =>
          intro w' hSw
          (try dsimp only at hSw)
          go_simp
          first | done | with_reducible rfl | rfl | (rw [if_neg (by omega)])
        (try simp only [Act.put, List.setIfInBounds_toArray, List.set_cons_zero, List.set_cons_succ])
        refine wpAnyH_take (i := 3) (oi := { dst := some 18, op := Op.indexAddr 54 (Operand.tmp 16) (Operand.tmp 17), type := 0, pos := "ostler.go:416", after := #[{ on := 1, ground := Ground.data }, { on := 2, ground := Ground.data }], guard := none }) (v := ?v4x3) rfl (by kernel_rfl) (by kernel_rfl) (by kernel_rfl) (fun _ _ _ h => h) (Or.inl ⟨by rfl, ?h4x3⟩) (by assumption) ?r4x3
        case h4x3 =>
          intro w' hSw
          (try dsimp only at hSw)
          go_simp
          first | done | with_reducible rfl | rfl | (rw [if_neg (by omega)])
        (try simp only [Act.put, List.setIfInBounds_toArray, List.set_cons_zero, List.set_cons_succ])
        refine wpAnyH_take (i := 4) (oi := { dst := some 19, op := Op.fieldAddr 115 (Operand.tmp 18) 0, type := 0, pos := "ostler.go:416", after := #[{ on := 3, ground := Ground.data }], guard := none }) (v := ?v5x4) rfl (by kernel_rfl) (by kernel_rfl) (by kernel_rfl) (fun _ _ _ h => h) (Or.inl ⟨by rfl, ?h5x4⟩) (by assumption) ?r5x4
        case h5x4 =>
          intro w' hSw
          (try dsimp only at hSw)
          go_simp
          first | done | with_reducible rfl | rfl | (rw [if_neg (by omega)])
        (try simp only [Act.put, List.setIfInBounds_toArray, List.set_cons_zero, List.set_cons_succ])
        refine wpAnyH_take (i := 5) (oi := { dst := some 20, op := Op.load 9 (Operand.tmp 19), type := 9, pos := "ostler.go:416", after := #[{ on := 4, ground := Ground.data }], guard := none }) (v := ?v6x5) rfl (by kernel_rfl) (by kernel_rfl) (by kernel_rfl) (fun _ _ _ h => h) (Or.inl ⟨by rfl, ?h6x5⟩) (by assumption) ?r6x5
        case h6x5 =>
          intro w' hSw
          (try dsimp only at hSw)
          go_simp
          first | done | with_reducible rfl | rfl | (rw [if_neg (by omega)])
        (try simp only [Act.put, List.setIfInBounds_toArray, List.set_cons_zero, List.set_cons_succ])
        refine wpAnyH_take (i := 6) (oi := { dst := some 21, op := Op.binOp BinOp.add 9 (Operand.tmp 15) (Operand.tmp 20) 9, type := 9, pos := "ostler.go:416", after := #[{ on := 0, ground := Ground.data }, { on := 5, ground := Ground.data }], guard := none }) (v := ?v7x6) rfl (by kernel_rfl) (by kernel_rfl) (by kernel_rfl) (fun _ _ _ h => h) (Or.inl ⟨by rfl, ?h7x6⟩) (by assumption) ?r7x6
        case h7x6 =>
          intro w' hSw
          (try dsimp only at hSw)
          go_simp
          first | done | with_reducible rfl | rfl | (rw [if_neg (by omega)])
        (try simp only [Act.put, List.setIfInBounds_toArray, List.set_cons_zero, List.set_cons_succ])
        refine wpAnyH_take (i := 7) (oi := { dst := some 22, op := Op.binOp BinOp.add 9 (Operand.tmp 21) (Operand.const (Value.string { data := #[58] })) 9, type := 9, pos := "ostler.go:416", after := #[{ on := 6, ground := Ground.data }], guard := none }) (v := ?v8x7) rfl (by kernel_rfl) (by kernel_rfl) (by kernel_rfl) (fun _ _ _ h => h) (Or.inl ⟨by rfl, ?h8x7⟩) (by assumption) ?r8x7
        case h8x7 =>
          intro w' hSw
          (try dsimp only at hSw)
          go_simp
          first | done | with_reducible rfl | rfl | (rw [if_neg (by omega)])
        (try simp only [Act.put, List.setIfInBounds_toArray, List.set_cons_zero, List.set_cons_succ])
        refine wpAnyH_take (i := 8) (oi := { dst := some 23, op := Op.move (Operand.tmp 0), type := 54, pos := "ostler.go:416", after := #[], guard := none }) (v := ?v9x8) rfl (by kernel_rfl) (by kernel_rfl) (by kernel_rfl) (fun _ _ _ h => h) (Or.inl ⟨by rfl, ?h9x8⟩) (by assumption) ?r9x8
        case h9x8 =>
          intro w' hSw
          (try dsimp only at hSw)
          go_simp
          first | done | with_reducible rfl | rfl | (rw [if_neg (by omega)])
        (try simp only [Act.put, List.setIfInBounds_toArray, List.set_cons_zero, List.set_cons_succ])
        refine wpAnyH_take (i := 9) (oi := { dst := some 24, op := Op.move (Operand.tmp 4), type := 3, pos := "ostler.go:416", after := #[], guard := none }) (v := ?v10x9) rfl (by kernel_rfl) (by kernel_rfl) (by kernel_rfl) (fun _ _ _ h => h) (Or.inl ⟨by rfl, ?h10x9⟩) (by assumption) ?r10x9
        case h10x9 =>
          intro w' hSw
          (try dsimp only at hSw)
          go_simp
          first | done | with_reducible rfl | rfl | (rw [if_neg (by omega)])
        (try simp only [Act.put, List.setIfInBounds_toArray, List.set_cons_zero, List.set_cons_succ])
        refine wpAnyH_take (i := 10) (oi := { dst := some 25, op := Op.indexAddr 54 (Operand.tmp 23) (Operand.tmp 24), type := 0, pos := "ostler.go:416", after := #[{ on := 8, ground := Ground.data }, { on := 9, ground := Ground.data }], guard := none }) (v := ?v11x10) rfl (by kernel_rfl) (by kernel_rfl) (by kernel_rfl) (fun _ _ _ h => h) (Or.inl ⟨by rfl, ?h11x10⟩) (by assumption) ?r11x10
        case h11x10 =>
          intro w' hSw
          (try dsimp only at hSw)
          go_simp
          first | done | with_reducible rfl | rfl | (rw [if_neg (by omega)])
        (try simp only [Act.put, List.setIfInBounds_toArray, List.set_cons_zero, List.set_cons_succ])
        refine wpAnyH_take (i := 11) (oi := { dst := some 26, op := Op.fieldAddr 115 (Operand.tmp 25) 1, type := 0, pos := "ostler.go:416", after := #[{ on := 10, ground := Ground.data }], guard := none }) (v := ?v12x11) rfl (by kernel_rfl) (by kernel_rfl) (by kernel_rfl) (fun _ _ _ h => h) (Or.inl ⟨by rfl, ?h12x11⟩) (by assumption) ?r12x11
        case h12x11 =>
          intro w' hSw
          (try dsimp only at hSw)
          go_simp
          first | done | with_reducible rfl | rfl | (rw [if_neg (by omega)])
        (try simp only [Act.put, List.setIfInBounds_toArray, List.set_cons_zero, List.set_cons_succ])
        refine wpAnyH_take (i := 12) (oi := { dst := some 27, op := Op.load 3 (Operand.tmp 26), type := 3, pos := "ostler.go:416", after := #[{ on := 11, ground := Ground.data }], guard := none }) (v := ?v13x12) rfl (by kernel_rfl) (by kernel_rfl) (by kernel_rfl) (fun _ _ _ h => h) (Or.inl ⟨by rfl, ?h13x12⟩) (by assumption) ?r13x12
        case h13x12 =>
          intro w' hSw
          (try dsimp only at hSw)
          go_simp
          first | done | with_reducible rfl | rfl | (rw [if_neg (by omega)])
        (try simp only [Act.put, List.setIfInBounds_toArray, List.set_cons_zero, List.set_cons_succ])
        refine wpAnyH_ready (rs := [13]) (by kernel_rfl) (by simp) (AllReadyH.cons rfl (fun K hK => ?_) AllReadyH.nil)
        go_simp
        go_wp2_with fail
        refine (decX mn _ hm0 hm1).mono ?_
        rintro e W1 ⟨rfl, hb1⟩
        have HB1 := hideIt (HB.out.trans ((show Below wr.heap.size wr W1 from ⟨hb1.os, hb1.tape, hb1.output, hb1.size, hb1.block⟩).mono HB.out.size))
        have HS1 := hideIt (show W1.cell? ⟨b, o + k * 2, none⟩ = some (.string kd) ∧ W1.cell? ⟨b, o + k * 2 + 1, none⟩ = some (.int .i64 mn) from ⟨(hb1.cell (p := ⟨b, o + k * 2, none⟩) HL.out).trans HS0.out.1, (hb1.cell (p := ⟨b, o + k * 2 + 1, none⟩) HL.out).trans HS0.out.2⟩)
        clear hb1
        generalize Sv.dec mn = D at *
        go_wp2_with fail
        refine hK.out _ _ HS1.out (fun hHeld => ?_)
        clear hK K
        refine wpAnyH_take (i := 14) (oi := { dst := some 29, op := Op.binOp BinOp.add 9 (Operand.tmp 22) (Operand.tmp 28) 9, type := 9, pos := "ostler.go:416", after := #[{ on := 7, ground := Ground.data }, { on := 13, ground := Ground.data }], guard := none }) (v := ?v14x14) rfl (by kernel_rfl) (by kernel_rfl) (by kernel_rfl) (fun _ _ _ h => h) (Or.inl ⟨by rfl, ?h14x14⟩) (by assumption) ?r14x14
        case h14x14 =>
          intro w' hSw
          (try dsimp only at hSw)
          go_simp
          first | done | with_reducible rfl | rfl | (rw [if_neg (by omega)])
        (try simp only [Act.put, List.setIfInBounds_toArray, List.set_cons_zero, List.set_cons_succ])
        refine wpAnyH_take (i := 15) (oi := { dst := some 3, op := Op.assign (Operand.tmp 29), type := 9, pos := "ostler.go:416", after := #[{ on := 14, ground := Ground.data }, { on := 13, ground := Ground.chain }, { on := 0, ground := Ground.phase }, { on := 1, ground := Ground.phase }, { on := 2, ground := Ground.phase }, { on := 3, ground := Ground.phase }, { on := 4, ground := Ground.phase }, { on := 5, ground := Ground.phase }, { on := 6, ground := Ground.phase }, { on := 7, ground := Ground.phase }, { on := 8, ground := Ground.phase }, { on := 9, ground := Ground.phase }, { on := 10, ground := Ground.phase }, { on := 11, ground := Ground.phase }, { on := 12, ground := Ground.phase }, { on := 13, ground := Ground.phase }, { on := 14, ground := Ground.phase }], guard := none }) (v := ?v15x15) rfl (by kernel_rfl) (by kernel_rfl) (by kernel_rfl) (fun _ _ _ h => h) (Or.inl ⟨by rfl, ?h15x15⟩) (by assumption) ?r15x15
        case h15x15 =>
          intro w' hSw
          (try dsimp only at hSw)
          go_simp
          first | done | with_reducible rfl | rfl | (rw [if_neg (by omega)])
        (try simp only [Act.put, List.setIfInBounds_toArray, List.set_cons_zero, List.set_cons_succ])
        refine wpAnyH_done (by kernel_rfl) ?_ _
        clear hHeld
        go_wp2_with fail
        go_roundw
        case rel => exact ⟨k + 1, by omega, by go_num, by rw [HNk.out]; exact congrArg Value.string (by rw [HY.out]; apply ByteArray.ext; simp), HB1.out⟩
        case measure => simp [intOf]; omega
      · have h0' : decide ((0 : Int) < (k : Int)) = true := decide_eq_true (by omega)
        have h0'' : 0 < k := by omega
        rw [if_neg h0] at HNk
        clear h0
        generalize U k = Y at *
        unfold needTxt at HNk
        dsimp only at HNk
        go_wp2_with fail
        refine wp_region_held_drew (S := (fun w' => w'.cell? ⟨b, o + k * 2, none⟩ = some (.string kd) ∧ w'.cell? ⟨b, o + k * 2 + 1, none⟩ = some (.int .i64 mn))) (by kernel_rfl) HS0.out (fun hHeld => ?_)
        refine wpAnyH_take (i := 0) (oi := { dst := some 15, op := Op.move (Operand.tmp 3), type := 9, pos := "ostler.go:416", after := #[], guard := none }) (v := ?v16x0) rfl (by kernel_rfl) (by kernel_rfl) (by kernel_rfl) (fun _ _ _ h => h) (Or.inl ⟨by rfl, ?h16x0⟩) (by assumption) ?r16x0
        case h16x0 =>
          intro w' hSw
          (try dsimp only at hSw)
          go_simp
          first | done | with_reducible rfl | rfl | (rw [if_neg (by omega)])
        (try simp only [Act.put, List.setIfInBounds_toArray, List.set_cons_zero, List.set_cons_succ])
        refine wpAnyH_take (i := 1) (oi := { dst := some 16, op := Op.move (Operand.tmp 0), type := 54, pos := "ostler.go:416", after := #[], guard := none }) (v := ?v17x1) rfl (by kernel_rfl) (by kernel_rfl) (by kernel_rfl) (fun _ _ _ h => h) (Or.inl ⟨by rfl, ?h17x1⟩) (by assumption) ?r17x1
        case h17x1 =>
          intro w' hSw
          (try dsimp only at hSw)
          go_simp
          first | done | with_reducible rfl | rfl | (rw [if_neg (by omega)])
        (try simp only [Act.put, List.setIfInBounds_toArray, List.set_cons_zero, List.set_cons_succ])
        refine wpAnyH_take (i := 2) (oi := { dst := some 17, op := Op.move (Operand.tmp 4), type := 3, pos := "ostler.go:416", after := #[], guard := none }) (v := ?v18x2) rfl (by kernel_rfl) (by kernel_rfl) (by kernel_rfl) (fun _ _ _ h => h) (Or.inl ⟨by rfl, ?h18x2⟩) (by assumption) ?r18x2
        case h18x2 =>
          intro w' hSw
          (try dsimp only at hSw)
          go_simp
          first | done | with_reducible rfl | rfl | (rw [if_neg (by omega)])
        (try simp only [Act.put, List.setIfInBounds_toArray, List.set_cons_zero, List.set_cons_succ])
        refine wpAnyH_take (i := 3) (oi := { dst := some 18, op := Op.indexAddr 54 (Operand.tmp 16) (Operand.tmp 17), type := 0, pos := "ostler.go:416", after := #[{ on := 1, ground := Ground.data }, { on := 2, ground := Ground.data }], guard := none }) (v := ?v19x3) rfl (by kernel_rfl) (by kernel_rfl) (by kernel_rfl) (fun _ _ _ h => h) (Or.inl ⟨by rfl, ?h19x3⟩) (by assumption) ?r19x3
        case h19x3 =>
          intro w' hSw
          (try dsimp only at hSw)
          go_simp
          first | done | with_reducible rfl | rfl | (rw [if_neg (by omega)])
        (try simp only [Act.put, List.setIfInBounds_toArray, List.set_cons_zero, List.set_cons_succ])
        refine wpAnyH_take (i := 4) (oi := { dst := some 19, op := Op.fieldAddr 115 (Operand.tmp 18) 0, type := 0, pos := "ostler.go:416", after := #[{ on := 3, ground := Ground.data }], guard := none }) (v := ?v20x4) rfl (by kernel_rfl) (by kernel_rfl) (by kernel_rfl) (fun _ _ _ h => h) (Or.inl ⟨by rfl, ?h20x4⟩) (by assumption) ?r20x4
        case h20x4 =>
          intro w' hSw
          (try dsimp only at hSw)
          go_simp
          first | done | with_reducible rfl | rfl | (rw [if_neg (by omega)])
        (try simp only [Act.put, List.setIfInBounds_toArray, List.set_cons_zero, List.set_cons_succ])
        refine wpAnyH_take (i := 5) (oi := { dst := some 20, op := Op.load 9 (Operand.tmp 19), type := 9, pos := "ostler.go:416", after := #[{ on := 4, ground := Ground.data }], guard := none }) (v := ?v21x5) rfl (by kernel_rfl) (by kernel_rfl) (by kernel_rfl) (fun _ _ _ h => h) (Or.inl ⟨by rfl, ?h21x5⟩) (by assumption) ?r21x5
        case h21x5 =>
          intro w' hSw
          (try dsimp only at hSw)
          go_simp
          first | done | with_reducible rfl | rfl | (rw [if_neg (by omega)])
        (try simp only [Act.put, List.setIfInBounds_toArray, List.set_cons_zero, List.set_cons_succ])
        refine wpAnyH_take (i := 6) (oi := { dst := some 21, op := Op.binOp BinOp.add 9 (Operand.tmp 15) (Operand.tmp 20) 9, type := 9, pos := "ostler.go:416", after := #[{ on := 0, ground := Ground.data }, { on := 5, ground := Ground.data }], guard := none }) (v := ?v22x6) rfl (by kernel_rfl) (by kernel_rfl) (by kernel_rfl) (fun _ _ _ h => h) (Or.inl ⟨by rfl, ?h22x6⟩) (by assumption) ?r22x6
        case h22x6 =>
          intro w' hSw
          (try dsimp only at hSw)
          go_simp
          first | done | with_reducible rfl | rfl | (rw [if_neg (by omega)])
        (try simp only [Act.put, List.setIfInBounds_toArray, List.set_cons_zero, List.set_cons_succ])
        refine wpAnyH_take (i := 7) (oi := { dst := some 22, op := Op.binOp BinOp.add 9 (Operand.tmp 21) (Operand.const (Value.string { data := #[58] })) 9, type := 9, pos := "ostler.go:416", after := #[{ on := 6, ground := Ground.data }], guard := none }) (v := ?v23x7) rfl (by kernel_rfl) (by kernel_rfl) (by kernel_rfl) (fun _ _ _ h => h) (Or.inl ⟨by rfl, ?h23x7⟩) (by assumption) ?r23x7
        case h23x7 =>
          intro w' hSw
          (try dsimp only at hSw)
          go_simp
          first | done | with_reducible rfl | rfl | (rw [if_neg (by omega)])
        (try simp only [Act.put, List.setIfInBounds_toArray, List.set_cons_zero, List.set_cons_succ])
        refine wpAnyH_take (i := 8) (oi := { dst := some 23, op := Op.move (Operand.tmp 0), type := 54, pos := "ostler.go:416", after := #[], guard := none }) (v := ?v24x8) rfl (by kernel_rfl) (by kernel_rfl) (by kernel_rfl) (fun _ _ _ h => h) (Or.inl ⟨by rfl, ?h24x8⟩) (by assumption) ?r24x8
        case h24x8 =>
          intro w' hSw
          (try dsimp only at hSw)
          go_simp
          first | done | with_reducible rfl | rfl | (rw [if_neg (by omega)])
        (try simp only [Act.put, List.setIfInBounds_toArray, List.set_cons_zero, List.set_cons_succ])
        refine wpAnyH_take (i := 9) (oi := { dst := some 24, op := Op.move (Operand.tmp 4), type := 3, pos := "ostler.go:416", after := #[], guard := none }) (v := ?v25x9) rfl (by kernel_rfl) (by kernel_rfl) (by kernel_rfl) (fun _ _ _ h => h) (Or.inl ⟨by rfl, ?h25x9⟩) (by assumption) ?r25x9
        case h25x9 =>
          intro w' hSw
          (try dsimp only at hSw)
          go_simp
          first | done | with_reducible rfl | rfl | (rw [if_neg (by omega)])
        (try simp only [Act.put, List.setIfInBounds_toArray, List.set_cons_zero, List.set_cons_succ])
        refine wpAnyH_take (i := 10) (oi := { dst := some 25, op := Op.indexAddr 54 (Operand.tmp 23) (Operand.tmp 24), type := 0, pos := "ostler.go:416", after := #[{ on := 8, ground := Ground.data }, { on := 9, ground := Ground.data }], guard := none }) (v := ?v26x10) rfl (by kernel_rfl) (by kernel_rfl) (by kernel_rfl) (fun _ _ _ h => h) (Or.inl ⟨by rfl, ?h26x10⟩) (by assumption) ?r26x10
        case h26x10 =>
          intro w' hSw
          (try dsimp only at hSw)
          go_simp
          first | done | with_reducible rfl | rfl | (rw [if_neg (by omega)])
        (try simp only [Act.put, List.setIfInBounds_toArray, List.set_cons_zero, List.set_cons_succ])
        refine wpAnyH_take (i := 11) (oi := { dst := some 26, op := Op.fieldAddr 115 (Operand.tmp 25) 1, type := 0, pos := "ostler.go:416", after := #[{ on := 10, ground := Ground.data }], guard := none }) (v := ?v27x11) rfl (by kernel_rfl) (by kernel_rfl) (by kernel_rfl) (fun _ _ _ h => h) (Or.inl ⟨by rfl, ?h27x11⟩) (by assumption) ?r27x11
        case h27x11 =>
          intro w' hSw
          (try dsimp only at hSw)
          go_simp
          first | done | with_reducible rfl | rfl | (rw [if_neg (by omega)])
        (try simp only [Act.put, List.setIfInBounds_toArray, List.set_cons_zero, List.set_cons_succ])
        refine wpAnyH_take (i := 12) (oi := { dst := some 27, op := Op.load 3 (Operand.tmp 26), type := 3, pos := "ostler.go:416", after := #[{ on := 11, ground := Ground.data }], guard := none }) (v := ?v28x12) rfl (by kernel_rfl) (by kernel_rfl) (by kernel_rfl) (fun _ _ _ h => h) (Or.inl ⟨by rfl, ?h28x12⟩) (by assumption) ?r28x12
        case h28x12 =>
          intro w' hSw
          (try dsimp only at hSw)
          go_simp
          first | done | with_reducible rfl | rfl | (rw [if_neg (by omega)])
        (try simp only [Act.put, List.setIfInBounds_toArray, List.set_cons_zero, List.set_cons_succ])
        refine wpAnyH_ready (rs := [13]) (by kernel_rfl) (by simp) (AllReadyH.cons rfl (fun K hK => ?_) AllReadyH.nil)
        go_simp
        go_wp2_with fail
        refine (decX mn _ hm0 hm1).mono ?_
        rintro e W1 ⟨rfl, hb1⟩
        have HB1 := hideIt (HB.out.trans ((show Below wr.heap.size wr W1 from ⟨hb1.os, hb1.tape, hb1.output, hb1.size, hb1.block⟩).mono HB.out.size))
        have HS1 := hideIt (show W1.cell? ⟨b, o + k * 2, none⟩ = some (.string kd) ∧ W1.cell? ⟨b, o + k * 2 + 1, none⟩ = some (.int .i64 mn) from ⟨(hb1.cell (p := ⟨b, o + k * 2, none⟩) HL.out).trans HS0.out.1, (hb1.cell (p := ⟨b, o + k * 2 + 1, none⟩) HL.out).trans HS0.out.2⟩)
        clear hb1
        generalize Sv.dec mn = D at *
        go_wp2_with fail
        refine hK.out _ _ HS1.out (fun hHeld => ?_)
        clear hK K
        refine wpAnyH_take (i := 14) (oi := { dst := some 29, op := Op.binOp BinOp.add 9 (Operand.tmp 22) (Operand.tmp 28) 9, type := 9, pos := "ostler.go:416", after := #[{ on := 7, ground := Ground.data }, { on := 13, ground := Ground.data }], guard := none }) (v := ?v29x14) rfl (by kernel_rfl) (by kernel_rfl) (by kernel_rfl) (fun _ _ _ h => h) (Or.inl ⟨by rfl, ?h29x14⟩) (by assumption) ?r29x14
        case h29x14 =>
          intro w' hSw
          (try dsimp only at hSw)
          go_simp
          first | done | with_reducible rfl | rfl | (rw [if_neg (by omega)])
        (try simp only [Act.put, List.setIfInBounds_toArray, List.set_cons_zero, List.set_cons_succ])
        refine wpAnyH_take (i := 15) (oi := { dst := some 3, op := Op.assign (Operand.tmp 29), type := 9, pos := "ostler.go:416", after := #[{ on := 14, ground := Ground.data }, { on := 13, ground := Ground.chain }, { on := 0, ground := Ground.phase }, { on := 1, ground := Ground.phase }, { on := 2, ground := Ground.phase }, { on := 3, ground := Ground.phase }, { on := 4, ground := Ground.phase }, { on := 5, ground := Ground.phase }, { on := 6, ground := Ground.phase }, { on := 7, ground := Ground.phase }, { on := 8, ground := Ground.phase }, { on := 9, ground := Ground.phase }, { on := 10, ground := Ground.phase }, { on := 11, ground := Ground.phase }, { on := 12, ground := Ground.phase }, { on := 13, ground := Ground.phase }, { on := 14, ground := Ground.phase }], guard := none }) (v := ?v30x15) rfl (by kernel_rfl) (by kernel_rfl) (by kernel_rfl) (fun _ _ _ h => h) (Or.inl ⟨by rfl, ?h30x15⟩) (by assumption) ?r30x15
        case h30x15 =>
          intro w' hSw
          (try dsimp only at hSw)
          go_simp
          first | done | with_reducible rfl | rfl | (rw [if_neg (by omega)])
        (try simp only [Act.put, List.setIfInBounds_toArray, List.set_cons_zero, List.set_cons_succ])
        refine wpAnyH_done (by kernel_rfl) ?_ _
        clear hHeld
        go_wp2_with fail
        go_roundw
        case rel => exact ⟨k + 1, by omega, by go_num, by rw [HNk.out]; exact congrArg Value.string (by apply ByteArray.ext; simp), HB1.out⟩
        case measure => simp [intOf]; omega
    · have hke : k = ds.length := by omega
      have HE2 : Hid (needsTxt ds = orNo (U k)) := by unfold Hid; rw [hke]; exact HE.out
      clear HE HN HW H0 hke
      generalize U k = Y at *
      rcases two Y.isEmpty with hy | hy
      · have hy2 : (ByteArray.mk Y.toArray).toList.isEmpty = true := (emptyX Y).trans hy
        go_wp2_with fail
        go_ret
        exact ⟨by rw [HE2.out, orNo_isEmpty, hy]; rfl, HB.out⟩
      · have hy2 : (ByteArray.mk Y.toArray).toList.isEmpty = false := (emptyX Y).trans hy
        go_wp2_with fail
        go_ret
        exact ⟨by rw [HE2.out, orNo_isEmpty, hy]; rfl, HB.out⟩
end Go.Proofs.YtlljniaobbbjgaaGreatDoor
namespace Go.Proofs.YtlljniaobbbjgaaGreatDoor
open Go.RowKit
open Qos (Nd Ct Pd nd ct pd podF leS)
open Sv (Gv Hd gv hd devF devF1 gsF behindF oneF heldF lowAt)
open Dvs (nameMay first)
theorem IntsOf.slice {w : World} {v : Value} {xs : List Int} (h : IntsOf w v xs) : ∃ ao c, v = .slice ao xs.length c := by
  obtain ⟨ao, c, rfl, _⟩ := h
  exact ⟨ao, c, rfl⟩
theorem devF_many {xs : List Int} (h : 16 < xs.length) : devF xs = 2 := by unfold devF; rw [if_pos h]
theorem devF_few {xs : List Int} (h : ¬ 16 < xs.length) : devF xs = first (devF1 xs) xs.length := by unfold devF; rw [if_neg h]
/-- The number ahead, or -1. -/
def lastI (xs : List Int) (k : Nat) : Int := if k = 0 then -1 else xs.getD (k - 1) 0
theorem lastI_next (xs : List Int) (k : Nat) : lastI xs (k + 1) = xs.getD k 0 := rfl
theorem devF1_at {xs : List Int} {k : Nat} (h : first (devF1 xs) k = 0) (hk : k < xs.length) : devF1 xs k = if xs.getD k 0 ≤ lastI xs k ∨ 16 ≤ xs.getD k 0 then 3 else 0 := by
  unfold devF1
  by_cases h0 : k = 0
  · subst h0
    rw [show lastI xs 0 = -1 from rfl]
    by_cases h1 : xs.getD 0 0 < 0 ∨ 15 < xs.getD 0 0
    · rw [if_pos (by omega), if_pos (by omega)]
    · rw [if_neg (by omega), if_neg (by omega)]
  · have e : lastI xs k = xs.getD (k - 1) 0 := by unfold lastI; rw [if_neg h0]
    rw [e]
    have hp := Dvs.first_all h (k - 1) (by omega)
    unfold devF1 at hp
    split at hp
    · cases hp
    rename_i h2
    by_cases h1 : xs.getD k 0 ≤ xs.getD (k - 1) 0 ∨ 16 ≤ xs.getD k 0
    · rw [if_pos h1, if_pos (by omega)]
    · rw [if_neg h1, if_neg (by omega)]
set_option maxRecDepth 100000 in
set_option maxHeartbeats 1000000 in
theorem checkDevs_any (v : Value) (xs : List Int) (w : World) (h : IntsOf w v xs) : Calls Tryz.prog 63 #[v] w fun e w' => e = .returned (errV (devF xs : Nat)) ∧ w' = w := by
  obtain ⟨ao, c, rfl, hm, hr⟩ := h
  have HR := hideIt hr
  clear hr
  have HM := hideIt hm
  unfold maxLen at hm
  by_cases hn : 16 < xs.length
  · have he := devF_many hn
    have hd : decide ((16 : Int) < (xs.length : Int)) = true := decide_eq_true (by omega)
    go_enter Tryz.func63, Tryz.ntmps63
    go_wp2_with fail
    go_ret
    exact ⟨by rw [he]; rfl, rfl⟩
  · rw [devF_few hn]
    have hl : xs.length ≤ 16 := by omega
    have hd : decide ((16 : Int) < (xs.length : Int)) = false := decide_eq_false (by omega)
    go_enter Tryz.func63, Tryz.ntmps63
    go_wp2_with fail
    go_loop [3, 12] (fun la i => ∃ k : Nat, k ≤ xs.length ∧ i = .int .i64 k ∧ la = .int .i64 (lastI xs k) ∧ Hid (first (devF1 xs) k = 0)) (fun _ i => xs.length - (intOf i).toNat)
    case atStart => exact ⟨0, by omega, rfl, rfl, rfl⟩
    case round =>
      obtain ⟨k, hk, rfl, rfl, HF⟩ := hrel
      by_cases hlt : k < xs.length
      · obtain ⟨b, o, rfl, hb, hc⟩ := HR.out (by omega)
        have h1 := hc k hlt
        have HO := hideIt (Dvs.first_hit (f := devF1 xs) (n := xs.length) HF.out · hlt)
        have HZ := hideIt (Dvs.first_zero (f := devF1 xs) (k := k) HF.out)
        have HA := hideIt (devF1_at HF.out hlt)
        have HN := hideIt (lastI_next xs k)
        clear hc HF HR HM
        generalize xs.getD k 0 = x at *
        generalize lastI xs k = L at *
        by_cases ha : x ≤ L
        · have e3 : devF1 xs k = 3 := by rw [HA.out, if_pos (.inl ha)]
          have hd1 : decide (x ≤ L) = true := decide_eq_true ha
          have HO' := hideIt (HO.out (by omega))
          go_wp2_with fail
          go_ret
          exact ⟨by rw [HO'.out, e3]; rfl, rfl⟩
        · have hd1 : decide (x ≤ L) = false := decide_eq_false ha
          by_cases hg : 16 ≤ x
          · have e3 : devF1 xs k = 3 := by rw [HA.out, if_pos (.inr hg)]
            have hd2 : decide (16 ≤ x) = true := decide_eq_true hg
            have HO' := hideIt (HO.out (by omega))
            go_wp2_with fail
            go_ret
            exact ⟨by rw [HO'.out, e3]; rfl, rfl⟩
          · have e0 : devF1 xs k = 0 := by rw [HA.out, if_neg (by omega)]
            have hd2 : decide (16 ≤ x) = false := decide_eq_false hg
            have HZ' := hideIt (HZ.out e0)
            clear HO HZ HA
            go_wp2_with fail
            go_round
            case rel => exact ⟨k + 1, by omega, by go_num, by rw [HN.out], HZ'⟩
            case measure => simp [intOf]; omega
      · have hke : k = xs.length := by omega
        subst hke
        go_wp2_with fail
        go_ret
        exact ⟨by rw [HF.out]; rfl, rfl⟩
theorem GivsIn.at {w : World} {b o : Nat} {gs : List Gv} {dv : Nat → Value} (h : GivsIn w b o gs dv) {k : Nat} (hk : k < gs.length) :
    w.cell? ⟨b, o + k * 2, none⟩ = some (.int .u64 (gv gs k).cp) ∧ w.cell? ⟨b, o + k * 2 + 1, none⟩ = some (dv k) := ⟨(h.2 k hk).1.1, (h.2 k hk).1.2.1⟩
theorem behind_1 {h : Hd} {b : Bool} (e : podF h.pod ≠ 0) : behindF h b = podF h.pod := by unfold behindF; rw [if_pos e]
theorem behind_2 {h : Hd} {b : Bool} (e : podF h.pod = 0) (e2 : b = true ∨ h.gs.length ≠ h.pod.cs.length) : behindF h b = 3 := by unfold behindF; rw [if_neg (by omega), if_pos e2]
theorem behind_3 {h : Hd} {b : Bool} (e : podF h.pod = 0) (e2 : ¬ (b = true ∨ h.gs.length ≠ h.pod.cs.length)) : behindF h b = first (fun k => devF (gv h.gs k).dv) h.gs.length := by unfold behindF; rw [if_neg (by omega), if_neg e2]; rfl
theorem ConsAt.sl {w : World} {v : Value} {cs : List Ct} (h : ConsAt w v cs) : ∃ ao c, v = .slice ao cs.length c := by
  obtain ⟨ao, c, rfl, _⟩ := h
  exact ⟨ao, c, rfl⟩
theorem GivsAt.sl {w : World} {v : Value} {cs : List Gv} (h : GivsAt w v cs) : ∃ ao c, v = .slice ao cs.length c := by
  obtain ⟨ao, c, rfl, _⟩ := h
  exact ⟨ao, c, rfl⟩
/-- What is held, behind a name. -/
def lowS (a last : ByteArray) : Bool := leS a last
set_option maxRecDepth 100000 in
set_option maxHeartbeats 2000000 in
theorem checkHeld_any (h : Hd) (cv gvv : Value) (last : ByteArray) (w : World) (hc : ConsAt w cv h.pod.cs) (hg : GivsAt w gvv h.gs) :
    Calls Tryz.prog 33 #[heldV h cv gvv, .string last] w fun e w' => e = .returned (errV (behindF h (leS h.pod.nm last) : Nat)) ∧ Below w.heap.size w w' := by
  unfold heldV
  have HB0 := hideIt ((Below.refl w.heap.size w).alloc (Nat.le_refl _) (.cells #[.string h.pod.nm, .int .i64 h.pod.pr, cv, gvv] 67))
  have hcb := hc.below HB0.out
  have hgb := hg.below HB0.out
  have HCK := hideIt (check_any h.pod cv _ hcb)
  have HCB := hideIt hcb
  have HGB := hideIt hgb
  obtain ⟨cao, cc, rfl⟩ := hc.sl
  obtain ⟨gao, gc, rfl⟩ := hg.sl
  clear hc hg hcb hgb
  unfold podV at HCK
  by_cases hp : podF h.pod = 0
  · have e0 : errV ((podF h.pod : Nat) : Int) = .nilIface := by rw [hp]; rfl
    go_enter Tryz.func33, Tryz.ntmps33
    go_wp2_with fail
    refine HCK.out.mono ?_
    rintro e w1 ⟨rfl, hb⟩
    rw [e0]
    have HB1 := hideIt (HB0.out.trans (hb.mono HB0.out.size))
    have hG := HGB.out.below hb
    have c0 : w1.cell? ⟨w.heap.size, 0, none⟩ = some (.string h.pod.nm) := (hb.cell (p := ⟨w.heap.size, 0, none⟩) (by simp)).trans (by simp)
    have c2 : w1.cell? ⟨w.heap.size, 2, none⟩ = some (.slice cao h.pod.cs.length cc) := (hb.cell (p := ⟨w.heap.size, 2, none⟩) (by simp)).trans (by simp)
    have c3 : w1.cell? ⟨w.heap.size, 3, none⟩ = some (.slice gao h.gs.length gc) := (hb.cell (p := ⟨w.heap.size, 3, none⟩) (by simp)).trans (by simp)
    clear hb HCK HCB HGB
    rcases two (leS h.pod.nm last) with hle | hle
    · have HE := hideIt (behind_2 (b := leS h.pod.nm last) hp (.inl hle))
      unfold leS at hle
      go_wp2_with fail
      go_ret
      exact ⟨by rw [HE.out]; rfl, HB1.out⟩
    · by_cases hl : h.gs.length = h.pod.cs.length
      · have HE := hideIt (behind_3 (b := leS h.pod.nm last) hp (by rw [hle]; simp [hl]))
        unfold leS at hle
        have hl2 : (h.gs.length : Int) = (h.pod.cs.length : Int) := by omega
        obtain ⟨_, _, hgv, hm, hr⟩ := hG
        cases hgv
        have HR := hideIt hr
        have HM := hideIt hm
        clear hr
        unfold maxLen at hm
        generalize h.gs = gs at *
        go_wp2_with fail
        go_loopw [34] (fun i wr => ∃ k : Nat, k ≤ gs.length ∧ i = .int .i64 k ∧ Below w.heap.size w wr ∧ Below w1.heap.size w1 wr ∧ Hid (first (fun k => devF (gv gs k).dv) k = 0)) (fun i _ => gs.length - (intOf i).toNat)
        case atStart => exact ⟨0, by omega, rfl, HB1.out, Below.refl _ _, rfl⟩
        case round =>
          obtain ⟨k, hk, rfl, hB, hB1, HF⟩ := hrel
          by_cases hlt : k < gs.length
          · obtain ⟨b, o, dv, rfl, hin⟩ := HR.out (by omega)
            have hin := hin.below hB1
            obtain ⟨d0, d1⟩ := hin.at hlt
            have hI := (hin.2 k hlt).2
            have HO : Hid (devF (gv gs k).dv ≠ 0 → first (fun k => devF (gv gs k).dv) gs.length = devF (gv gs k).dv) := hideIt fun h => Dvs.first_hit (f := fun k => devF (gv gs k).dv) (n := gs.length) HF.out h hlt
            have HZ : Hid (devF (gv gs k).dv = 0 → first (fun k => devF (gv gs k).dv) (k + 1) = 0) := hideIt fun h => Dvs.first_zero (f := fun k => devF (gv gs k).dv) (k := k) HF.out h
            have HBW := hideIt ((Below.refl wr.heap.size wr).alloc (Nat.le_refl _) (.cells #[.int .u64 (gv gs k).cp, dv k] 64))
            have HBa := hideIt (hB.alloc hB.size (.cells #[.int .u64 (gv gs k).cp, dv k] 64))
            have HBb := hideIt (hB1.alloc hB1.size (.cells #[.int .u64 (gv gs k).cp, dv k] 64))
            have HCD := hideIt (checkDevs_any (dv k) _ _ (hI.below HBW.out))
            obtain ⟨iao, ic, hsl⟩ := hI.slice
            clear hin hI HF hB hB1
            generalize (gv gs k).cp = cp at *
            generalize devF (gv gs k).dv = F at *
            generalize (gv gs k).dv.length = dn at *
            generalize dv k = d at *
            subst hsl
            go_wp2_with fail
            refine HCD.out.mono ?_
            rintro e w5 ⟨rfl, rfl⟩
            by_cases hF : F = 0
            · have HZ' := hideIt (HZ.out hF)
              rw [show errV (F : Int) = .nilIface by rw [hF]; rfl]
              clear HO HZ hF HCD
              go_wp2_with fail
              go_roundw
              case rel => exact ⟨k + 1, by omega, by go_num, HBa.out, HBb.out, HZ'⟩
              case measure => simp [intOf]; omega
            · have HO' := hideIt (HO.out hF)
              have HP := hideIt (errQ_pos hF)
              rw [HP.out]
              clear HO HZ hF HCD
              go_wp2_with fail
              go_ret
              exact ⟨by rw [HE.out, HO'.out, HP.out]; rfl, HBa.out⟩
          · have hke : k = gs.length := by omega
            subst hke
            have HBa := hideIt hB
            clear hB hB1
            go_wp2_with fail
            go_ret
            exact ⟨by rw [HE.out, HF.out]; rfl, HBa.out⟩
      · have HE := hideIt (behind_2 (b := leS h.pod.nm last) hp (.inr hl))
        unfold leS at hle
        have hl2 : ((h.gs.length : Int) == (h.pod.cs.length : Int)) = false := by simp; omega
        go_wp2_with fail
        go_ret
        exact ⟨by rw [HE.out]; rfl, HB1.out⟩
  · have HE := hideIt (behind_1 (b := leS h.pod.nm last) hp)
    have HP := hideIt (errQ_pos hp)
    go_enter Tryz.func33, Tryz.ntmps33
    go_wp2_with fail
    refine HCK.out.mono ?_
    rintro e w1 ⟨rfl, hb⟩
    have HB1 := hideIt (HB0.out.trans (hb.mono HB0.out.size))
    rw [HP.out]
    clear hb
    go_wp2_with fail
    go_ret
    exact ⟨by rw [HE.out, HP.out]; rfl, HB1.out⟩
theorem HldsIn.at {w : World} {b o : Nat} {hs : List Hd} {cv gvv : Nat → Value} (h : HldsIn w b o hs cv gvv) {k : Nat} (hk : k < hs.length) :
    w.cell? ⟨b, o + k * 4, none⟩ = some (.string (hd hs k).pod.nm) ∧ w.cell? ⟨b, o + k * 4 + 1, none⟩ = some (.int .i64 (hd hs k).pod.pr) ∧ w.cell? ⟨b, o + k * 4 + 2, none⟩ = some (cv k) ∧ w.cell? ⟨b, o + k * 4 + 3, none⟩ = some (gvv k) := (h.2 k hk).1
/-- The name ahead, or none. -/
def lastS (hs : List Hd) (k : Nat) : ByteArray := if k = 0 then ByteArray.empty else (hd hs (k - 1)).pod.nm
theorem lastS_next (hs : List Hd) (k : Nat) : lastS hs (k + 1) = (hd hs k).pod.nm := rfl
theorem name_above {s : ByteArray} (h : nameMay s = true) : leS s ByteArray.empty = false := by
  have h0 := (Sv.name_size h).1
  rw [leS, ByteArray.toList_eq, ByteArray.toList_eq]
  cases hs : s.data.toList with
  | nil => rw [hs] at h0; simp at h0
  | cons a r => rfl
theorem behind_low {h : Hd} {b : Bool} (hb : nameMay h.pod.nm = true → b = false) : behindF h b = behindF h false := by
  unfold behindF
  by_cases hp : podF h.pod = 0
  · have hn := (Qos.pod_len hp).1
    rw [hb hn]
  · rw [if_pos hp, if_pos hp]
theorem one_last (hs : List Hd) (k : Nat) : behindF (hd hs k) (leS (hd hs k).pod.nm (lastS hs k)) = oneF hs k := by
  unfold oneF lowAt lastS
  by_cases h0 : k = 0
  · subst h0
    rw [if_pos rfl]
    show _ = behindF (hd hs 0) false
    exact behind_low name_above
  · rw [if_neg h0, decide_eq_true (by omega : 0 < k)]
    rfl
theorem heldF_many {hs : List Hd} (h : 12 < hs.length) : heldF hs = 2 := by unfold heldF; rw [if_pos h]
theorem heldF_few {hs : List Hd} (h : ¬ 12 < hs.length) : heldF hs = first (oneF hs) hs.length := by unfold heldF; rw [if_neg h]
set_option maxRecDepth 100000 in
set_option maxHeartbeats 2000000 in
theorem saveCheck_any (v : Value) (hs : List Hd) (w : World) (h : HldsAt w v hs) : Calls Tryz.prog 11 #[v] w fun e w' => e = .returned (errV (heldF hs : Nat)) ∧ Below w.heap.size w w' := by
  obtain ⟨ao, c, rfl, hm, hr⟩ := h
  have HR := hideIt hr
  clear hr
  have HM := hideIt hm
  unfold maxLen at hm
  by_cases hn : 12 < hs.length
  · have he := heldF_many hn
    have hd1 : decide ((12 : Int) < (hs.length : Int)) = true := decide_eq_true (by omega)
    go_enter Tryz.func11, Tryz.ntmps11
    go_wp2_with fail
    go_ret
    exact ⟨by rw [he]; rfl, Below.refl _ _⟩
  · rw [heldF_few hn]
    have hl : hs.length ≤ 12 := by omega
    have hd1 : decide ((12 : Int) < (hs.length : Int)) = false := decide_eq_false (by omega)
    go_enter Tryz.func11, Tryz.ntmps11
    go_wp2_with fail
    go_loopw [3, 13] (fun la i wr => ∃ k : Nat, k ≤ hs.length ∧ i = .int .i64 k ∧ la = .string (lastS hs k) ∧ Below w.heap.size w wr ∧ Hid (first (oneF hs) k = 0)) (fun _ i _ => hs.length - (intOf i).toNat)
    case atStart => exact ⟨0, by omega, rfl, rfl, Below.refl _ _, rfl⟩
    case round =>
      obtain ⟨k, hk, rfl, rfl, hB, HF⟩ := hrel
      by_cases hlt : k < hs.length
      · obtain ⟨b, o, cv, gvv, rfl, hin⟩ := HR.out (by omega)
        have hin := hin.below hB
        obtain ⟨d0, d1, d2, d3⟩ := hin.at hlt
        obtain ⟨_, hC, hG⟩ := hin.2 k hlt
        have HO := hideIt (Dvs.first_hit (f := oneF hs) (n := hs.length) HF.out · hlt)
        have HZ := hideIt (Dvs.first_zero (f := oneF hs) (k := k) HF.out)
        have HBW := hideIt ((Below.refl wr.heap.size wr).alloc (Nat.le_refl _) (.cells #[.string (hd hs k).pod.nm, .int .i64 (hd hs k).pod.pr, cv k, gvv k] 67))
        have HBa := hideIt (hB.alloc hB.size (.cells #[.string (hd hs k).pod.nm, .int .i64 (hd hs k).pod.pr, cv k, gvv k] 67))
        have HCH := hideIt (checkHeld_any (hd hs k) (cv k) (gvv k) (lastS hs k) _ (hC.below HBW.out) (hG.below HBW.out))
        rw [one_last hs k] at HCH
        unfold heldV at HCH
        have HN := hideIt (lastS_next hs k)
        obtain ⟨ca, cc, hs1⟩ := hC.sl
        obtain ⟨ga, gc, hs2⟩ := hG.sl
        clear hin hC hG HF hB
        generalize lastS hs k = L at *
        generalize oneF hs k = F at *
        generalize (hd hs k).pod.nm = nm at *
        generalize (hd hs k).pod.pr = pr at *
        generalize (hd hs k).pod.cs.length = cl at *
        generalize (hd hs k).gs.length = gl at *
        generalize cv k = cvk at *
        generalize gvv k = gvk at *
        subst hs1 hs2
        go_wp2_with fail
        refine HCH.out.mono ?_
        rintro e w5 ⟨rfl, hb5⟩
        have HB5 := hideIt (HBa.out.trans (hb5.mono HBa.out.size))
        have c0 : w5.cell? ⟨wr.heap.size, 0, none⟩ = some (.string nm) := (hb5.cell (p := ⟨wr.heap.size, 0, none⟩) (by simp)).trans (by simp)
        clear hb5
        by_cases hF : F = 0
        · have HZ' := hideIt (HZ.out hF)
          rw [show errV (F : Int) = .nilIface by rw [hF]; rfl]
          clear HO HZ hF HCH
          go_wp2_with fail
          go_roundw
          case rel => exact ⟨k + 1, by omega, by go_num, by rw [HN.out], HB5.out, HZ'⟩
          case measure => simp [intOf]; omega
        · have HO' := hideIt (HO.out hF)
          have HP := hideIt (errQ_pos hF)
          rw [HP.out]
          clear HO HZ hF HCH
          go_wp2_with fail
          go_ret
          exact ⟨by rw [HO'.out, HP.out]; rfl, HB5.out⟩
      · have hke : k = hs.length := by omega
        subst hke
        have HBa := hideIt hB
        clear hB
        go_wp2_with fail
        go_ret
        exact ⟨by rw [HF.out]; rfl, HBa.out⟩
end Go.Proofs.YtlljniaobbbjgaaGreatDoor
namespace Go.Proofs.YtlljniaobbbjgaaGreatDoor
open Go.RowKit
open Qos (Nd Ct Pd nd0 ct0 pd0 nd ct pd silent certain classOf quiet sure sumM sumB Mild ownOf)
/-- A pod lies boxed. -/
def PBoxAt (W : World) (B : Nat) (p : Pd) (cv : Value) : Prop := B < W.heap.size ∧ W.cell? ⟨B, 0, none⟩ = some (.string p.nm) ∧ W.cell? ⟨B, 1, none⟩ = some (.int .i64 p.pr) ∧ W.cell? ⟨B, 2, none⟩ = some cv
theorem PBoxAt.made (w : World) (p : Pd) (cv : Value) : PBoxAt (w.alloc (.cells #[.string p.nm, .int .i64 p.pr, cv] 59)) w.heap.size p cv := ⟨by simp, by simp, by simp, by simp⟩
theorem PBoxAt.below {W W' : World} {B : Nat} {p : Pd} {cv : Value} (h : PBoxAt W B p cv) (hb : Below W.heap.size W W') : PBoxAt W' B p cv := by
  obtain ⟨h0, h1, h2, h3⟩ := h
  exact ⟨Nat.lt_of_lt_of_le h0 hb.size, (hb.cell (p := ⟨B, 0, none⟩) h0).trans h1, (hb.cell (p := ⟨B, 1, none⟩) h0).trans h2, (hb.cell (p := ⟨B, 2, none⟩) h0).trans h3⟩
theorem PBoxAt.alloc {W : World} {B : Nat} {p : Pd} {cv : Value} (h : PBoxAt W B p cv) (o : Obj) : PBoxAt (W.alloc o) B p cv := h.below ((Below.refl _ W).alloc (Nat.le_refl _) o)
theorem PBoxAt.kept {W W' : World} {B : Nat} {p : Pd} {cv : Value} {g : Option Nat} (h : PBoxAt W B p cv) (hg : W.grownBy W' g) (hne : some B ≠ g) : PBoxAt W' B p cv :=
  ⟨Nat.lt_of_lt_of_le h.1 hg.size, (hg.cell_far ⟨B, 0, none⟩ h.1 hne).trans h.2.1, (hg.cell_far ⟨B, 1, none⟩ h.1 hne).trans h.2.2.1, (hg.cell_far ⟨B, 2, none⟩ h.1 hne).trans h.2.2.2⟩
theorem ConsAt.slice {w : World} {v : Value} {cs : List Ct} (h : ConsAt w v cs) : ∃ a n c, v = .slice a n c := by
  obtain ⟨a, c, h, _⟩ := h
  exact ⟨a, _, c, h⟩
end Go.Proofs.YtlljniaobbbjgaaGreatDoor
