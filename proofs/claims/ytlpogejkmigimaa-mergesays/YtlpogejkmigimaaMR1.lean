/- What the reference's choices and better answer: contracts. -/
import Derived.Test.YtlpogejkmigimaaMW3
namespace Go.Proofs.Ytlpogejkmigimaa
open Go.RowKit
open Ost (Hi Wi wi0 Low bet pop8 cho okH)
theorem filt_yes (pol : Int) (hs : List Hi) (k : Nat) (hk : k < hs.length) (h : okH pol (hs.getD k (0, false)) = true) : (hs.take (k + 1)).filter (okH pol) = (hs.take k).filter (okH pol) ++ [hs.getD k (0, false)] := by
  rw [List.take_succ_eq_append_getElem hk, List.filter_append]
  have e : hs.getD k (0, false) = hs[k] := by simp [hk]
  rw [e] at h ⊢
  simp [h]
theorem filt_no (pol : Int) (hs : List Hi) (k : Nat) (hk : k < hs.length) (h : ¬ okH pol (hs.getD k (0, false)) = true) : (hs.take (k + 1)).filter (okH pol) = (hs.take k).filter (okH pol) := by
  rw [List.take_succ_eq_append_getElem hk, List.filter_append]
  have e : hs.getD k (0, false) = hs[k] := by simp [hk]
  rw [e] at h
  simp [h]
theorem filt_len (pol : Int) (hs : List Hi) (k : Nat) : ((hs.take k).filter (okH pol)).length ≤ k := Nat.le_trans (List.length_filter_le _ _) (by simp; omega)
set_option maxRecDepth 100000 in
set_option maxHeartbeats 1000000 in
theorem refChoices_free (pol : Int) (nodes : Nat) (w : World) (ao : Option Addr) (n c : Nat) :
    Calls Try.prog 54 #[.agg #[.bool true, .slice ao n c], .int .i64 pol, .int .u8 nodes] w fun e w' => Chosen w [(nodes, true)] e w' := by
  have HB : Hid (Below w.heap.size w ((w.alloc (.cells #[.bool true, .slice ao n c] 53)).alloc (.cells #[.int .u8 (nodes : Nat), .bool true] 60))) := ((Below.refl _ _).alloc (Nat.le_refl _) _).alloc (by simp) _
  have HO := oneHint (w.alloc (.cells #[.bool true, .slice ao n c] 53)) nodes true 60
  simp only [World.size_alloc] at HO
  have HO := hideIt HO
  go_enter Try.func54, Try.ntmps54
  go_wp2_with fail
  go_ret
  exact ⟨_, rfl, HO.out, HB.out⟩
set_option maxRecDepth 100000 in
set_option maxHeartbeats 1000000 in
theorem refChoices_some (pol : Int) (nodes : Nat) (v : Value) (hs : List Hi) (w : World) (hv : HintsAt w v hs) (hlow : Low hs) (hl : hs.length ≤ 16) (hp : 0 ≤ pol ∧ pol ≤ 3) :
    Calls Try.prog 54 #[.agg #[.bool false, v], .int .i64 pol, .int .u8 nodes] w fun e w' => Chosen w (cho pol nodes ⟨false, hs⟩) e w' := by
  obtain ⟨ao, c, rfl, hc⟩ := hv.form
  have HC := hideIt hc
  clear hc hv
  have HX : Hid (Below w.heap.size w (w.alloc (.cells #[.bool false, .slice ao hs.length c] 53))) := (Below.refl _ _).alloc (Nat.le_refl _) _
  have hE0 := hideIt (show (w.alloc (.cells #[.bool false, .slice ao hs.length c] 53)).cell? ⟨w.heap.size, 1, none⟩ = some (.slice ao hs.length c) by simp)
  have HLo := hideIt hlow
  clear hlow
  obtain ⟨i0, hi, hz0, hz1, hz2⟩ := info_parts infoHint
  go_enter Try.func54, Try.ntmps54
  go_wp2_with fail
  have HO2 := hideIt fun (w : World) => oneHint w nodes false 60
  go_loopw [7, 8] (fun l i wr => ∃ k : Nat, k ≤ hs.length ∧ i = .int .i64 k ∧ Hid (wr.ownsRow (w.heap.size + 1) 60 2 l ((hs.take k).filter (okH pol)).length (hintCells ((hs.take k).filter (okH pol)))) ∧ Hid (Below (w.heap.size + 1) (w.alloc (.cells #[.bool false, .slice ao hs.length c] 53)) wr) ∧ w.heap.size + 1 ≤ wr.heap.size) (fun _ i _ => hs.length - (intOf i).toNat)
  case atStart => exact ⟨0, by omega, rfl, World.ownsRow_nil _ _ _ _, Below.refl _ _, by simp⟩
  case round =>
    obtain ⟨k, hk, rfl, HR, HB, hsz⟩ := hrel
    have hcl := filt_len pol hs k
    have hw1 := (HB.out.cell (p := ⟨w.heap.size, 1, none⟩) (by show w.heap.size < w.heap.size + 1; omega)).trans hE0.out
    by_cases hlt : k < hs.length
    · obtain ⟨b, o, rfl, hb, hcs⟩ := HC.out (by omega)
      obtain ⟨c0, c1⟩ := hcs k hlt
      replace c0 := ((HB.out.cell (p := ⟨b, o + k * 2, none⟩) (by show b < w.heap.size + 1; omega)).trans (HX.out.cell (p := ⟨b, o + k * 2, none⟩) hb)).trans c0
      replace c1 := ((HB.out.cell (p := ⟨b, o + k * 2 + 1, none⟩) (by show b < w.heap.size + 1; omega)).trans (HX.out.cell (p := ⟨b, o + k * 2 + 1, none⟩) hb)).trans c1
      have hx := HLo.out _ (Ost.getD_mem hs (0, false) k hlt)
      have HY := hideIt (filt_yes pol hs k hlt)
      have HN := hideIt (filt_no pol hs k hlt)
      clear hcs
      generalize hs.getD k (0, false) = x at *
      obtain ⟨m, g⟩ := x
      simp only at c0 c1 hx
      have HP := hideIt (fun w => refNodesOf_any m w hx)
      have hp8 := Ost.pop8_le m
      have HBa := hideIt (HB.out.alloc hsz (.cells #[.int .u8 (m : Nat), .bool g] 60))
      have HRa := hideIt (HR.out.alloc (.cells #[.int .u8 (m : Nat), .bool g] 60))
      obtain ⟨ao2, c2, rfl⟩ := row_slice HR.out
      generalize (hs.take k).filter (okH pol) = lk at *
      rcases two (decide (pol < 3)) with hpol | hpol
      · have hok : Hid (okH pol (m, g) = true) := by unfold Hid okH; rw [hpol]; rfl
        have hpol2 := of_decide_eq_true hpol
        go_wp2_with (at_builtin; refine wpList_append_lies _ rfl _ _ 51 rfl (w.heap.size + 1) 60 i0 (.agg #[.int .u8 0, .bool false]) 2 2 Try.underlying51 hi hz0 hz1 hz2 rfl (by decide) _ _ _ rfl (HRa.out.alloc _) ⟨_, 0, none⟩ 1 1 [.int .u8 m, .bool g] rfl rfl (by intro j u hj; match j, hj with | 0, hj => (simp at hj; subst hj; simp [Addr.add]) | 1, hj => (simp at hj; subst hj; simp [Addr.add])) (by intro u hu; simp at hu; rcases hu with rfl | rfl <;> rfl) (by decide) (by unfold maxLen; omega) (by omega) (by simp; omega) _ rfl ?_; intro g' cap' w6 hown6 hgrow6 hat6 hlt6)
        have HB6 := hideIt ((HBa.out.alloc (by simp; omega) _).grown hgrow6 (by simp; omega) (fun q hq => (HRa.out.lt q hq).1))
        have hsz6 : w.heap.size + 1 ≤ w6.heap.size := Nat.le_trans (by simp) HB6.out.size
        have HR6 := hideIt hown6
        clear hown6 hgrow6 hat6 hlt6
        go_roundw
        case rel => exact ⟨k + 1, by omega, by go_num, by rw [HY.out hok.out, hintCells_snoc, List.length_append]; exact HR6.out, HB6.out, hsz6⟩
        case measure => simp [intOf]; omega
      · have hpol3 : (3 : Int) ≤ pol := by have := of_decide_eq_false hpol; omega
        rcases two g with hg | hg
        · subst hg
          by_cases hpm : pop8 m = 1
          · have hok : Hid (okH pol (m, true) = true) := by unfold Hid okH; simp [hpm]
            have hpm2 : ((pop8 m : Int) == 1) = true := by rw [beq_iff_eq]; omega
            clear hpm
            generalize pop8 m = p at *
            go_wp2_with fail
            refine (HP.out _).mono ?_
            rintro e w5 ⟨rfl, hw5⟩
            subst w5
            go_wp2_with (at_builtin; refine wpList_append_lies _ rfl _ _ 51 rfl (w.heap.size + 1) 60 i0 (.agg #[.int .u8 0, .bool false]) 2 2 Try.underlying51 hi hz0 hz1 hz2 rfl (by decide) _ _ _ rfl (HRa.out.alloc _) ⟨_, 0, none⟩ 1 1 [.int .u8 m, .bool true] rfl rfl (by intro j u hj; match j, hj with | 0, hj => (simp at hj; subst hj; simp [Addr.add]) | 1, hj => (simp at hj; subst hj; simp [Addr.add])) (by intro u hu; simp at hu; rcases hu with rfl | rfl <;> rfl) (by decide) (by unfold maxLen; omega) (by omega) (by simp; omega) _ rfl ?_; intro g' cap' w6 hown6 hgrow6 hat6 hlt6)
            have HB6 := hideIt ((HBa.out.alloc (by simp; omega) _).grown hgrow6 (by simp; omega) (fun q hq => (HRa.out.lt q hq).1))
            have hsz6 : w.heap.size + 1 ≤ w6.heap.size := Nat.le_trans (by simp) HB6.out.size
            have HR6 := hideIt hown6
            clear hown6 hgrow6 hat6 hlt6
            go_roundw
            case rel => exact ⟨k + 1, by omega, by go_num, by rw [HY.out hok.out, hintCells_snoc, List.length_append]; exact HR6.out, HB6.out, hsz6⟩
            case measure => simp [intOf]; omega
          · have hok : Hid (¬ okH pol (m, true) = true) := by unfold Hid okH; rw [hpol]; simp [hpm]
            have hpm2 : ((pop8 m : Int) == 1) = false := by rw [beq_eq_false_iff_ne]; omega
            clear hpm
            generalize pop8 m = p at *
            go_wp2_with fail
            refine (HP.out _).mono ?_
            rintro e w5 ⟨rfl, hw5⟩
            subst w5
            go_wp2_with fail
            go_roundw
            case rel => exact ⟨k + 1, by omega, by go_num, by rw [HN.out hok.out]; exact HRa.out, HBa.out, by simp; omega⟩
            case measure => simp [intOf]; omega
        · subst hg
          have hok : Hid (¬ okH pol (m, false) = true) := by unfold Hid okH; rw [hpol]; simp
          go_wp2_with fail
          go_roundw
          case rel => exact ⟨k + 1, by omega, by go_num, by rw [HN.out hok.out]; exact HRa.out, HBa.out, by simp; omega⟩
          case measure => simp [intOf]; omega
    · have hkl : k = hs.length := by omega
      subst hkl
      have hEq : cho pol nodes ⟨false, hs⟩ = if (hs.filter (okH pol)).length = 0 then [(nodes, false)] else hs.filter (okH pol) := rfl
      rw [List.take_length] at HR hcl
      obtain ⟨ao2, c2, rfl⟩ := row_slice HR.out
      have HBe := hideIt (HX.out.trans (HB.out.mono (by omega)))
      have hsz' : w.heap.size ≤ wr.heap.size := by omega
      by_cases h0 : (hs.filter (okH pol)).length = 0
      · rw [if_pos h0] at hEq
        have hEq := hideIt hEq
        have hnil : hs.filter (okH pol) = [] := List.eq_nil_of_length_eq_zero h0
        clear h0
        generalize hs.filter (okH pol) = l at *
        subst hnil
        simp only [List.length_nil] at HR ⊢
        go_wp2_with (at_builtin; refine wpList_append_lies _ rfl _ _ 51 rfl (w.heap.size + 1) 60 i0 (.agg #[.int .u8 0, .bool false]) 2 2 Try.underlying51 hi hz0 hz1 hz2 rfl (by decide) _ _ _ rfl (HR.out.alloc _) ⟨_, 0, none⟩ 1 1 [.int .u8 nodes, .bool false] rfl rfl (by intro j u hj; match j, hj with | 0, hj => (simp at hj; subst hj; simp [Addr.add]) | 1, hj => (simp at hj; subst hj; simp [Addr.add])) (by intro u hu; simp at hu; rcases hu with rfl | rfl <;> rfl) (by decide) (by unfold maxLen; omega) (by omega) (by simp; omega) _ rfl ?_; intro g' cap' w6 hown6 hgrow6 hat6 hlt6)
        have hown : w6.ownsRow (w.heap.size + 1) 60 2 (.slice (some ⟨g', 0, none⟩) 1 cap') ([(nodes, false)] : List Hi).length (hintCells [(nodes, false)]) := hown6
        have HHs := hideIt (HintsAt.of_row hown)
        have HB6 := hideIt ((HBe.out.alloc hsz' _).grown hgrow6 (by simp; omega) (fun q hq => Nat.le_trans (by omega) (HR.out.lt q hq).1))
        go_ret
        exact ⟨_, rfl, by rw [hEq.out]; exact HHs.out, HB6.out⟩
      · rw [if_neg h0] at hEq
        have hEq := hideIt hEq
        have h0' : ((((hs.filter (okH pol)).length : Nat) : Int) == 0) = false := by rw [beq_eq_false_iff_ne]; omega
        have HH := hideIt (HintsAt.of_row HR.out)
        generalize hs.filter (okH pol) = l at *
        go_wp2_with fail
        go_ret
        exact ⟨_, rfl, by rw [hEq.out]; exact HH.out, HBe.out⟩
theorem refChoices_any (pol : Int) (nodes : Nat) (any : Bool) (v : Value) (hs : List Hi) (w : World) (hv : HintsAt w v hs) (hlow : Low hs) (hl : hs.length ≤ 16) (hp : 0 ≤ pol ∧ pol ≤ 3) :
    Calls Try.prog 54 #[.agg #[.bool any, v], .int .i64 pol, .int .u8 nodes] w fun e w' => Chosen w (cho pol nodes ⟨any, hs⟩) e w' := by
  cases any
  · exact refChoices_some pol nodes v hs w hv hlow hl hp
  · obtain ⟨ao, c, rfl, _⟩ := hv.form
    exact refChoices_free pol nodes w ao _ c
set_option maxRecDepth 100000 in
set_option maxHeartbeats 2000000 in
theorem refBetter_any (a b : Hi) (w : World) (ha : a.1 < 256) (hb : b.1 < 256) :
    Calls Try.prog 55 #[vH a, vH b] w fun e w' => e = .returned (.bool (bet a b)) ∧ Below w.heap.size w w' := by
  obtain ⟨m, g⟩ := a
  obtain ⟨n, f⟩ := b
  simp only at ha hb
  unfold vH
  have HB : Hid (Below w.heap.size w ((w.alloc (.cells #[.int .u8 (m : Nat), .bool g] 60)).alloc (.cells #[.int .u8 (n : Nat), .bool f] 60))) := ((Below.refl _ _).alloc (Nat.le_refl _) _).alloc (by simp) _
  have HPm := hideIt (fun w => refNodesOf_any m w ha)
  have HPn := hideIt (fun w => refNodesOf_any n w hb)
  obtain ⟨r, hr⟩ : ∃ r, r = bet (m, g) (n, f) := ⟨_, rfl⟩
  rw [← hr]
  have HR := hideIt hr
  clear hr
  have k0 : ((w.alloc (.cells #[.int .u8 (m : Nat), .bool g] 60)).alloc (.cells #[.int .u8 (n : Nat), .bool f] 60)).cell? ⟨w.heap.size, 0, none⟩ = some (.int .u8 (m : Nat)) := by go_simp
  have k1 : ((w.alloc (.cells #[.int .u8 (m : Nat), .bool g] 60)).alloc (.cells #[.int .u8 (n : Nat), .bool f] 60)).cell? ⟨w.heap.size + 1, 0, none⟩ = some (.int .u8 (n : Nat)) := by go_simp
  go_enter Try.func55, Try.ntmps55
  rcases two (g != f) with hgf | hgf
  · have hR : Hid (g = r) := by unfold Hid; rw [HR.out]; unfold bet; rw [if_pos hgf]
    have hgf2 : (!g == f) = true := hgf
    clear hgf
    go_wp2_with fail
    go_ret
    exact ⟨congrArg (fun b => Ending.returned (.bool b)) hR.out, HB.out⟩
  · have hgf2 : (!g == f) = false := hgf
    have hp8 := Ost.pop8_le m
    have hq8 := Ost.pop8_le n
    go_wp2_with fail
    generalize ((w.alloc (.cells #[.int .u8 (m : Nat), .bool g] 60)).alloc (.cells #[.int .u8 (n : Nat), .bool f] 60)) = W at *
    by_cases hpq : pop8 m = pop8 n
    · have hR : Hid (decide (m < n) = r) := by
        unfold Hid; rw [HR.out]; unfold bet; rw [if_neg (by rw [hgf]; simp), if_neg (by simp [hpq])]
      rw [hpq] at HPm
      clear hgf hpq HR hp8
      generalize pop8 n = y at *
      go_quiet (first | (go_at_call_of 31 m; exact Calls.quiet_of_same (HPm.out _)) | (go_at_call_of 31 n; exact Calls.quiet_of_same (HPn.out _)))
      go_wp2_with fail
      go_ret
      exact ⟨congrArg (fun b => Ending.returned (.bool b)) hR.out, below_drewN HB.out _⟩
    · have hR : Hid (decide (pop8 m < pop8 n) = r) := by
        unfold Hid; rw [HR.out]; unfold bet; rw [if_neg (by rw [hgf]; simp), if_pos (by simpa using hpq)]
      have hpq2 : ((pop8 m : Int) == (pop8 n : Int)) = false := by rw [beq_eq_false_iff_ne]; omega
      clear hgf hpq HR
      generalize pop8 m = x at *
      generalize pop8 n = y at *
      go_quiet (first | (go_at_call_of 31 m; exact Calls.quiet_of_same (HPm.out _)) | (go_at_call_of 31 n; exact Calls.quiet_of_same (HPn.out _)))
      go_wp2_with fail
      have q0 : (W.drewN nq).cell? ⟨w.heap.size, 0, none⟩ = some (.int .u8 (m : Nat)) := k0
      have q1 : (W.drewN nq).cell? ⟨w.heap.size + 1, 0, none⟩ = some (.int .u8 (n : Nat)) := k1
      have HB2 : Hid (Below w.heap.size w (W.drewN nq)) := below_drewN HB.out _
      clear k0 k1 HB
      generalize W.drewN nq = W1 at *
      go_quiet (first | (go_at_call_of 31 m; exact Calls.quiet_of_same (HPm.out _)) | (go_at_call_of 31 n; exact Calls.quiet_of_same (HPn.out _)))
      go_wp2_with fail
      go_ret
      exact ⟨congrArg (fun b => Ending.returned (.bool b)) hR.out, below_drewN HB2.out _⟩
end Go.Proofs.Ytlpogejkmigimaa
