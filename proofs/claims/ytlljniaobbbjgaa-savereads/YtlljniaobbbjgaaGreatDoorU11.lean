/- VP1, VP2 -/
import Derived.Test.YtlljniaobbbjgaaGreatDoorU10
namespace Go.Proofs.YtlljniaobbbjgaaGreatDoor
open Go.RowKit Go.Shelf
open Qos (Nd Ct Pd nd ct pd)
open Sv (Gv Hd gv hd wd Tx sumTxt heldTxt heldF body readS)
open S1 (Mx)
namespace Sv
def sumW : Tx := [115, 117, 109, 32]
def sumAt (t : Tx) : Int := Lib.lastIndex t sumW
/-- All that is ahead of the sum, if that is its sum. -/
def cutS (t : Tx) : Option Tx := if 0 ≤ sumAt t then if t.drop (sumAt t).toNat = sumTxt (t.take (sumAt t).toNat) then some (t.take (sumAt t).toNat) else none else none
/-- What it cuts, whatever the sum. -/
def aheadS (t : Tx) : Tx := if 0 ≤ sumAt t then t.take (sumAt t).toNat else []
theorem occ_iff (t : Tx) (j : Nat) : Lib.occAt t sumW j = true ↔ (t.drop j).take 4 = sumW := by
  unfold Lib.occAt
  rw [List.isPrefixOf_iff_prefix, List.prefix_iff_eq_take]
  exact ⟨fun h => h.symm, fun h => h.symm⟩
theorem sumAt_spec (t : Tx) : (sumAt t = -1 ∧ ∀ j, (t.drop j).take 4 ≠ sumW) ∨ ∃ i : Nat, sumAt t = i ∧ i + 4 ≤ t.length ∧ (t.drop i).take 4 = sumW ∧ ∀ j, i < j → (t.drop j).take 4 ≠ sumW := by
  have hlong : ∀ j, t.length < j + 4 → (t.drop j).take 4 ≠ sumW := fun j hj e => by
    have := congrArg List.length e
    simp [sumW] at this
    omega
  unfold sumAt Lib.lastIndex
  by_cases hl : sumW.length ≤ t.length
  · rw [if_pos hl]
    have hl4 : 4 ≤ t.length := hl
    rcases Lib.lastOcc_spec t sumW (t.length - sumW.length + 1) with ⟨h1, h2⟩ | ⟨i, h1, h2, h3, h4⟩
    · refine .inl ⟨h1, fun j => ?_⟩
      by_cases hj : t.length < j + 4
      · exact hlong j hj
      · have := h2 j (by show j < t.length - 4 + 1; omega)
        exact fun e => by rw [(occ_iff t j).2 e] at this; cases this
    · have h1' : i < t.length - 4 + 1 := h1
      refine .inr ⟨i, h2, by omega, ?_, fun j hj => ?_⟩
      · exact (occ_iff t i).1 h3
      · by_cases hj2 : t.length < j + 4
        · exact hlong j hj2
        · have := h4 j hj (by show j < t.length - 4 + 1; omega)
          exact fun e => by rw [(occ_iff t j).2 e] at this; cases this
  · rw [if_neg hl]
    refine .inl ⟨rfl, fun j => hlong j ?_⟩
    have : t.length < 4 := by have h : ¬ 4 ≤ t.length := hl; omega
    omega
theorem cutS_some {t b : Tx} (h : cutS t = some b) : t = b ++ sumTxt b := by
  unfold cutS at h
  split at h
  · split at h
    · rename_i _ he
      injection h with h
      rw [← h, ← he, List.take_append_drop]
    · cases h
  · cases h
theorem no_s (b : Tx) (k : Nat) : 0 < k → ((sumTxt b).drop k).take 4 ≠ sumW := by
  intro hk e
  have h115 : (115 : UInt8) ∈ (sumTxt b).drop k := by
    have : (115 : UInt8) ∈ ((sumTxt b).drop k).take 4 := by rw [e]; simp [sumW]
    exact List.mem_of_mem_take this
  have h2 : (115 : UInt8) ∈ (sumTxt b).drop 1 := by
    obtain ⟨j, rfl⟩ : ∃ j, k = 1 + j := ⟨k - 1, by omega⟩
    rw [← List.drop_drop] at h115
    exact List.mem_of_mem_drop h115
  unfold sumTxt at h2
  simp at h2
  exact Ost.dig_not _ 115 (by decide) h2
theorem sumAt_app (b : Tx) : sumAt (b ++ sumTxt b) = b.length := by
  have hyes : ((b ++ sumTxt b).drop b.length).take 4 = sumW := by
    rw [List.drop_left]
    unfold sumTxt sumW
    simp
  rcases sumAt_spec (b ++ sumTxt b) with ⟨_, h⟩ | ⟨i, h1, h2, h3, h4⟩
  · exact absurd hyes (h _)
  · rw [h1]
    rcases Nat.lt_trichotomy i b.length with h | h | h
    · exact absurd hyes (h4 _ h)
    · rw [h]
    · exfalso
      obtain ⟨j, rfl⟩ : ∃ j, i = b.length + j := ⟨i - b.length, by omega⟩
      rw [← List.drop_drop, List.drop_left] at h3
      exact no_s b j (by omega) h3
theorem cutS_app (b : Tx) : cutS (b ++ sumTxt b) = some b := by
  unfold cutS
  rw [sumAt_app]
  simp
theorem aheadS_cut {t b : Tx} (h : cutS t = some b) : aheadS t = b := by
  unfold cutS at h
  unfold aheadS
  split at h
  · rename_i h0
    rw [if_pos h0]
    split at h
    · injection h
    · cases h
  · cases h
theorem cutS_iff {t b : Tx} : cutS t = some b ↔ t = b ++ sumTxt b := ⟨cutS_some, fun h => by rw [h]; exact cutS_app b⟩
theorem cutS_le {t b : Tx} (h : cutS t = some b) : b.length ≤ t.length := by rw [cutS_some h]; simp
end Sv
end Go.Proofs.YtlljniaobbbjgaaGreatDoor

namespace Go.Proofs.YtlljniaobbbjgaaGreatDoor
open Go.RowKit Go.Shelf
open Sv (Tx sumTxt)
open S1 (Mx Tab)
attribute [local go_sem] Oper.semAt_some
set_option maxRecDepth 100000 in
set_option maxHeartbeats 2000000 in
theorem cutSum_any (t : List UInt8) (w : World) (ht : t.length ≤ 1000000) (htab : TabUp w) : Calls Tryz.prog 43 #[.string ⟨t.toArray⟩] w fun e w' =>
    e = .returned (.tuple #[.string ⟨(Sv.aheadS t).toArray⟩, .bool (Sv.cutS t).isSome]) ∧ Below w.heap.size w w' := by
  have HT := hideIt htab
  have HLI := hideIt (Tryz.strings_LastIndex ⟨t.toArray⟩ ⟨#[115, 117, 109, 32]⟩ (by simp [ByteArray.size]; omega) w)
  rw [show (ByteArray.mk t.toArray).data.toList = t by simp, show (ByteArray.mk #[115, 117, 109, 32]).data.toList = Sv.sumW from rfl, show Lib.lastIndex t Sv.sumW = Sv.sumAt t from rfl] at HLI
  rcases Sv.sumAt_spec t with ⟨h1, h2⟩ | ⟨i, h1, h2, h3, h4⟩
  · have HC : Hid (Sv.cutS t = none) := by
      unfold Hid Sv.cutS
      rw [h1]; rfl
    have HAH : Hid (Sv.aheadS t = []) := by unfold Hid Sv.aheadS; rw [h1]; rfl
    rw [h1] at HLI
    clear h1 h2 htab
    go_enter Tryz.func43, Tryz.ntmps43
    go_wp2_with fail
    refine HLI.out.mono ?_
    rintro e w1 ⟨rfl, rfl⟩
    go_wp2_with fail
    go_ret2
    exact ⟨by rw [HC.out, HAH.out]; rfl, Below.refl _ _⟩
  · have HC : Hid (Sv.cutS t = if t.drop i = sumTxt (t.take i) then some (t.take i) else none) := by
      unfold Hid Sv.cutS
      rw [h1, if_pos (by omega)]; rfl
    rw [h1] at HLI
    have HX1 : Hid ((ByteArray.mk t.toArray).extract 0 i = ⟨(t.take i).toArray⟩) := by unfold Hid; apply ByteArray.ext; simp
    have HX2 : Hid ((ByteArray.mk t.toArray).extract i t.length = ⟨(t.drop i).toArray⟩) := by unfold Hid; apply ByteArray.ext; simp; exact List.take_of_length_le (by simp)
    have hlt : (decide ((i : Int) < 0)) = false := by simp
    have hle : i ≤ t.length := by omega
    have HAH : Hid (Sv.aheadS t = t.take i) := by unfold Hid Sv.aheadS; rw [h1, if_pos (by omega)]; rfl
    have HEQ : Hid ((t.drop i == sumTxt (t.take i)) = (Sv.cutS t).isSome) := by
      unfold Hid
      rw [HC.out]
      by_cases h : t.drop i = sumTxt (t.take i)
      · rw [h]; simp
      · rw [if_neg h]
        simpa using h
    clear h1 h2 h3 h4 htab HC
    go_enter Tryz.func43, Tryz.ntmps43
    go_wp2_with fail
    refine HLI.out.mono ?_
    rintro e w1 ⟨rfl, rfl⟩
    go_wp2_with fail
    refine wp_region_held_drew (S := (fun _ => True)) (by kernel_rfl) trivial (fun hHeld => ?_)
    refine wpAnyH_take (i := 0) (oi := { dst := some 9, op := Op.move (Operand.tmp 0), type := 9, pos := "parse.go:46", after := #[], guard := none }) (v := ?v1x0) rfl (by kernel_rfl) (by kernel_rfl) (by kernel_rfl) (fun _ _ _ h => h) (Or.inl ⟨by rfl, ?h1x0⟩) (by assumption) ?r1x0
    case h1x0 =>
      intro w' hSw
      (try dsimp only at hSw)
      go_simp
      first | done | with_reducible rfl | rfl
    (try simp only [Act.put, List.setIfInBounds_toArray, List.set_cons_zero, List.set_cons_succ])
    refine wpAnyH_take (i := 1) (oi := { dst := some 10, op := Op.move (Operand.tmp 4), type := 3, pos := "parse.go:46", after := #[], guard := none }) (v := ?v2x1) rfl (by kernel_rfl) (by kernel_rfl) (by kernel_rfl) (fun _ _ _ h => h) (Or.inl ⟨by rfl, ?h2x1⟩) (by assumption) ?r2x1
    case h2x1 =>
      intro w' hSw
      (try dsimp only at hSw)
      go_simp
      first | done | with_reducible rfl | rfl
    (try simp only [Act.put, List.setIfInBounds_toArray, List.set_cons_zero, List.set_cons_succ])
    refine wpAnyH_take (i := 2) (oi := { dst := some 11, op := Op.slice 9 (Operand.tmp 9) none (some (Operand.tmp 10)) none, type := 9, pos := "parse.go:46", after := #[{ on := 0, ground := Ground.data }, { on := 1, ground := Ground.data }], guard := none }) (v := ?v3x2) rfl (by kernel_rfl) (by kernel_rfl) (by kernel_rfl) (fun _ _ _ h => h) (Or.inl ⟨by rfl, ?h3x2⟩) (by assumption) ?r3x2
    case h3x2 =>
      intro w' hSw
      (try dsimp only at hSw)
      go_simp
      first | done | with_reducible rfl | rfl
    (try simp only [Act.put, List.setIfInBounds_toArray, List.set_cons_zero, List.set_cons_succ])
    refine wpAnyH_take (i := 3) (oi := { dst := some 12, op := Op.move (Operand.tmp 0), type := 9, pos := "parse.go:46", after := #[], guard := none }) (v := ?v4x3) rfl (by kernel_rfl) (by kernel_rfl) (by kernel_rfl) (fun _ _ _ h => h) (Or.inl ⟨by rfl, ?h4x3⟩) (by assumption) ?r4x3
    case h4x3 =>
      intro w' hSw
      (try dsimp only at hSw)
      go_simp
      first | done | with_reducible rfl | rfl
    (try simp only [Act.put, List.setIfInBounds_toArray, List.set_cons_zero, List.set_cons_succ])
    refine wpAnyH_take (i := 4) (oi := { dst := some 13, op := Op.move (Operand.tmp 4), type := 3, pos := "parse.go:46", after := #[], guard := none }) (v := ?v5x4) rfl (by kernel_rfl) (by kernel_rfl) (by kernel_rfl) (fun _ _ _ h => h) (Or.inl ⟨by rfl, ?h5x4⟩) (by assumption) ?r5x4
    case h5x4 =>
      intro w' hSw
      (try dsimp only at hSw)
      go_simp
      first | done | with_reducible rfl | rfl
    (try simp only [Act.put, List.setIfInBounds_toArray, List.set_cons_zero, List.set_cons_succ])
    refine wpAnyH_take (i := 5) (oi := { dst := some 14, op := Op.slice 9 (Operand.tmp 12) (some (Operand.tmp 13)) none none, type := 9, pos := "parse.go:46", after := #[{ on := 3, ground := Ground.data }, { on := 4, ground := Ground.data }], guard := none }) (v := ?v6x5) rfl (by kernel_rfl) (by kernel_rfl) (by kernel_rfl) (fun _ _ _ h => h) (Or.inl ⟨by rfl, ?h6x5⟩) (by assumption) ?r6x5
    case h6x5 =>
      intro w' hSw
      (try dsimp only at hSw)
      go_simp
      first | done | with_reducible rfl | rfl
    (try simp only [Act.put, List.setIfInBounds_toArray, List.set_cons_zero, List.set_cons_succ])
    refine wpAnyH_take (i := 6) (oi := { dst := some 15, op := Op.move (Operand.tmp 0), type := 9, pos := "parse.go:46", after := #[], guard := none }) (v := ?v7x6) rfl (by kernel_rfl) (by kernel_rfl) (by kernel_rfl) (fun _ _ _ h => h) (Or.inl ⟨by rfl, ?h7x6⟩) (by assumption) ?r7x6
    case h7x6 =>
      intro w' hSw
      (try dsimp only at hSw)
      go_simp
      first | done | with_reducible rfl | rfl
    (try simp only [Act.put, List.setIfInBounds_toArray, List.set_cons_zero, List.set_cons_succ])
    refine wpAnyH_take (i := 7) (oi := { dst := some 16, op := Op.move (Operand.tmp 4), type := 3, pos := "parse.go:46", after := #[], guard := none }) (v := ?v8x7) rfl (by kernel_rfl) (by kernel_rfl) (by kernel_rfl) (fun _ _ _ h => h) (Or.inl ⟨by rfl, ?h8x7⟩) (by assumption) ?r8x7
    case h8x7 =>
      intro w' hSw
      (try dsimp only at hSw)
      go_simp
      first | done | with_reducible rfl | rfl
    (try simp only [Act.put, List.setIfInBounds_toArray, List.set_cons_zero, List.set_cons_succ])
    refine wpAnyH_take (i := 8) (oi := { dst := some 17, op := Op.slice 9 (Operand.tmp 15) none (some (Operand.tmp 16)) none, type := 9, pos := "parse.go:46", after := #[{ on := 6, ground := Ground.data }, { on := 7, ground := Ground.data }], guard := none }) (v := ?v9x8) rfl (by kernel_rfl) (by kernel_rfl) (by kernel_rfl) (fun _ _ _ h => h) (Or.inl ⟨by rfl, ?h9x8⟩) (by assumption) ?r9x8
    case h9x8 =>
      intro w' hSw
      (try dsimp only at hSw)
      go_simp
      first | done | with_reducible rfl | rfl
    (try simp only [Act.put, List.setIfInBounds_toArray, List.set_cons_zero, List.set_cons_succ])
    refine wpAnyH_ready (rs := [9]) (by kernel_rfl) (by simp) (AllReadyH.cons rfl (fun K hK => ?_) AllReadyH.nil)
    go_simp
    go_wp2_with fail
    rw [HX1.out, HX2.out]
    have HB1 := hideIt (below_drewV (Below.refl w1.heap.size w1))
    refine (sumLine_any (t.take i) _ (by simp; omega) (HT.out.below HB1.out).1).mono ?_
    rintro e w2 ⟨rfl, hb⟩
    have HB2 := hideIt (HB1.out.trans (hb.mono HB1.out.size))
    clear hb
    go_wp2_with fail
    refine hK.out _ _ trivial (fun hHeld => ?_)
    clear hK K
    refine wpAnyH_take (i := 10) (oi := { dst := some 19, op := Op.binOp BinOp.eql 9 (Operand.tmp 14) (Operand.tmp 18) 9, type := 4, pos := "parse.go:46", after := #[{ on := 5, ground := Ground.data }, { on := 9, ground := Ground.data }, { on := 11, ground := Ground.gcOnly Departure.lateStores }], guard := none }) (v := ?v10x10) rfl (by kernel_rfl) (by kernel_rfl) (by kernel_rfl) (fun _ _ _ h => h) (Or.inl ⟨by rfl, ?h10x10⟩) (by assumption) ?r10x10
    case h10x10 =>
      intro w' hSw
      (try dsimp only at hSw)
      go_simp
      first | done | with_reducible rfl | rfl
    (try simp only [Act.put, List.setIfInBounds_toArray, List.set_cons_zero, List.set_cons_succ])
    refine wpAnyH_take (i := 11) (oi := { dst := some 2, op := Op.assign (Operand.tmp 11), type := 9, pos := "parse.go:46", after := #[{ on := 2, ground := Ground.data }, { on := 9, ground := Ground.chain }, { on := 0, ground := Ground.phase }, { on := 1, ground := Ground.phase }, { on := 2, ground := Ground.phase }, { on := 3, ground := Ground.textOnly Departure.lateStores }, { on := 4, ground := Ground.textOnly Departure.lateStores }, { on := 5, ground := Ground.textOnly Departure.lateStoresUnsure }, { on := 6, ground := Ground.textOnly Departure.lateStores }, { on := 7, ground := Ground.textOnly Departure.lateStores }, { on := 8, ground := Ground.textOnly Departure.lateStoresUnsure }, { on := 9, ground := Ground.textOnly Departure.lateStoresUnsure }, { on := 10, ground := Ground.textOnly Departure.lateStores }], guard := none }) (v := ?v11x11) rfl (by kernel_rfl) (by kernel_rfl) (by kernel_rfl) (fun _ _ _ h => h) (Or.inl ⟨by rfl, ?h11x11⟩) (by assumption) ?r11x11
    case h11x11 =>
      intro w' hSw
      (try dsimp only at hSw)
      go_simp
      first | done | with_reducible rfl | rfl
    (try simp only [Act.put, List.setIfInBounds_toArray, List.set_cons_zero, List.set_cons_succ])
    refine wpAnyH_take (i := 12) (oi := { dst := some 3, op := Op.assign (Operand.tmp 19), type := 4, pos := "parse.go:46", after := #[{ on := 10, ground := Ground.data }, { on := 11, ground := Ground.chain }, { on := 0, ground := Ground.phase }, { on := 1, ground := Ground.phase }, { on := 2, ground := Ground.phase }, { on := 3, ground := Ground.phase }, { on := 4, ground := Ground.phase }, { on := 5, ground := Ground.phase }, { on := 6, ground := Ground.phase }, { on := 7, ground := Ground.phase }, { on := 8, ground := Ground.phase }, { on := 9, ground := Ground.phase }, { on := 10, ground := Ground.phase }, { on := 11, ground := Ground.phase }], guard := none }) (v := ?v12x12) rfl (by kernel_rfl) (by kernel_rfl) (by kernel_rfl) (fun _ _ _ h => h) (Or.inl ⟨by rfl, ?h12x12⟩) (by assumption) ?r12x12
    case h12x12 =>
      intro w' hSw
      (try dsimp only at hSw)
      go_simp
      first | done | with_reducible rfl | rfl
    (try simp only [Act.put, List.setIfInBounds_toArray, List.set_cons_zero, List.set_cons_succ])
    refine wpAnyH_done (by kernel_rfl) ?_ _
    go_wp2_with fail
    go_ret2
    exact ⟨by rw [HAH.out, ← HEQ.out]; rfl, HB2.out⟩
end Go.Proofs.YtlljniaobbbjgaaGreatDoor

