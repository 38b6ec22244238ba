/- VY7, VSR -/
import Derived.Test.YtlljniaobbbjgaaGreatDoorU14
import Derived.Test.YtlljniaobbbjgaaGreatDoorU24
import Derived.Test.YtlljniaobbbjgaaGreatDoorU6
import Derived.Test.YtlljniaobbbjgaaGreatDoorU26
import Derived.Maps.AppendAt
import Derived.Deep.RegionHeld3
namespace Go.Proofs.YtlljniaobbbjgaaGreatDoor
open Go.RowKit Go.Shelf
open Ost (splitC)
open Qos (Nd Ct Pd nd ct pd podF)
open Sv (Gv Hd gv hd wd Tx sumTxt heldTxt heldF body OkL)
attribute [local go_sem] Oper.semAt_some
theorem podFaultR : PodFaultIs := fun p cv w h => podFault_any p cv w h
def HeldOfOut (w : World) (t : List UInt8) (e : Ending) (w' : World) : Prop :=
  ∃ v, e = .returned (.tuple #[v, .int .i64 ((Sv.heldOfS t).1 : Nat)]) ∧ HldsAt w' v (Sv.heldOfS t).2 ∧ Below w.heap.size w w'
theorem HeldOfOut.fail {w W : World} {t : List UInt8} {n : Nat} (h : Sv.heldOfS t = (n, [])) (hb : Below w.heap.size w W) : HeldOfOut w t (.returned (.tuple #[.slice none 0 0, .int .i64 (n : Nat)])) W :=
  ⟨.slice none 0 0, by rw [h], by rw [h]; exact hlds_nil _, hb⟩
theorem sum_last (t : List UInt8) : Lib.lastOcc t Sv.sumW (t.length - 3) = Sv.sumAt t := by
  unfold Sv.sumAt Lib.lastIndex
  have h4 : Sv.sumW.length = 4 := rfl
  rw [h4]
  by_cases h : 4 ≤ t.length
  · rw [if_pos h, show t.length - 3 = t.length - 4 + 1 by omega]
  · rw [if_neg h, show t.length - 3 = 0 by omega]; rfl
theorem occ_bytes (t : List UInt8) (k : Nat) : (((ByteArray.mk t.toArray).extract k (k + 4)).toList == [115, 117, 109, 32]) = Lib.occAt t Sv.sumW k := by
  have e : ((ByteArray.mk t.toArray).extract k (k + 4)).toList = (t.drop k).take 4 := by
    rw [ByteArray.toList_eq, S1.extract_list]
    simp [List.drop_take]
  rw [e, Bool.eq_iff_iff, Sv.occ_iff, beq_iff_eq]
  rfl
theorem take_bytes (t : List UInt8) (i : Nat) : (ByteArray.mk t.toArray).extract 0 i = ⟨(t.take i).toArray⟩ := by
  have := S1.extract_list ⟨t.toArray⟩ 0 i
  rw [← S1.mk_data ((ByteArray.mk t.toArray).extract 0 i), this]
  simp
theorem heldOf_long {t : List UInt8} (h : 6000 < t.length) : Sv.heldOfS t = (2, []) := if_pos h
theorem heldOf_sum {t : List UInt8} (h : ¬ 6000 < t.length) (h1 : Sv.cutS t = none) : Sv.heldOfS t = (12, []) := by
  unfold Sv.heldOfS; rw [if_neg h, h1]
theorem heldOf_read {t b : List UInt8} (h : ¬ 6000 < t.length) (h1 : Sv.cutS t = some b) (h2 : Sv.readR b = none) : Sv.heldOfS t = (4, []) := by
  unfold Sv.heldOfS; rw [if_neg h, h1]; dsimp only; rw [h2]
theorem heldOf_some {t b : List UInt8} {hs : List Hd} (h : ¬ 6000 < t.length) (h1 : Sv.cutS t = some b) (h2 : Sv.readR b = some hs) : Sv.heldOfS t = if heldF hs = 0 ∧ heldTxt hs = t then (0, hs) else (4, []) := by
  unfold Sv.heldOfS; rw [if_neg h, h1]; dsimp only; rw [h2]
theorem cutS_no {t : List UInt8} {i : Nat} (h : Sv.sumAt t = i) (hn : t.take i ++ sumTxt (t.take i) ≠ t) : Sv.cutS t = none := by
  cases hc : Sv.cutS t with
  | none => rfl
  | some b =>
    exfalso
    have h1 := Sv.cutS_some hc
    have h2 := Sv.sumAt_app b
    rw [← h1, h] at h2
    have h3 : i = b.length := by omega
    refine hn ?_
    have h4 : t.take i = b := by rw [h3, h1]; simp
    rw [h4]; exact h1.symm
theorem stepsR_more {wl : List (List (List UInt8))} {k : Nat} {hs : List Hd} (hk : k < wl.length) (h : Sv.steps Sv.numR Sv.needR [] (wl.take k) = some hs) : Sv.steps Sv.numR Sv.needR [] (wl.take (k + 1)) = Sv.step Sv.numR Sv.needR hs (wl.getD k []) := by
  rw [List.take_succ_eq_append_getElem hk, Sv.steps_app, h, Option.bind_some, show wl.getD k [] = wl[k] by simp [hk]]
  unfold Sv.steps
  cases Sv.step Sv.numR Sv.needR hs wl[k] <;> rfl
theorem stepsR_stop {wl : List (List (List UInt8))} {k : Nat} {hs : List Hd} (hk : k < wl.length) (h : Sv.steps Sv.numR Sv.needR [] (wl.take k) = some hs) (hn : Sv.step Sv.numR Sv.needR hs (wl.getD k []) = none) : Sv.steps Sv.numR Sv.needR [] wl = none := by
  rw [← List.take_append_drop k wl, Sv.steps_app, h, Option.bind_some, List.drop_eq_getElem_cons hk, Sv.steps, ← show wl.getD k [] = wl[k] by simp [hk], hn]
theorem stepR_no {hs : List Hd} {ws : List (List UInt8)} (h1 : ¬ Sv.isPod ws = true) (h2 : Sv.isCont ws = true → ¬ 0 < hs.length) : Sv.step Sv.numR Sv.needR hs ws = none := by
  unfold Sv.step
  rw [if_neg h1, if_neg (fun h => h2 h.1 h.2)]
theorem stepR_pod {hs : List Hd} {ws : List (List UInt8)} (hp : wd ws 0 = [112, 111, 100]) (hl : ws.length = 3) : Sv.step Sv.numR Sv.needR hs ws = if gR (wd ws 2) = true then some (hs ++ [⟨⟨⟨(wd ws 1).toArray⟩, nR (wd ws 2), []⟩, []⟩]) else none := by
  unfold Sv.step
  rw [if_pos (isPod_yes hp hl), numR_n]
  cases gR (wd ws 2) <;> rfl
theorem stepR_cont {hs : List Hd} {ws : List (List UInt8)} (hp : wd ws 0 = [99, 111, 110, 116]) (hl : ws.length = 9) (h0 : 0 < hs.length) : Sv.step Sv.numR Sv.needR hs ws = (Sv.contOf Sv.numR Sv.needR ws).map fun x => Sv.addCont hs x.1 x.2 := by
  obtain ⟨h1, h2⟩ := isCont_yes hp hl
  unfold Sv.step
  rw [if_neg (by rw [h2]; simp), if_pos ⟨h1, h0⟩]
def wordsR (b : List UInt8) : List (List (List UInt8)) := (splitC 10 b).dropLast.map (splitC 32)
theorem readR_words (b : List UInt8) : Sv.readR b = Sv.steps Sv.numR Sv.needR [] (wordsR b) := rfl
theorem wordsR_len (b : List UInt8) : (wordsR b).length + 1 = (splitC 10 b).length := by
  unfold wordsR
  have : 0 < (splitC 10 b).length := List.length_pos_iff.2 (Ost.splitC_ne 10 b)
  simp; omega
theorem wordsR_at {b : List UInt8} {k : Nat} (hk : k < (wordsR b).length) : (wordsR b).getD k [] = splitC 32 (wd (splitC 10 b) k) := by
  have h2 := wordsR_len b
  have h3 : k < (splitC 10 b).dropLast.length := by unfold wordsR at hk; simpa using hk
  have h4 : k < (splitC 10 b).length := by omega
  unfold wordsR
  rw [List.getD_eq_getElem?_getD, List.getElem?_map, List.getElem?_eq_getElem h3]
  simp [wd, h4, List.getElem_dropLast]
set_option maxRecDepth 100000 in
set_option maxHeartbeats 16000000 in
theorem heldOf_any (t : List UInt8) (w : World) (ht : t.length ≤ 1000000) : Calls Tryz.prog 19 #[.string ⟨t.toArray⟩] w (HeldOfOut w t) := by
  by_cases h0 : 6000 < t.length
  · have HO := hideIt (heldOf_long h0)
    have hx : decide ((6000 : Int) < (t.length : Int)) = true := by simp; omega
    go_enter Tryz.func19, Tryz.ntmps19
    go_wp2_with fail
    go_ret2
    exact HeldOfOut.fail HO.out (Below.refl _ _)
  · have H6 := hideIt h0
    have hx : ¬ (6000 < t.length) := h0
    go_enter Tryz.func19, Tryz.ntmps19
    go_wp2_with fail
    go_loopw [4, 5] (fun a i wr => ∃ k : Nat, k ≤ t.length - 3 ∧ i = .int .i64 k ∧ a = .int .i64 (Lib.lastOcc t Sv.sumW k) ∧ wr = w) (fun _ i _ => t.length - 3 - (intOf i).toNat)
    case atStart => exact ⟨0, by omega, rfl, rfl, rfl⟩
    case round =>
      obtain ⟨k, hk, rfl, rfl, rfl⟩ := hrel
      by_cases hlt : k < t.length - 3
      · have h4 : k + 4 ≤ t.length := by omega
        have hq := occ_bytes t k
        rcases two (Lib.occAt t Sv.sumW k) with ho | ho
        · have HL := hideIt (Lib.lastOcc_hit t Sv.sumW k ho)
          rw [ho] at hq
          clear ho
          generalize Lib.lastOcc t Sv.sumW k = a at *
          go_wp2_with fail
          go_roundw
          case rel => exact ⟨k + 1, by omega, by go_num, by rw [HL.out], by first | rfl | trivial⟩
          case measure => simp [intOf]; omega
        · have HL := hideIt (Lib.lastOcc_miss t Sv.sumW k ho)
          rw [ho] at hq
          clear ho
          go_wp2_with fail
          go_roundw
          case rel => exact ⟨k + 1, by omega, by go_num, by rw [HL.out], by first | rfl | trivial⟩
          case measure => simp [intOf]; omega
      · have hke : k = t.length - 3 := by omega
        have h4 : ¬ k + 4 ≤ t.length := by omega
        have HS := hideIt (Sv.sumAt_spec t)
        have HE : Hid (Lib.lastOcc t Sv.sumW k = Sv.sumAt t) := by unfold Hid; rw [hke]; exact sum_last t
        rw [HE.out]
        clear hke hlt HE
        rcases HS.out with ⟨hm, _⟩ | ⟨i, hi, hi4, _, _⟩
        · have HO := hideIt (heldOf_sum H6.out (show Sv.cutS t = none by unfold Sv.cutS; rw [if_neg (by rw [hm]; decide)]))
          rw [hm]
          clear hm
          go_wp2_with fail
          go_ret2
          exact HeldOfOut.fail HO.out (Below.refl _ _)
        · rw [hi]
          have HI := hideIt hi
          have HTB := hideIt (take_bytes t i)
          have hil : i ≤ t.length := by omega
          clear hi
          have hbl : (t.take i).length ≤ 6000 := by rw [List.length_take]; omega
          have HCN := hideIt (cutS_no HI.out)
          have HCY : Hid (t.take i ++ sumTxt (t.take i) = t → Sv.cutS t = some (t.take i)) := fun h => Sv.cutS_iff.2 h.symm
          generalize t.take i = b at *
          clear HS
          go_wp2_with fail
          rw [HTB.out]
          refine (summed_any b _ (by omega)).mono ?_
          rintro e W1 ⟨rfl, hb1⟩
          have HB1 := hideIt hb1
          clear hb1
          by_cases he : b ++ sumTxt b = t
          · have HC := hideIt (HCY.out he)
            rw [he]
            clear he HCN HCY
            go_wp2_with fail
            rw [HTB.out]
            refine (S1.wordsC 10 10 rfl ⟨b.toArray⟩ W1 (by show b.length ≤ _; omega)).mono ?_
            rintro e W0 ⟨v7, rfl, hrw, hb0⟩
            rw [show (ByteArray.mk b.toArray).data.toList = b by simp] at hrw
            have hp0 : 0 < (splitC 10 b).length := List.length_pos_iff.2 (Ost.splitC_ne 10 b)
            have hpl := S1.splitC_len 10 b
            have HPM : Hid (∀ x ∈ splitC 10 b, x.length ≤ 10000) := fun x hx => by have := S1.splitC_mem 10 b x hx; omega
            have HWL := wordsR_len b
            have HWA : Hid (∀ k, k < (wordsR b).length → (wordsR b).getD k [] = splitC 32 (wd (splitC 10 b) k)) := fun k hk => wordsR_at hk
            have HRW := hideIt (readR_words b)
            generalize wordsR b = wl at *
            generalize splitC 10 b = rows at *
            obtain ⟨g7, c7, rfl, hg7, hst⟩ := strs_atV hrw hp0
            have HST := hideIt hst
            have HB0 := hideIt (HB1.out.trans (hb0.mono HB1.out.size))
            have HFN : Hid (Sv.readR b = none → Sv.heldOfS t = (4, [])) := fun h => heldOf_read H6.out HC.out h
            clear hrw hst hb0 HB1 hp0
            go_wp2_with fail
            go_loopw [6, 8] (fun v i wr => ∃ (k : Nat) (hs : List Hd), k ≤ wl.length ∧ i = .int .i64 k ∧ SomeQ wr W0.heap.size v hs ∧ Sv.steps Sv.numR Sv.needR [] (wl.take k) = some hs ∧ hs.length ≤ k ∧ (∀ h ∈ hs, h.pod.cs.length ≤ k ∧ h.gs.length ≤ k) ∧ Below W0.heap.size W0 wr) (fun _ i _ => wl.length - (intOf i).toNat)
            case atStart => exact ⟨0, [], by omega, rfl, .inl ⟨rfl, rfl⟩, rfl, Nat.le_refl _, fun h hh => (List.not_mem_nil hh).elim, Below.refl _ _⟩
            case round =>
              obtain ⟨k, hs, hk, rfl, hsq, hsteps, hhl, hbd, hbel⟩ := hrel
              have HBD := hideIt hbd
              have HSQ := hideIt hsq
              have HST2 := hideIt hsteps
              have HBW := hideIt (HB0.out.trans (hbel.mono HB0.out.size))
              have HBL := hideIt hbel
              have hszB := hbel.size
              obtain ⟨va, vc, hv⟩ := hsq.slice
              subst hv
              by_cases hlt : k < wl.length
              · have hrk : k + 1 < rows.length := by omega
                have c7k := (HST.out.below hbel).2 k (by omega)
                have hxl := HPM.out (wd rows k) (wd_mem (by omega))
                have HSM := hideIt (stepsR_more hlt hsteps)
                have HSN : Hid (Sv.step Sv.numR Sv.needR hs (wl.getD k []) = none → Sv.heldOfS t = (4, [])) := fun hn => HFN.out (by rw [HRW.out]; exact stepsR_stop hlt hsteps hn)
                rw [HWA.out k hlt] at HSM HSN
                clear hbd hsq hsteps hbel
                have HW9 := hideIt (S1.wordsC 32 32 rfl ⟨(wd rows k).toArray⟩ wr (by show (wd rows k).length ≤ _; omega))
                rw [show (ByteArray.mk (wd rows k).toArray).data.toList = wd rows k by simp] at HW9
                have hwne : 0 < (splitC 32 (wd rows k)).length := List.length_pos_iff.2 (Ost.splitC_ne 32 _)
                have HWM : Hid (∀ y ∈ splitC 32 (wd rows k), y.length ≤ 10000) := fun y hy => by have := S1.splitC_mem 32 _ y hy; omega
                generalize splitC 32 (wd rows k) = ws at *
                generalize wd rows k = x at *
                go_wp2_with fail
                refine HW9.out.mono ?_
                rintro e W1 ⟨v9, rfl, hr9, hb9⟩
                obtain ⟨g9, c9, rfl, hg9, hs9⟩ := strs_atV hr9 hwne
                have HS9 := hideIt hs9
                have HB9 := hideIt hb9
                have HSQ9 := hideIt (HSQ.out.apart (Apart.of_below (K := fun _ => False) hb9) (fun j hj => hj.elim))
                have HBW9 := hideIt (HBW.out.trans (hb9.mono HBW.out.size))
                have HBL9 := hideIt (HBL.out.trans (hb9.mono HBL.out.size))
                have hsz9 := hb9.size
                have s0 := hs9.2 0 hwne
                clear hr9 hs9 hb9 HW9 HBL HBW HSQ
                have q0 := pod_eq (wd ws 0)
                have q1 := cont_eq (wd ws 0)
                by_cases hl3 : ws.length = 3
                · by_cases hp : wd ws 0 = [112, 111, 100]
                  · have HSP := hideIt (stepR_pod (hs := hs) hp hl3)
                    have q0' : (wd ws 0 == [112, 111, 100]) = true := by simp [hp]
                    have s1 := HS9.out.2 1 (by omega)
                    have s2 := HS9.out.2 2 (by omega)
                    have hyl := HWM.out (wd ws 2) (wd_mem (by omega))
                    have HN := hideIt (number_ref ⟨(wd ws 2).toArray⟩ W1 (by unfold maxLen; show (wd ws 2).length ≤ _; omega))
                    rw [show (ByteArray.mk (wd ws 2).toArray).data.toList = wd ws 2 by simp] at HN
                    rw [hl3]
                    obtain ⟨ys, hrow, hpush⟩ := HSQ9.out.push
                    have HPU := hideIt hpush
                    obtain ⟨i0, hi0, hz0, hz1, hz2⟩ := info_parts infoHeldV
                    clear hpush q0 q1 hl3 hp
                    generalize hx0 : wd ws 0 = x0 at *
                    generalize hnm : ByteArray.mk (wd ws 1).toArray = nm at *
                    generalize nR (wd ws 2) = pr at *
                    generalize gR (wd ws 2) = gx at *
                    generalize hhn : hs.length = hn at *
                    have hhn' : hn ≤ 10000 := by omega
                    have HHN := hideIt hhn
                    clear hhn
                    go_wp2_with fail
                    refine HN.out.mono ?_
                    rintro e w2 ⟨rfl, rfl⟩
                    have hnew := new_held w2 nm pr 67
                    have HNW := hideIt hnew
                    clear hnew
                    have hbs : W0.heap.size ≤ (w2.alloc (.cells #[.string nm, .int .i64 pr, .slice none 0 0, .slice none 0 0] 67)).heap.size := by simp; omega
                    cases gx
                    · go_wp2_with (at_builtin; refine wpList_append_own_at _ rfl _ _ 22 rfl W0.heap.size 67 i0 _ 4 72 Tryz.underlying22 hi0 hz0 hz1 hz2 rfl (by decide) _ _ _ rfl (hrow.alloc _) ⟨_, 0, none⟩ 1 1 (hCells ⟨nm, pr, [], [], .slice none 0 0, .slice none 0 0⟩) rfl rfl HNW.out (hCells_one nm pr) (by unfold maxLen; omega) (by omega) hbs ?_; intro v' W4 hown' hgrow' _ hat'; obtain ⟨na, nc, rfl⟩ := own_slice hown'; have hg2 : (w2.alloc (.cells #[.string nm, .int .i64 pr, .slice none 0 0, .slice none 0 0] 67)).grownBy W4 (Value.slice va hn vc).ownBlock := hgrow'; have hat2 : (Value.slice na (hn + 1) nc).ownBlock = (Value.slice va hn vc).ownBlock ∨ (Value.slice na (hn + 1) nc).ownBlock = some (w2.alloc (.cells #[.string nm, .int .i64 pr, .slice none 0 0, .slice none 0 0] 67)).heap.size := hat'; clear hgrow' hat'; have hapr := row_apart hrow hg2)
                      go_ret2
                      exact HeldOfOut.fail (HSN.out (by rw [HSP.out]; rfl)) (hapr.below HBW9.out (Nat.le_refl _) (fun j hj => Nat.le_trans HB0.out.size hj))
                    · go_wp2_with (at_builtin; refine wpList_append_own_at _ rfl _ _ 22 rfl W0.heap.size 67 i0 _ 4 72 Tryz.underlying22 hi0 hz0 hz1 hz2 rfl (by decide) _ _ _ rfl (hrow.alloc _) ⟨_, 0, none⟩ 1 1 (hCells ⟨nm, pr, [], [], .slice none 0 0, .slice none 0 0⟩) rfl rfl HNW.out (hCells_one nm pr) (by unfold maxLen; omega) (by omega) hbs ?_; intro v' W4 hown' hgrow' _ hat'; obtain ⟨na, nc, rfl⟩ := own_slice hown'; have hg2 : (w2.alloc (.cells #[.string nm, .int .i64 pr, .slice none 0 0, .slice none 0 0] 67)).grownBy W4 (Value.slice va hn vc).ownBlock := hgrow'; have hat2 : (Value.slice na (hn + 1) nc).ownBlock = (Value.slice va hn vc).ownBlock ∨ (Value.slice na (hn + 1) nc).ownBlock = some (w2.alloc (.cells #[.string nm, .int .i64 pr, .slice none 0 0, .slice none 0 0] 67)).heap.size := hat'; clear hgrow' hat'; have hapr := row_apart hrow hg2)
                      go_roundw
                      case rel => exact ⟨k + 1, _, by omega, by go_num, HPU.out _ _ _ nm pr hg2 hown' hat2, by rw [HSM.out, HSP.out]; rfl, by rw [List.length_append, HHN.out]; simp; omega, bd_pod HBD.out, hapr.below HBL9.out (Nat.le_refl _) (fun j hj => hj)⟩
                      case measure => simp [intOf]; omega
                  · have HO := hideIt (HSN.out (stepR_no (by simp [Sv.isPod, hp]) (fun h => by simp [Sv.isCont, hl3] at h)))
                    have q0' : (wd ws 0 == [112, 111, 100]) = false := by simp [hp]
                    rw [hl3]
                    clear q0 q1 hp hl3
                    go_wp2_with fail
                    go_ret2
                    exact HeldOfOut.fail HO.out HBW9.out
                · have hl3' : ((ws.length : Int) == 3) = false := by simp; omega
                  have hl3'' : ¬ ((ws.length : Int) = 3) := by omega
                  by_cases hl9 : ws.length = 9
                  · by_cases hc : wd ws 0 = [99, 111, 110, 116]
                    · by_cases h0 : 0 < hs.length
                      · have HSC := hideIt (stepR_cont (hs := hs) hc hl9 h0)
                        have HRC := hideIt (contOf_any g9 c9 ws W1 HS9.out hl9 HWM.out)
                        have q1' : (wd ws 0 == [99, 111, 110, 116]) = true := by simp [hc]
                        rw [hl9]
                        rcases HSQ9.out with ⟨h1, _⟩ | ⟨el, la, hq1, hseq⟩
                        · rw [h1] at h0; simp at h0
                        have hlen2 : hs.length = el.length + 1 := by rw [hseq]; simp
                        have HSE := hideIt hseq
                        have HCB : Hid (la.cl.length ≤ 100000 ∧ la.gl.length ≤ 100000) := by
                          have hb := HBD.out la.hd (by rw [HSE.out]; simp)
                          simp only [Hp.hd, List.length_map] at hb
                          exact ⟨by omega, by omega⟩
                        have HNOX : Hid (okR ws = false → Sv.heldOfS t = (4, [])) := fun hok => HSN.out (by rw [HSC.out, contR_no hok]; rfl)
                        have HYX : Hid (∀ c g, Sv.contOf Sv.numR Sv.needR ws = some (c, g) → Sv.steps Sv.numR Sv.needR [] (wl.take (k + 1)) = some (Sv.addCont hs c g)) := fun c g hcg => by rw [HSM.out, HSC.out, hcg]; rfl
                        clear hseq HSM HSN HSC q0 q1 hl3 hl9 hc h0
                        unfold ReadsContR at HRC
                        generalize hx0 : wd ws 0 = x0 at *
                        generalize ByteArray.mk (wd ws 1).toArray = nm at *
                        generalize nR (wd ws 2) = n2 at *
                        generalize nR (wd ws 3) = n3 at *
                        generalize nR (wd ws 4) = n4 at *
                        generalize nR (wd ws 5) = n5 at *
                        generalize okR ws = okx at *
                        have hlk : el.length + 1 ≤ 10000 := by omega
                        have HLK : Hid (el.length + 1 ≤ k) := by unfold Hid; omega
                        generalize hs.length = hn at *
                        subst hlen2
                        obtain ⟨m, mcap, hv, hmc, hmx, hmlt, hmb, _⟩ := row_form hq1.row (by omega)
                        cases hv
                        obtain ⟨ca, cc, hcv, _, _⟩ := row_cap hq1.hla.rc
                        obtain ⟨ga, gc, hgv, _, _⟩ := row_cap hq1.hla.rg
                        have HQ1 := hideIt hq1
                        have HFR : Hid (∀ b, W1.heap.size ≤ b → Free W0.heap.size (.slice (some ⟨m, 0, none⟩) (el.length + 1) vc) la b) := fun b hb => ⟨by omega, fun e => by have e2 : some m = some b := e; injection e2 with e2; omega, fun e => by have := (HQ1.out.hla.rc.lt b e).2; omega, fun e => by have := (HQ1.out.hla.rg.lt b e).2; omega⟩
                        clear hq1
                        go_wp2_with fail
                        refine HRC.out.mono ?_
                        rintro e W2 ⟨nv, dv, cp, ds, dvs, rfl, hcp, hyes, hnd, hdd, ⟨na, nn, nc, rfl, hna⟩, ⟨ea, en, ec, rfl, hea⟩, hb2⟩
                        have HYS : Hid (okx = true → Sv.steps Sv.numR Sv.needR [] (wl.take (k + 1)) = some (Sv.addCont hs ⟨nm, n2, n3, n4, n5, ds⟩ ⟨cp, dvs⟩)) := fun h => HYX.out _ _ (hyes h)
                        have hap4 : Apart (fun _ => False) W1 ((W2.alloc (.cells #[.string nm, .int .i64 n2, .int .i64 n3, .int .i64 n4, .int .i64 n5, .slice na nn nc] 56)).alloc (.cells #[.int .u64 cp, .slice ea en ec] 64)) := ((Apart.of_below hb2).trans (Apart.alloc _ _ _)).trans (Apart.alloc _ _ _)
                        have hw2 := hb2.size
                        have hsz4 := Nat.lt_of_lt_of_le hmlt hap4.size
                        have hq := heldQ_apart HQ1.out hap4 (fun j hj => hj.elim)
                        have HQ := hideIt hq
                        have hb24 : Below W2.heap.size W2 ((W2.alloc (.cells #[.string nm, .int .i64 n2, .int .i64 n3, .int .i64 n4, .int .i64 n5, .slice na nn nc] 56)).alloc (.cells #[.int .u64 cp, .slice ea en ec] 64)) := ((Below.refl _ _).alloc (Nat.le_refl _) _).alloc (by simp) _
                        have HNQ := hideIt (NeedsQ.of (Q := Free W0.heap.size (.slice (some ⟨m, 0, none⟩) (el.length + 1) vc) la) (hnd.below hb24) ⟨_, _, _, rfl, hna⟩ (fun b hb _ => HFR.out b hb))
                        have HDQ := hideIt (IntsQ.of (Q := Free W0.heap.size (.slice (some ⟨m, 0, none⟩) (el.length + 1) vc) la) (hdd.below hb24) ⟨_, _, _, rfl, hea⟩ (fun b hb _ => HFR.out b hb))
                        have r2 : ((W2.alloc (.cells #[.string nm, .int .i64 n2, .int .i64 n3, .int .i64 n4, .int .i64 n5, .slice na nn nc] 56)).alloc (.cells #[.int .u64 cp, .slice ea en ec] 64)).cell? ⟨m, el.length * 4 + 2, none⟩ = some la.cv := held_cell hq (j := 2) (by omega)
                        have fz2 := hq.row.frozenAt (el.length * 4 + 2)
                        rw [hcv] at r2
                        have e0 : ((W2.alloc (.cells #[.string nm, .int .i64 n2, .int .i64 n3, .int .i64 n4, .int .i64 n5, .slice na nn nc] 56)).alloc (.cells #[.int .u64 cp, .slice ea en ec] 64)).cell? ⟨W2.heap.size, 0, none⟩ = some (.string nm) := by simp
                        have e1 : ((W2.alloc (.cells #[.string nm, .int .i64 n2, .int .i64 n3, .int .i64 n4, .int .i64 n5, .slice na nn nc] 56)).alloc (.cells #[.int .u64 cp, .slice ea en ec] 64)).cell? ⟨W2.heap.size, 1, none⟩ = some (.int .i64 n2) := by simp
                        have e2 : ((W2.alloc (.cells #[.string nm, .int .i64 n2, .int .i64 n3, .int .i64 n4, .int .i64 n5, .slice na nn nc] 56)).alloc (.cells #[.int .u64 cp, .slice ea en ec] 64)).cell? ⟨W2.heap.size, 2, none⟩ = some (.int .i64 n3) := by simp
                        have e3 : ((W2.alloc (.cells #[.string nm, .int .i64 n2, .int .i64 n3, .int .i64 n4, .int .i64 n5, .slice na nn nc] 56)).alloc (.cells #[.int .u64 cp, .slice ea en ec] 64)).cell? ⟨W2.heap.size, 3, none⟩ = some (.int .i64 n4) := by simp
                        have e4 : ((W2.alloc (.cells #[.string nm, .int .i64 n2, .int .i64 n3, .int .i64 n4, .int .i64 n5, .slice na nn nc] 56)).alloc (.cells #[.int .u64 cp, .slice ea en ec] 64)).cell? ⟨W2.heap.size, 4, none⟩ = some (.int .i64 n5) := by simp
                        have e5 : ((W2.alloc (.cells #[.string nm, .int .i64 n2, .int .i64 n3, .int .i64 n4, .int .i64 n5, .slice na nn nc] 56)).alloc (.cells #[.int .u64 cp, .slice ea en ec] 64)).cell? ⟨W2.heap.size, 5, none⟩ = some (.slice na nn nc) := by simp
                        have hrc := hq.hla.rc
                        rw [hcv] at hrc
                        have HRCW := hideIt hrc
                        have hne2 : (Value.slice ca la.cl.length cc).ownBlock ≠ some m := fun e => HQ1.out.vc m (by rw [hcv]; exact e) rfl
                        have hcln : la.cl.length ≤ 100000 := HCB.out.1
                        have HBS : Hid (W0.heap.size ≤ ((W2.alloc (.cells #[.string nm, .int .i64 n2, .int .i64 n3, .int .i64 n4, .int .i64 n5, .slice na nn nc] 56)).alloc (.cells #[.int .u64 cp, .slice ea en ec] 64)).heap.size) := Nat.le_trans hmb (Nat.le_of_lt hsz4)
                        have HCP := hideIt hcp
                        have HAP4 := hideIt hap4
                        clear hrc hb24 hq hnd hdd hna hea hb2 hyes hcp HRC HYX hap4
                        go_wp2_with fail
                        refine wp_normalAtV (HeldOfR26_in (c := ⟨nm, n2, n3, n4, n5, ds⟩) (base := W0.heap.size) ((W2.alloc (.cells #[.string nm, .int .i64 n2, .int .i64 n3, .int .i64 n4, .int .i64 n5, .slice na nn nc] 56)).alloc (.cells #[.int .u64 cp, .slice ea en ec] 64)) r2 fz2 e0 e1 e2 e3 e4 e5 HRCW.out HBS.out hcln hsz4 hne2) ?_
                        rintro _ W5 ⟨F, rfl, g, cap, W6, rfl, hr6, hg6, hat6⟩
                        dsimp only
                        have hfree : Free W0.heap.size (.slice (some ⟨m, 0, none⟩) (el.length + 1) vc) la (W2.heap.size + 1) := HFR.out _ (by omega)
                        obtain ⟨la2, hla2, hq5, hd5, hap5, hbl5⟩ := cont_mid HQ.out HNQ.out HDQ.out hcv hg6 hr6 hat6 hfree (by simp)
                        have e6 : ((W2.alloc (.cells #[.string nm, .int .i64 n2, .int .i64 n3, .int .i64 n4, .int .i64 n5, .slice na nn nc] 56)).alloc (.cells #[.int .u64 cp, .slice ea en ec] 64)).cell? ⟨W2.heap.size + 1, 0, none⟩ = some (.int .u64 cp) := by simp
                        have e7 : ((W2.alloc (.cells #[.string nm, .int .i64 n2, .int .i64 n3, .int .i64 n4, .int .i64 n5, .slice na nn nc] 56)).alloc (.cells #[.int .u64 cp, .slice ea en ec] 64)).cell? ⟨W2.heap.size + 1, 1, none⟩ = some (.slice ea en ec) := by simp
                        replace e6 := (World.cell?_of_block (a := ⟨W2.heap.size + 1, 0, none⟩) hbl5).trans e6
                        replace e7 := (World.cell?_of_block (a := ⟨W2.heap.size + 1, 1, none⟩) hbl5).trans e7
                        have hgv2 : la2.gv = .slice ga la.gl.length gc := by rw [hla2]; exact hgv
                        have hgl2 : la2.gl = la.gl := by rw [hla2]
                        have HQ5 := hideIt hq5
                        have HD5 := hideIt hd5
                        have HAP5 := hideIt (HAP4.out.wide (K' := fun j => W0.heap.size ≤ j) (fun _ h => h.elim) |>.trans hap5)
                        have hsz5 := Nat.lt_of_lt_of_le hsz4 hap5.size
                        have r3 := held_cell hq5 (j := 3) (by omega)
                        have r3' : (hCells la2)[3]? = some la2.gv := rfl
                        rw [r3', hgv2] at r3
                        have fz3 := hq5.row.frozenAt (el.length * 4 + 3)
                        have hrg := hq5.hla.rg
                        rw [hgl2, hgv2] at hrg
                        have HRG := hideIt hrg
                        have hne3 : (Value.slice ga la.gl.length gc).ownBlock ≠ some m := fun e => hq5.vg m (by rw [hgv2]; exact e) rfl
                        have hgln : la.gl.length ≤ 100000 := HCB.out.2
                        have HBS5 := hideIt (Nat.le_trans HBS.out hap5.size)
                        clear hq5 hd5 hap5 hbl5 hrg hr6 hg6 hat6 r2 fz2 e0 e1 e2 e3 e4 e5 r3' hne2 hcln hfree
                        generalize World.setCell W6 ⟨m, el.length * 4 + 2, none⟩ (.slice (some ⟨g, 0, none⟩) (la.cl.length + 1) cap) = W5 at *
                        go_wp2_with fail
                        refine wp_normalAtV (HeldOfR27_in (c := ⟨cp, dvs⟩) (base := W0.heap.size) W5 r3 fz3 e6 e7 HRG.out HBS5.out hgln hsz5 hne3) ?_
                        rintro _ W7 ⟨F2, rfl, g2, cap2, W8, rfl, hr8, hg8, hat8⟩
                        dsimp only
                        obtain ⟨hsq8, hlen8, hbd8, hap8⟩ := cont_end hla2 HQ5.out HD5.out HCP.out hgv2 hg8 hr8 hat8 HSE.out HBD.out
                        have HSQ8 := hideIt hsq8
                        have HBD8 := hideIt hbd8
                        have HAB := hideIt (HAP5.out.trans hap8)
                        have HL8 := hideIt hlen8
                        clear hsq8 hbd8 hr8 hg8 hat8 r3 fz3 e6 e7 hap8 hlen8
                        generalize World.setCell W8 ⟨m, el.length * 4 + 3, none⟩ (.slice (some ⟨g2, 0, none⟩) (la.gl.length + 1) cap2) = W9 at *
                        cases okx
                        · have HO := hideIt (HNOX.out rfl)
                          go_wp2_with fail
                          go_ret2
                          exact HeldOfOut.fail HO.out (HAB.out.below HBW9.out (Nat.le_refl _) (fun j hj => Nat.le_trans HB0.out.size hj))
                        · have HY := hideIt (HYS.out rfl)
                          go_wp2_with fail
                          go_roundw
                          case rel => exact ⟨k + 1, _, by omega, by go_num, HSQ8.out, HY.out, by rw [HL8.out]; exact Nat.le_succ_of_le HLK.out, HBD8.out, HAB.out.below HBL9.out (Nat.le_refl _) (fun j hj => hj)⟩
                          case measure => simp [intOf]; omega
                      · have HO := hideIt (HSN.out (stepR_no (by simp [Sv.isPod, hl9]) (fun _ => h0)))
                        have h0' : hs.length = 0 := by omega
                        have q1' : (wd ws 0 == [99, 111, 110, 116]) = true := by simp [hc]
                        rw [hl9]
                        clear q0 q1 hl3 hl3' hl3''
                        go_wp2_with fail
                        go_ret2
                        exact HeldOfOut.fail HO.out HBW9.out
                    · have HO := hideIt (HSN.out (stepR_no (by simp [Sv.isPod, hl9]) (fun h => by simp [Sv.isCont, hc] at h)))
                      have q1' : (wd ws 0 == [99, 111, 110, 116]) = false := by simp [hc]
                      rw [hl9]
                      clear q0 q1 hl3 hl3' hl3''
                      go_wp2_with fail
                      go_ret2
                      exact HeldOfOut.fail HO.out HBW9.out
                  · have HO := hideIt (HSN.out (stepR_no (by simp [Sv.isPod, hl3]) (fun h => by simp [Sv.isCont, hl9] at h)))
                    have hl9' : ((ws.length : Int) == 9) = false := by simp; omega
                    have hl9'' : ¬ ((ws.length : Int) = 9) := by omega
                    clear q0 q1 hl3 hl9
                    go_wp2_with fail
                    go_ret2
                    exact HeldOfOut.fail HO.out HBW9.out
              · have hke : k = wl.length := by omega
                have hrk : ¬ k + 1 < rows.length := by omega
                have HRD : Hid (Sv.readR b = some hs) := by unfold Hid; rw [HRW.out, ← HST2.out, hke, List.take_length]
                have HOS := hideIt (heldOf_some H6.out HC.out HRD.out)
                have HPL := hideIt HSQ.out.plain
                clear hke hlt hbd hsq hsteps hbel
                by_cases hf : heldF hs = 0
                · have HF := hideIt hf
                  have HHF := hideIt (heldFault_of podFaultR _ hs wr HPL.out)
                  rw [hf] at HHF
                  clear hf
                  go_wp2_with fail
                  refine HHF.out.mono ?_
                  rintro e W2 ⟨rfl, hb2⟩
                  have HPL2 := hideIt (HPL.out.below hb2)
                  have HB2 := hideIt (HBW.out.trans (hb2.mono HBW.out.size))
                  clear hb2
                  go_wp2_with fail
                  refine (heldText_any _ hs W2 HPL2.out (Sv.okL_of HF.out HPL2.out.cps)).mono ?_
                  rintro e W3 ⟨rfl, hb3⟩
                  have HPL3 := hideIt (HPL2.out.below hb3)
                  have HB3 := hideIt (HB2.out.trans (hb3.mono HB2.out.size))
                  clear hb3
                  by_cases htx : heldTxt hs = t
                  · have HT := hideIt htx
                    rw [htx]
                    clear htx
                    go_wp2_with fail
                    go_ret2
                    exact ⟨_, by rw [HOS.out, if_pos ⟨HF.out, HT.out⟩]; rfl, by rw [HOS.out, if_pos ⟨HF.out, HT.out⟩]; exact HPL3.out, HB3.out⟩
                  · have HT := hideIt htx
                    have hne : (heldTxt hs == t) = false := by simpa using htx
                    generalize heldTxt hs = z at *
                    clear htx
                    go_wp2_with fail
                    go_ret2
                    exact HeldOfOut.fail (by rw [HOS.out, if_neg (fun h => HT.out h.2)]) HB3.out
                · have HO : Hid (Sv.heldOfS t = (4, [])) := by unfold Hid; rw [HOS.out, if_neg (fun h => hf h.1)]
                  have HHF := hideIt (heldFault_of podFaultR _ hs wr HPL.out)
                  clear HOS
                  generalize heldF hs = f at *
                  have hp : decide ((0 : Int) < (f : Int)) = true := decide_eq_true (by omega)
                  have hp' : 0 < f := by omega
                  clear hf
                  go_wp2_with fail
                  refine HHF.out.mono ?_
                  rintro e W2 ⟨rfl, hb2⟩
                  have HB2 := hideIt (HBW.out.trans (hb2.mono HBW.out.size))
                  clear hb2
                  go_wp2_with fail
                  go_ret2
                  exact HeldOfOut.fail HO.out HB2.out
          · have HO := hideIt (heldOf_sum H6.out (HCN.out he))
            have hne : ((b ++ sumTxt b) == t) = false := by simpa using he
            generalize b ++ sumTxt b = z at *
            clear he HCN HCY
            go_wp2_with fail
            go_ret2
            exact HeldOfOut.fail HO.out HB1.out
end Go.Proofs.YtlljniaobbbjgaaGreatDoor

namespace Go.Proofs.YtlljniaobbbjgaaGreatDoor
open Go.RowKit Go.Shelf
open Qos (Nd Ct Pd nd ct pd podF)
open Sv (Gv Hd gv hd wd Tx sumTxt heldTxt heldF body readS OkL)
open S1 (Mx Tab)
attribute [local go_sem] Oper.semAt_some
theorem errV_or (n : Nat) : (n = 0 ∧ errV ((n : Nat) : Int) = .nilIface) ∨ (0 < n ∧ errV ((n : Nat) : Int) = .iface 80 (.int .i64 n)) := by
  by_cases h : n = 0
  · subst h; exact .inl ⟨rfl, rfl⟩
  · exact .inr ⟨by omega, by unfold errV; rw [if_neg (by omega)]⟩
theorem wrapX (n : Nat) (h : n < 4294967296) : IntKind.i64.wrap (n : Int) = n := by
  simp [IntKind.wrap, IntKind.bits, IntKind.signed]
  omega
/-- What one text is read as, by both. -/
theorem both_read (tt : List UInt8) (w : World) (ht : tt.length ≤ 1000000) (htab : TabUp w) (hm : Mx w) : ∃ (n : Nat) (hs : List Hd), Calls Tryz.prog 16 #[.string ⟨tt.toArray⟩] w (fun e w' => ∃ a c, e = .returned (.tuple #[.slice a hs.length c, errV ((n : Nat) : Int)]) ∧ HldsAt w' (.slice a hs.length c) hs ∧ Below w.heap.size w w') ∧
    ∀ w2, Calls Tryz.prog 19 #[.string ⟨tt.toArray⟩] w2 (fun e w' => ∃ a c, e = .returned (.tuple #[.slice a hs.length c, .int .i64 (n : Nat)]) ∧ HldsAt w' (.slice a hs.length c) hs ∧ Below w2.heap.size w2 w') := by
  refine ⟨(Sv.parseS tt).1, (Sv.parseS tt).2, (parse_any tt w ht htab hm).mono ?_, fun w2 => (heldOf_any tt w2 ht).mono ?_⟩
  · rintro e w' ⟨v, rfl, hv, hb⟩
    obtain ⟨a, c, rfl, _, _⟩ := id hv
    exact ⟨a, c, rfl, hv, hb⟩
  · rintro e w' ⟨v, rfl, hv, hb⟩
    rw [Sv.heldOfS_eq] at hv
    obtain ⟨a, c, rfl, _, _⟩ := id hv
    exact ⟨a, c, by rw [Sv.heldOfS_eq], hv, hb⟩
set_option maxRecDepth 100000 in
set_option maxHeartbeats 8000000 in
theorem saveReads_true (ta tb : ByteArray) (w : World) (ht : TabUp w) (hm : Mx w) : Calls Tryz.prog 4 #[.string ta, .string tb] w fun e w' => e = .returned (.bool true) ∧ Below w.heap.size w w' := by
  have HT := hideIt ht
  have HM := hideIt hm
  clear ht hm
  obtain ⟨t, rfl⟩ : ∃ t : List UInt8, ta = ⟨t.toArray⟩ := ⟨ta.data.toList, by cases ta; simp⟩
  obtain ⟨b, rfl⟩ : ∃ t : List UInt8, tb = ⟨t.toArray⟩ := ⟨tb.data.toList, by cases tb; simp⟩
  by_cases h1 : 7000 < t.length
  · go_enter Tryz.func4, Tryz.ntmps4
    go_wp2_with fail
    refine (saves_true w HT.out HM.out).mono ?_
    rintro e w1 ⟨rfl, hb1⟩
    have HB1 := hideIt hb1
    clear hb1
    go_wp2_with fail
    go_ret
    exact ⟨rfl, HB1.out⟩
  · by_cases h2 : 7000 < b.length
    · go_enter Tryz.func4, Tryz.ntmps4
      go_wp2_with fail
      refine (saves_true w HT.out HM.out).mono ?_
      rintro e w1 ⟨rfl, hb1⟩
      have HB1 := hideIt hb1
      clear hb1
      go_wp2_with fail
      go_ret
      exact ⟨rfl, HB1.out⟩
    · have hls : (b ++ sumTxt b).length ≤ 8000 := by have := Sv.sumTxt_le b; rw [List.length_append]; omega
      go_enter Tryz.func4, Tryz.ntmps4
      go_wp2_with fail
      refine (saves_true w HT.out HM.out).mono ?_
      rintro e w1 ⟨rfl, hb1⟩
      have HB1 := hideIt hb1
      clear hb1
      go_wp2_with fail
      refine (summed_any b w1 (by omega)).mono ?_
      rintro e w2 ⟨rfl, hb2⟩
      generalize b ++ sumTxt b = s at *
      have hA := (Below.refl w2.heap.size w2).alloc (Nat.le_refl _) (.cells #[.string ⟨t.toArray⟩, .string ⟨s.toArray⟩] 9)
      have HBA := hideIt ((HB1.out.trans (hb2.mono HB1.out.size)).trans (hA.mono (Nat.le_trans HB1.out.size hb2.size)))
      have HC0 := hideIt (show (w2.alloc (.cells #[.string ⟨t.toArray⟩, .string ⟨s.toArray⟩] 9)).cell? ⟨w2.heap.size, 0, none⟩ = some (.string ⟨t.toArray⟩) by simp)
      have HC1 := hideIt (show (w2.alloc (.cells #[.string ⟨t.toArray⟩, .string ⟨s.toArray⟩] 9)).cell? ⟨w2.heap.size, 1, none⟩ = some (.string ⟨s.toArray⟩) by simp)
      have HSZ := hideIt (show w2.heap.size < (w2.alloc (.cells #[.string ⟨t.toArray⟩, .string ⟨s.toArray⟩] 9)).heap.size by simp)
      clear hb2 hA HB1
      go_wp2_with fail
      generalize (w2.alloc (.cells #[.string ⟨t.toArray⟩, .string ⟨s.toArray⟩] 9)) = W0 at *
      generalize w2.heap.size = gl at *
      go_loopw [7] (fun i wr => ∃ k : Nat, k ≤ 2 ∧ i = .int .i64 k ∧ Below W0.heap.size W0 wr) (fun i _ => 2 - (intOf i).toNat)
      case atStart => exact ⟨0, by omega, rfl, Below.refl _ _⟩
      case round =>
        obtain ⟨k, hk, rfl, hb⟩ := hrel
        have HBw := hideIt (HBA.out.trans (hb.mono HBA.out.size))
        have HB := hideIt hb
        clear hb
        have hcase : k = 0 ∨ k = 1 ∨ k = 2 := by omega
        rcases hcase with rfl | rfl | rfl
        · have c0 := (HB.out.cell (p := ⟨gl, 0, none⟩) HSZ.out).trans HC0.out
          have HCK := HC0
          have htl : t.length ≤ 8000 := by omega
          obtain ⟨n, hs, hpa, hho⟩ := both_read t wr (by omega) (HT.out.below HBw.out) (HM.out.below HBw.out)
          have HPA := hideIt hpa
          have HHOx := hideIt hho
          have HSA := hideIt (fun W => sum_any ⟨t.toArray⟩ W (by unfold maxLen; show t.length ≤ _; omega))
          have HSB := hideIt (fun W => refSum_any ⟨t.toArray⟩ W (by unfold maxLen; show t.length ≤ _; omega))
          dsimp only at HSA HSB
          have hfl := Sv.fnv_lt (ByteArray.mk t.toArray).data.toList
          generalize Sv.fnv (ByteArray.mk t.toArray).data.toList = fn at *
          have hwr : IntKind.i64.wrap (fn : Int) = fn := wrapX fn hfl
          generalize t = tt at *
          clear hpa hho
          go_wp2_with fail
          refine HPA.out.mono ?_
          rintro e W1 ⟨xa, xc, rfl, hx, hb1⟩
          have HX := hideIt hx
          have HB1w := hideIt (HBw.out.trans (hb1.mono HBw.out.size))
          have HB1 := hideIt (HB.out.trans (hb1.mono HB.out.size))
          have c1 := (hb1.cell (p := ⟨gl, 0, none⟩) (Nat.lt_of_lt_of_le HSZ.out HB.out.size)).trans c0
          have HHO := hideIt (HHOx.out W1)
          clear hx hb1 c0
          rcases errV_or n with ⟨rfl, e⟩ | ⟨hn, e⟩
          all_goals rw [e]; clear e
          · go_wp2_with fail
            refine HHO.out.mono ?_
            rintro e W2 ⟨ya, yc, rfl, hy, hb2⟩
            have HY := hideIt hy
            have HX2 := hideIt (HX.out.below hb2)
            have HB2w := hideIt (HB1w.out.trans (hb2.mono HB1w.out.size))
            have HB2 := hideIt (HB1.out.trans (hb2.mono HB1.out.size))
            have HS0 := hideIt (show W2.drew.cell? ⟨gl, 0, none⟩ = some (.string ⟨tt.toArray⟩) from (HB2.out.cell (p := ⟨gl, 0, none⟩) HSZ.out).trans HCK.out)
            have HL2 := hideIt (Nat.lt_of_lt_of_le HSZ.out HB2.out.size)
            clear hy hb2
            go_wp2_with fail
            refine wp_region_held_drew (S := (fun w' => w'.cell? ⟨gl, 0, none⟩ = some (.string ⟨tt.toArray⟩))) (by kernel_rfl) HS0.out (fun hHeld => ?_)
            refine wpAnyH_take (i := 0) (oi := { dst := some 50, op := Op.move (Operand.tmp 9), type := 27, pos := "whole.go:135", after := #[], guard := none }) (v := ?v1x0) rfl (by kernel_rfl) (by kernel_rfl) (by kernel_rfl) (fun _ _ _ h => h) (Or.inl ⟨by rfl, ?h1x0⟩) (by assumption) ?r1x0
            case h1x0 =>
              intro w' hSw
              (try dsimp only at hSw)
              go_simp
              first | done | with_reducible rfl | rfl | (rw [if_neg (by omega)])
            (try simp only [Act.put, List.setIfInBounds_toArray, List.set_cons_zero, List.set_cons_succ])
            refine wpAnyH_take (i := 1) (oi := { dst := some 51, op := Op.move (Operand.tmp 11), type := 3, pos := "whole.go:135", after := #[], guard := none }) (v := ?v2x1) rfl (by kernel_rfl) (by kernel_rfl) (by kernel_rfl) (fun _ _ _ h => h) (Or.inl ⟨by rfl, ?h2x1⟩) (by assumption) ?r2x1
            case h2x1 =>
              intro w' hSw
              (try dsimp only at hSw)
              go_simp
              first | done | with_reducible rfl | rfl | (rw [if_neg (by omega)])
            (try simp only [Act.put, List.setIfInBounds_toArray, List.set_cons_zero, List.set_cons_succ])
            refine wpAnyH_ready (rs := [2]) (by kernel_rfl) (by simp) (AllReadyH.cons rfl (fun K hK => ?_) AllReadyH.nil)
            go_simp
            go_wp2_with fail
            refine (same_zeroV _).mono ?_
            rintro e X1 ⟨rfl, rfl⟩
            go_wp2_with fail
            refine hK.out _ _ HS0.out (fun hHeld => ?_)
            clear hK K
            refine wpAnyH_take (i := 3) (oi := { dst := some 53, op := Op.unOp UnOp.not 4 (Operand.tmp 52), type := 4, pos := "whole.go:135", after := #[{ on := 2, ground := Ground.data }], guard := none }) (v := ?v3x3) rfl (by kernel_rfl) (by kernel_rfl) (by kernel_rfl) (fun _ _ _ h => h) (Or.inl ⟨by rfl, ?h3x3⟩) (by assumption) ?r3x3
            case h3x3 =>
              intro w' hSw
              (try dsimp only at hSw)
              go_simp
              first | done | with_reducible rfl | rfl | (rw [if_neg (by omega)])
            (try simp only [Act.put, List.setIfInBounds_toArray, List.set_cons_zero, List.set_cons_succ])
            refine wpAnyH_take (i := 4) (oi := { dst := some 54, op := Op.move (Operand.tmp 53), type := 4, pos := "whole.go:135", after := #[{ on := 3, ground := Ground.data }, { on := 2, ground := Ground.chain }], guard := none }) (v := ?v4x4) rfl (by kernel_rfl) (by kernel_rfl) (by kernel_rfl) (fun _ _ _ h => h) (Or.inl ⟨by rfl, ?h4x4⟩) (by assumption) ?r4x4
            case h4x4 =>
              intro w' hSw
              (try dsimp only at hSw)
              go_simp
              first | done | with_reducible rfl | rfl | (rw [if_neg (by omega)])
            (try simp only [Act.put, List.setIfInBounds_toArray, List.set_cons_zero, List.set_cons_succ])
            refine wpAnyH_take (i := 5) (oi := { dst := some 55, op := Op.move (Operand.tmp 8), type := 22, pos := "whole.go:135", after := #[{ on := 4, ground := Ground.guard }], guard := some (4, false) }) (v := ?v5x5) rfl (by kernel_rfl) (by kernel_rfl) (by kernel_rfl) (fun _ _ _ h => h) (Or.inl ⟨by rfl, ?h5x5⟩) (by assumption) ?r5x5
            case h5x5 =>
              intro w' hSw
              (try dsimp only at hSw)
              go_simp
              first | done | with_reducible rfl | rfl | (rw [if_neg (by omega)])
            (try simp only [Act.put, List.setIfInBounds_toArray, List.set_cons_zero, List.set_cons_succ])
            refine wpAnyH_take (i := 6) (oi := { dst := some 56, op := Op.move (Operand.tmp 10), type := 22, pos := "whole.go:135", after := #[{ on := 4, ground := Ground.guard }], guard := some (4, false) }) (v := ?v6x6) rfl (by kernel_rfl) (by kernel_rfl) (by kernel_rfl) (fun _ _ _ h => h) (Or.inl ⟨by rfl, ?h6x6⟩) (by assumption) ?r6x6
            case h6x6 =>
              intro w' hSw
              (try dsimp only at hSw)
              go_simp
              first | done | with_reducible rfl | rfl | (rw [if_neg (by omega)])
            (try simp only [Act.put, List.setIfInBounds_toArray, List.set_cons_zero, List.set_cons_succ])
            refine wpAnyH_ready (rs := [7]) (by kernel_rfl) (by simp) (AllReadyH.cons rfl (fun K hK => ?_) AllReadyH.nil)
            go_simp
            go_wp2_with fail
            refine (sameHeld_any _ _ hs hs W2.drew (HX2.out.below (show Below W2.heap.size W2 W2.drew from ⟨rfl, rfl, rfl, Nat.le_refl _, fun _ _ => rfl⟩)) (HY.out.below (show Below W2.heap.size W2 W2.drew from ⟨rfl, rfl, rfl, Nat.le_refl _, fun _ _ => rfl⟩))).mono ?_
            rintro e X2 ⟨b1, rfl, hbt, hb3⟩
            obtain rfl := hbt rfl
            have HB3 := hideIt (show Below W2.heap.size W2 X2 from ⟨hb3.os, hb3.tape, hb3.output, hb3.size, hb3.block⟩)
            have HS2 := hideIt (show X2.cell? ⟨gl, 0, none⟩ = some (.string ⟨tt.toArray⟩) from (hb3.cell (p := ⟨gl, 0, none⟩) HL2.out).trans HS0.out)
            clear hb3 hbt
            go_wp2_with fail
            refine hK.out _ _ HS2.out (fun hHeld => ?_)
            clear hK K
            refine wpAnyH_take (i := 8) (oi := { dst := some 58, op := Op.unOp UnOp.not 4 (Operand.tmp 57), type := 4, pos := "whole.go:135", after := #[{ on := 7, ground := Ground.data }, { on := 4, ground := Ground.guard }], guard := some (4, false) }) (v := ?v7x8) rfl (by kernel_rfl) (by kernel_rfl) (by kernel_rfl) (fun _ _ _ h => h) (Or.inl ⟨by rfl, ?h7x8⟩) (by assumption) ?r7x8
            case h7x8 =>
              intro w' hSw
              (try dsimp only at hSw)
              go_simp
              first | done | with_reducible rfl | rfl | (rw [if_neg (by omega)])
            (try simp only [Act.put, List.setIfInBounds_toArray, List.set_cons_zero, List.set_cons_succ])
            refine wpAnyH_take (i := 9) (oi := { dst := some 59, op := Op.pick (Operand.tmp 54) (Operand.const (Value.bool true)) (Operand.tmp 58), type := 4, pos := "whole.go:135", after := #[{ on := 4, ground := Ground.data }, { on := 8, ground := Ground.data }], guard := none }) (v := ?v8x9) rfl (by kernel_rfl) (by kernel_rfl) (by kernel_rfl) (fun _ _ _ h => h) (Or.inl ⟨by rfl, ?h8x9⟩) (by assumption) ?r8x9
            case h8x9 =>
              intro w' hSw
              (try dsimp only at hSw)
              go_simp
              first | done | with_reducible rfl | rfl | (rw [if_neg (by omega)])
            (try simp only [Act.put, List.setIfInBounds_toArray, List.set_cons_zero, List.set_cons_succ])
            refine wpAnyH_take (i := 10) (oi := { dst := some 60, op := Op.move (Operand.tmp 59), type := 4, pos := "whole.go:135", after := #[{ on := 9, ground := Ground.data }, { on := 7, ground := Ground.chain }], guard := none }) (v := ?v9x10) rfl (by kernel_rfl) (by kernel_rfl) (by kernel_rfl) (fun _ _ _ h => h) (Or.inl ⟨by rfl, ?h9x10⟩) (by assumption) ?r9x10
            case h9x10 =>
              intro w' hSw
              (try dsimp only at hSw)
              go_simp
              first | done | with_reducible rfl | rfl | (rw [if_neg (by omega)])
            (try simp only [Act.put, List.setIfInBounds_toArray, List.set_cons_zero, List.set_cons_succ])
            refine wpAnyH_take (i := 11) (oi := { dst := some 61, op := Op.move (Operand.tmp 6), type := 41, pos := "whole.go:135", after := #[{ on := 10, ground := Ground.guard }], guard := some (10, false) }) (v := ?v10x11) rfl (by kernel_rfl) (by kernel_rfl) (by kernel_rfl) (fun _ _ _ h => h) (Or.inl ⟨by rfl, ?h10x11⟩) (by assumption) ?r10x11
            case h10x11 =>
              intro w' hSw
              (try dsimp only at hSw)
              go_simp
              first | done | with_reducible rfl | rfl | (rw [if_neg (by omega)])
            (try simp only [Act.put, List.setIfInBounds_toArray, List.set_cons_zero, List.set_cons_succ])
            refine wpAnyH_take (i := 12) (oi := { dst := some 62, op := Op.move (Operand.tmp 7), type := 3, pos := "whole.go:135", after := #[{ on := 10, ground := Ground.guard }], guard := some (10, false) }) (v := ?v11x12) rfl (by kernel_rfl) (by kernel_rfl) (by kernel_rfl) (fun _ _ _ h => h) (Or.inl ⟨by rfl, ?h11x12⟩) (by assumption) ?r11x12
            case h11x12 =>
              intro w' hSw
              (try dsimp only at hSw)
              go_simp
              first | done | with_reducible rfl | rfl | (rw [if_neg (by omega)])
            (try simp only [Act.put, List.setIfInBounds_toArray, List.set_cons_zero, List.set_cons_succ])
            refine wpAnyH_take (i := 13) (oi := { dst := some 63, op := Op.indexAddr 41 (Operand.tmp 61) (Operand.tmp 62), type := 0, pos := "whole.go:135", after := #[{ on := 11, ground := Ground.data }, { on := 12, ground := Ground.data }, { on := 10, ground := Ground.guard }], guard := some (10, false) }) (v := ?v12x13) rfl (by kernel_rfl) (by kernel_rfl) (by kernel_rfl) (fun _ _ _ h => h) (Or.inl ⟨by rfl, ?h12x13⟩) (by assumption) ?r12x13
            case h12x13 =>
              intro w' hSw
              (try dsimp only at hSw)
              go_simp
              first | done | with_reducible rfl | rfl | (rw [if_neg (by omega)])
            (try simp only [Act.put, List.setIfInBounds_toArray, List.set_cons_zero, List.set_cons_succ])
            refine wpAnyH_take (i := 14) (oi := { dst := some 64, op := Op.load 9 (Operand.tmp 63), type := 9, pos := "whole.go:135", after := #[{ on := 13, ground := Ground.data }, { on := 10, ground := Ground.guard }], guard := some (10, false) }) (v := ?v13x14) rfl (by kernel_rfl) (by kernel_rfl) (by kernel_rfl) (fun _ _ _ h => h) (Or.inl ⟨by rfl, ?h13x14⟩) (by assumption) ?r13x14
            case h13x14 =>
              intro w' hSw
              (try dsimp only at hSw)
              go_simp
              first | done | with_reducible rfl | rfl | (rw [if_neg (by omega)])
            (try simp only [Act.put, List.setIfInBounds_toArray, List.set_cons_zero, List.set_cons_succ])
            refine wpAnyH_take (i := 17) (oi := { dst := some 67, op := Op.move (Operand.tmp 6), type := 41, pos := "whole.go:135", after := #[{ on := 10, ground := Ground.guard }], guard := some (10, false) }) (v := ?v14x17) rfl (by kernel_rfl) (by kernel_rfl) (by kernel_rfl) (fun _ _ _ h => h) (Or.inl ⟨by rfl, ?h14x17⟩) (by assumption) ?r14x17
            case h14x17 =>
              intro w' hSw
              (try dsimp only at hSw)
              go_simp
              first | done | with_reducible rfl | rfl | (rw [if_neg (by omega)])
            (try simp only [Act.put, List.setIfInBounds_toArray, List.set_cons_zero, List.set_cons_succ])
            refine wpAnyH_take (i := 18) (oi := { dst := some 68, op := Op.move (Operand.tmp 7), type := 3, pos := "whole.go:135", after := #[{ on := 10, ground := Ground.guard }], guard := some (10, false) }) (v := ?v15x18) rfl (by kernel_rfl) (by kernel_rfl) (by kernel_rfl) (fun _ _ _ h => h) (Or.inl ⟨by rfl, ?h15x18⟩) (by assumption) ?r15x18
            case h15x18 =>
              intro w' hSw
              (try dsimp only at hSw)
              go_simp
              first | done | with_reducible rfl | rfl | (rw [if_neg (by omega)])
            (try simp only [Act.put, List.setIfInBounds_toArray, List.set_cons_zero, List.set_cons_succ])
            refine wpAnyH_take (i := 19) (oi := { dst := some 69, op := Op.indexAddr 41 (Operand.tmp 67) (Operand.tmp 68), type := 0, pos := "whole.go:135", after := #[{ on := 17, ground := Ground.data }, { on := 18, ground := Ground.data }, { on := 10, ground := Ground.guard }], guard := some (10, false) }) (v := ?v16x19) rfl (by kernel_rfl) (by kernel_rfl) (by kernel_rfl) (fun _ _ _ h => h) (Or.inl ⟨by rfl, ?h16x19⟩) (by assumption) ?r16x19
            case h16x19 =>
              intro w' hSw
              (try dsimp only at hSw)
              go_simp
              first | done | with_reducible rfl | rfl | (rw [if_neg (by omega)])
            (try simp only [Act.put, List.setIfInBounds_toArray, List.set_cons_zero, List.set_cons_succ])
            refine wpAnyH_take (i := 20) (oi := { dst := some 70, op := Op.load 9 (Operand.tmp 69), type := 9, pos := "whole.go:135", after := #[{ on := 19, ground := Ground.data }, { on := 10, ground := Ground.guard }], guard := some (10, false) }) (v := ?v17x20) rfl (by kernel_rfl) (by kernel_rfl) (by kernel_rfl) (fun _ _ _ h => h) (Or.inl ⟨by rfl, ?h17x20⟩) (by assumption) ?r17x20
            case h17x20 =>
              intro w' hSw
              (try dsimp only at hSw)
              go_simp
              first | done | with_reducible rfl | rfl | (rw [if_neg (by omega)])
            (try simp only [Act.put, List.setIfInBounds_toArray, List.set_cons_zero, List.set_cons_succ])
            refine wpAnyH_ready (rs := [15]) (by kernel_rfl) (by simp) (AllReadyH.cons rfl (fun K hK => ?_) AllReadyH.nil)
            go_simp
            go_wp2_with fail
            refine (HSA.out _).mono ?_
            rintro e X3 ⟨rfl, rfl⟩
            go_wp2_with fail
            refine hK.out _ _ HS2.out (fun hHeld => ?_)
            clear hK K
            refine wpAnyH_take (i := 16) (oi := { dst := some 66, op := Op.convert 44 3 (Operand.tmp 65), type := 3, pos := "whole.go:135", after := #[{ on := 15, ground := Ground.data }, { on := 10, ground := Ground.guard }], guard := some (10, false) }) (v := ?v18x16) rfl (by kernel_rfl) (by kernel_rfl) (by kernel_rfl) (fun _ _ _ h => h) (Or.inl ⟨by rfl, ?h18x16⟩) (by assumption) ?r18x16
            case h18x16 =>
              intro w' hSw
              (try dsimp only at hSw)
              go_simp
              first | done | with_reducible rfl | rfl | (rw [if_neg (by omega)])
            (try simp only [Act.put, List.setIfInBounds_toArray, List.set_cons_zero, List.set_cons_succ])
            refine wpAnyH_ready (rs := [21]) (by kernel_rfl) (by simp) (AllReadyH.cons rfl (fun K hK => ?_) AllReadyH.nil)
            go_simp
            go_wp2_with fail
            refine (HSB.out _).mono ?_
            rintro e X4 ⟨rfl, rfl⟩
            go_wp2_with fail
            refine hK.out _ _ HS2.out (fun hHeld => ?_)
            clear hK K
            refine wpAnyH_take (i := 22) (oi := { dst := some 72, op := Op.binOp BinOp.neq 3 (Operand.tmp 66) (Operand.tmp 71) 3, type := 4, pos := "whole.go:135", after := #[{ on := 16, ground := Ground.data }, { on := 21, ground := Ground.data }, { on := 10, ground := Ground.guard }], guard := some (10, false) }) (v := ?v19x22) rfl (by kernel_rfl) (by kernel_rfl) (by kernel_rfl) (fun _ _ _ h => h) (Or.inl ⟨by rfl, ?h19x22⟩) (by assumption) ?r19x22
            case h19x22 =>
              intro w' hSw
              (try dsimp only at hSw)
              go_simp
              first | done | with_reducible rfl | rfl | (rw [if_neg (by omega)])
            (try simp only [Act.put, List.setIfInBounds_toArray, List.set_cons_zero, List.set_cons_succ])
            refine wpAnyH_take (i := 23) (oi := { dst := some 73, op := Op.pick (Operand.tmp 60) (Operand.const (Value.bool true)) (Operand.tmp 72), type := 4, pos := "whole.go:135", after := #[{ on := 10, ground := Ground.data }, { on := 22, ground := Ground.data }], guard := none }) (v := ?v20x23) rfl (by kernel_rfl) (by kernel_rfl) (by kernel_rfl) (fun _ _ _ h => h) (Or.inl ⟨by rfl, ?h20x23⟩) (by assumption) ?r20x23
            case h20x23 =>
              intro w' hSw
              (try dsimp only at hSw)
              go_simp
              first | done | with_reducible rfl | rfl | (rw [if_neg (by omega)])
            (try simp only [Act.put, List.setIfInBounds_toArray, List.set_cons_zero, List.set_cons_succ])
            refine wpAnyH_done (by kernel_rfl) ?_ _
            clear hHeld
            go_wp2_with fail
            go_roundw
            case rel => exact ⟨0 + 1, by omega, by go_num, HB2.out.trans (HB3.out.mono HB2.out.size)⟩
            case measure => simp [intOf]
          · go_wp2_with fail
            refine HHO.out.mono ?_
            rintro e W2 ⟨ya, yc, rfl, hy, hb2⟩
            have HY := hideIt hy
            have HX2 := hideIt (HX.out.below hb2)
            have HB2w := hideIt (HB1w.out.trans (hb2.mono HB1w.out.size))
            have HB2 := hideIt (HB1.out.trans (hb2.mono HB1.out.size))
            have HS0 := hideIt (show W2.drew.cell? ⟨gl, 0, none⟩ = some (.string ⟨tt.toArray⟩) from (HB2.out.cell (p := ⟨gl, 0, none⟩) HSZ.out).trans HCK.out)
            have HL2 := hideIt (Nat.lt_of_lt_of_le HSZ.out HB2.out.size)
            clear hy hb2
            go_wp2_with fail
            refine wp_region_held_drew (S := (fun w' => w'.cell? ⟨gl, 0, none⟩ = some (.string ⟨tt.toArray⟩))) (by kernel_rfl) HS0.out (fun hHeld => ?_)
            refine wpAnyH_take (i := 0) (oi := { dst := some 50, op := Op.move (Operand.tmp 9), type := 27, pos := "whole.go:135", after := #[], guard := none }) (v := ?v21x0) rfl (by kernel_rfl) (by kernel_rfl) (by kernel_rfl) (fun _ _ _ h => h) (Or.inl ⟨by rfl, ?h21x0⟩) (by assumption) ?r21x0
            case h21x0 =>
              intro w' hSw
              (try dsimp only at hSw)
              go_simp
              first | done | with_reducible rfl | rfl | (rw [if_neg (by omega)])
            (try simp only [Act.put, List.setIfInBounds_toArray, List.set_cons_zero, List.set_cons_succ])
            refine wpAnyH_take (i := 1) (oi := { dst := some 51, op := Op.move (Operand.tmp 11), type := 3, pos := "whole.go:135", after := #[], guard := none }) (v := ?v22x1) rfl (by kernel_rfl) (by kernel_rfl) (by kernel_rfl) (fun _ _ _ h => h) (Or.inl ⟨by rfl, ?h22x1⟩) (by assumption) ?r22x1
            case h22x1 =>
              intro w' hSw
              (try dsimp only at hSw)
              go_simp
              first | done | with_reducible rfl | rfl | (rw [if_neg (by omega)])
            (try simp only [Act.put, List.setIfInBounds_toArray, List.set_cons_zero, List.set_cons_succ])
            refine wpAnyH_ready (rs := [2]) (by kernel_rfl) (by simp) (AllReadyH.cons rfl (fun K hK => ?_) AllReadyH.nil)
            go_simp
            go_wp2_with fail
            refine (same_posV n _ (by omega)).mono ?_
            rintro e X1 ⟨rfl, rfl⟩
            go_wp2_with fail
            refine hK.out _ _ HS0.out (fun hHeld => ?_)
            clear hK K
            refine wpAnyH_take (i := 3) (oi := { dst := some 53, op := Op.unOp UnOp.not 4 (Operand.tmp 52), type := 4, pos := "whole.go:135", after := #[{ on := 2, ground := Ground.data }], guard := none }) (v := ?v23x3) rfl (by kernel_rfl) (by kernel_rfl) (by kernel_rfl) (fun _ _ _ h => h) (Or.inl ⟨by rfl, ?h23x3⟩) (by assumption) ?r23x3
            case h23x3 =>
              intro w' hSw
              (try dsimp only at hSw)
              go_simp
              first | done | with_reducible rfl | rfl | (rw [if_neg (by omega)])
            (try simp only [Act.put, List.setIfInBounds_toArray, List.set_cons_zero, List.set_cons_succ])
            refine wpAnyH_take (i := 4) (oi := { dst := some 54, op := Op.move (Operand.tmp 53), type := 4, pos := "whole.go:135", after := #[{ on := 3, ground := Ground.data }, { on := 2, ground := Ground.chain }], guard := none }) (v := ?v24x4) rfl (by kernel_rfl) (by kernel_rfl) (by kernel_rfl) (fun _ _ _ h => h) (Or.inl ⟨by rfl, ?h24x4⟩) (by assumption) ?r24x4
            case h24x4 =>
              intro w' hSw
              (try dsimp only at hSw)
              go_simp
              first | done | with_reducible rfl | rfl | (rw [if_neg (by omega)])
            (try simp only [Act.put, List.setIfInBounds_toArray, List.set_cons_zero, List.set_cons_succ])
            refine wpAnyH_take (i := 5) (oi := { dst := some 55, op := Op.move (Operand.tmp 8), type := 22, pos := "whole.go:135", after := #[{ on := 4, ground := Ground.guard }], guard := some (4, false) }) (v := ?v25x5) rfl (by kernel_rfl) (by kernel_rfl) (by kernel_rfl) (fun _ _ _ h => h) (Or.inl ⟨by rfl, ?h25x5⟩) (by assumption) ?r25x5
            case h25x5 =>
              intro w' hSw
              (try dsimp only at hSw)
              go_simp
              first | done | with_reducible rfl | rfl | (rw [if_neg (by omega)])
            (try simp only [Act.put, List.setIfInBounds_toArray, List.set_cons_zero, List.set_cons_succ])
            refine wpAnyH_take (i := 6) (oi := { dst := some 56, op := Op.move (Operand.tmp 10), type := 22, pos := "whole.go:135", after := #[{ on := 4, ground := Ground.guard }], guard := some (4, false) }) (v := ?v26x6) rfl (by kernel_rfl) (by kernel_rfl) (by kernel_rfl) (fun _ _ _ h => h) (Or.inl ⟨by rfl, ?h26x6⟩) (by assumption) ?r26x6
            case h26x6 =>
              intro w' hSw
              (try dsimp only at hSw)
              go_simp
              first | done | with_reducible rfl | rfl | (rw [if_neg (by omega)])
            (try simp only [Act.put, List.setIfInBounds_toArray, List.set_cons_zero, List.set_cons_succ])
            refine wpAnyH_ready (rs := [7]) (by kernel_rfl) (by simp) (AllReadyH.cons rfl (fun K hK => ?_) AllReadyH.nil)
            go_simp
            go_wp2_with fail
            refine (sameHeld_any _ _ hs hs W2.drew (HX2.out.below (show Below W2.heap.size W2 W2.drew from ⟨rfl, rfl, rfl, Nat.le_refl _, fun _ _ => rfl⟩)) (HY.out.below (show Below W2.heap.size W2 W2.drew from ⟨rfl, rfl, rfl, Nat.le_refl _, fun _ _ => rfl⟩))).mono ?_
            rintro e X2 ⟨b1, rfl, hbt, hb3⟩
            obtain rfl := hbt rfl
            have HB3 := hideIt (show Below W2.heap.size W2 X2 from ⟨hb3.os, hb3.tape, hb3.output, hb3.size, hb3.block⟩)
            have HS2 := hideIt (show X2.cell? ⟨gl, 0, none⟩ = some (.string ⟨tt.toArray⟩) from (hb3.cell (p := ⟨gl, 0, none⟩) HL2.out).trans HS0.out)
            clear hb3 hbt
            go_wp2_with fail
            refine hK.out _ _ HS2.out (fun hHeld => ?_)
            clear hK K
            refine wpAnyH_take (i := 8) (oi := { dst := some 58, op := Op.unOp UnOp.not 4 (Operand.tmp 57), type := 4, pos := "whole.go:135", after := #[{ on := 7, ground := Ground.data }, { on := 4, ground := Ground.guard }], guard := some (4, false) }) (v := ?v27x8) rfl (by kernel_rfl) (by kernel_rfl) (by kernel_rfl) (fun _ _ _ h => h) (Or.inl ⟨by rfl, ?h27x8⟩) (by assumption) ?r27x8
            case h27x8 =>
              intro w' hSw
              (try dsimp only at hSw)
              go_simp
              first | done | with_reducible rfl | rfl | (rw [if_neg (by omega)])
            (try simp only [Act.put, List.setIfInBounds_toArray, List.set_cons_zero, List.set_cons_succ])
            refine wpAnyH_take (i := 9) (oi := { dst := some 59, op := Op.pick (Operand.tmp 54) (Operand.const (Value.bool true)) (Operand.tmp 58), type := 4, pos := "whole.go:135", after := #[{ on := 4, ground := Ground.data }, { on := 8, ground := Ground.data }], guard := none }) (v := ?v28x9) rfl (by kernel_rfl) (by kernel_rfl) (by kernel_rfl) (fun _ _ _ h => h) (Or.inl ⟨by rfl, ?h28x9⟩) (by assumption) ?r28x9
            case h28x9 =>
              intro w' hSw
              (try dsimp only at hSw)
              go_simp
              first | done | with_reducible rfl | rfl | (rw [if_neg (by omega)])
            (try simp only [Act.put, List.setIfInBounds_toArray, List.set_cons_zero, List.set_cons_succ])
            refine wpAnyH_take (i := 10) (oi := { dst := some 60, op := Op.move (Operand.tmp 59), type := 4, pos := "whole.go:135", after := #[{ on := 9, ground := Ground.data }, { on := 7, ground := Ground.chain }], guard := none }) (v := ?v29x10) rfl (by kernel_rfl) (by kernel_rfl) (by kernel_rfl) (fun _ _ _ h => h) (Or.inl ⟨by rfl, ?h29x10⟩) (by assumption) ?r29x10
            case h29x10 =>
              intro w' hSw
              (try dsimp only at hSw)
              go_simp
              first | done | with_reducible rfl | rfl | (rw [if_neg (by omega)])
            (try simp only [Act.put, List.setIfInBounds_toArray, List.set_cons_zero, List.set_cons_succ])
            refine wpAnyH_take (i := 11) (oi := { dst := some 61, op := Op.move (Operand.tmp 6), type := 41, pos := "whole.go:135", after := #[{ on := 10, ground := Ground.guard }], guard := some (10, false) }) (v := ?v30x11) rfl (by kernel_rfl) (by kernel_rfl) (by kernel_rfl) (fun _ _ _ h => h) (Or.inl ⟨by rfl, ?h30x11⟩) (by assumption) ?r30x11
            case h30x11 =>
              intro w' hSw
              (try dsimp only at hSw)
              go_simp
              first | done | with_reducible rfl | rfl | (rw [if_neg (by omega)])
            (try simp only [Act.put, List.setIfInBounds_toArray, List.set_cons_zero, List.set_cons_succ])
            refine wpAnyH_take (i := 12) (oi := { dst := some 62, op := Op.move (Operand.tmp 7), type := 3, pos := "whole.go:135", after := #[{ on := 10, ground := Ground.guard }], guard := some (10, false) }) (v := ?v31x12) rfl (by kernel_rfl) (by kernel_rfl) (by kernel_rfl) (fun _ _ _ h => h) (Or.inl ⟨by rfl, ?h31x12⟩) (by assumption) ?r31x12
            case h31x12 =>
              intro w' hSw
              (try dsimp only at hSw)
              go_simp
              first | done | with_reducible rfl | rfl | (rw [if_neg (by omega)])
            (try simp only [Act.put, List.setIfInBounds_toArray, List.set_cons_zero, List.set_cons_succ])
            refine wpAnyH_take (i := 13) (oi := { dst := some 63, op := Op.indexAddr 41 (Operand.tmp 61) (Operand.tmp 62), type := 0, pos := "whole.go:135", after := #[{ on := 11, ground := Ground.data }, { on := 12, ground := Ground.data }, { on := 10, ground := Ground.guard }], guard := some (10, false) }) (v := ?v32x13) rfl (by kernel_rfl) (by kernel_rfl) (by kernel_rfl) (fun _ _ _ h => h) (Or.inl ⟨by rfl, ?h32x13⟩) (by assumption) ?r32x13
            case h32x13 =>
              intro w' hSw
              (try dsimp only at hSw)
              go_simp
              first | done | with_reducible rfl | rfl | (rw [if_neg (by omega)])
            (try simp only [Act.put, List.setIfInBounds_toArray, List.set_cons_zero, List.set_cons_succ])
            refine wpAnyH_take (i := 14) (oi := { dst := some 64, op := Op.load 9 (Operand.tmp 63), type := 9, pos := "whole.go:135", after := #[{ on := 13, ground := Ground.data }, { on := 10, ground := Ground.guard }], guard := some (10, false) }) (v := ?v33x14) rfl (by kernel_rfl) (by kernel_rfl) (by kernel_rfl) (fun _ _ _ h => h) (Or.inl ⟨by rfl, ?h33x14⟩) (by assumption) ?r33x14
            case h33x14 =>
              intro w' hSw
              (try dsimp only at hSw)
              go_simp
              first | done | with_reducible rfl | rfl | (rw [if_neg (by omega)])
            (try simp only [Act.put, List.setIfInBounds_toArray, List.set_cons_zero, List.set_cons_succ])
            refine wpAnyH_take (i := 17) (oi := { dst := some 67, op := Op.move (Operand.tmp 6), type := 41, pos := "whole.go:135", after := #[{ on := 10, ground := Ground.guard }], guard := some (10, false) }) (v := ?v34x17) rfl (by kernel_rfl) (by kernel_rfl) (by kernel_rfl) (fun _ _ _ h => h) (Or.inl ⟨by rfl, ?h34x17⟩) (by assumption) ?r34x17
            case h34x17 =>
              intro w' hSw
              (try dsimp only at hSw)
              go_simp
              first | done | with_reducible rfl | rfl | (rw [if_neg (by omega)])
            (try simp only [Act.put, List.setIfInBounds_toArray, List.set_cons_zero, List.set_cons_succ])
            refine wpAnyH_take (i := 18) (oi := { dst := some 68, op := Op.move (Operand.tmp 7), type := 3, pos := "whole.go:135", after := #[{ on := 10, ground := Ground.guard }], guard := some (10, false) }) (v := ?v35x18) rfl (by kernel_rfl) (by kernel_rfl) (by kernel_rfl) (fun _ _ _ h => h) (Or.inl ⟨by rfl, ?h35x18⟩) (by assumption) ?r35x18
            case h35x18 =>
              intro w' hSw
              (try dsimp only at hSw)
              go_simp
              first | done | with_reducible rfl | rfl | (rw [if_neg (by omega)])
            (try simp only [Act.put, List.setIfInBounds_toArray, List.set_cons_zero, List.set_cons_succ])
            refine wpAnyH_take (i := 19) (oi := { dst := some 69, op := Op.indexAddr 41 (Operand.tmp 67) (Operand.tmp 68), type := 0, pos := "whole.go:135", after := #[{ on := 17, ground := Ground.data }, { on := 18, ground := Ground.data }, { on := 10, ground := Ground.guard }], guard := some (10, false) }) (v := ?v36x19) rfl (by kernel_rfl) (by kernel_rfl) (by kernel_rfl) (fun _ _ _ h => h) (Or.inl ⟨by rfl, ?h36x19⟩) (by assumption) ?r36x19
            case h36x19 =>
              intro w' hSw
              (try dsimp only at hSw)
              go_simp
              first | done | with_reducible rfl | rfl | (rw [if_neg (by omega)])
            (try simp only [Act.put, List.setIfInBounds_toArray, List.set_cons_zero, List.set_cons_succ])
            refine wpAnyH_take (i := 20) (oi := { dst := some 70, op := Op.load 9 (Operand.tmp 69), type := 9, pos := "whole.go:135", after := #[{ on := 19, ground := Ground.data }, { on := 10, ground := Ground.guard }], guard := some (10, false) }) (v := ?v37x20) rfl (by kernel_rfl) (by kernel_rfl) (by kernel_rfl) (fun _ _ _ h => h) (Or.inl ⟨by rfl, ?h37x20⟩) (by assumption) ?r37x20
            case h37x20 =>
              intro w' hSw
              (try dsimp only at hSw)
              go_simp
              first | done | with_reducible rfl | rfl | (rw [if_neg (by omega)])
            (try simp only [Act.put, List.setIfInBounds_toArray, List.set_cons_zero, List.set_cons_succ])
            refine wpAnyH_ready (rs := [15]) (by kernel_rfl) (by simp) (AllReadyH.cons rfl (fun K hK => ?_) AllReadyH.nil)
            go_simp
            go_wp2_with fail
            refine (HSA.out _).mono ?_
            rintro e X3 ⟨rfl, rfl⟩
            go_wp2_with fail
            refine hK.out _ _ HS2.out (fun hHeld => ?_)
            clear hK K
            refine wpAnyH_take (i := 16) (oi := { dst := some 66, op := Op.convert 44 3 (Operand.tmp 65), type := 3, pos := "whole.go:135", after := #[{ on := 15, ground := Ground.data }, { on := 10, ground := Ground.guard }], guard := some (10, false) }) (v := ?v38x16) rfl (by kernel_rfl) (by kernel_rfl) (by kernel_rfl) (fun _ _ _ h => h) (Or.inl ⟨by rfl, ?h38x16⟩) (by assumption) ?r38x16
            case h38x16 =>
              intro w' hSw
              (try dsimp only at hSw)
              go_simp
              first | done | with_reducible rfl | rfl | (rw [if_neg (by omega)])
            (try simp only [Act.put, List.setIfInBounds_toArray, List.set_cons_zero, List.set_cons_succ])
            refine wpAnyH_ready (rs := [21]) (by kernel_rfl) (by simp) (AllReadyH.cons rfl (fun K hK => ?_) AllReadyH.nil)
            go_simp
            go_wp2_with fail
            refine (HSB.out _).mono ?_
            rintro e X4 ⟨rfl, rfl⟩
            go_wp2_with fail
            refine hK.out _ _ HS2.out (fun hHeld => ?_)
            clear hK K
            refine wpAnyH_take (i := 22) (oi := { dst := some 72, op := Op.binOp BinOp.neq 3 (Operand.tmp 66) (Operand.tmp 71) 3, type := 4, pos := "whole.go:135", after := #[{ on := 16, ground := Ground.data }, { on := 21, ground := Ground.data }, { on := 10, ground := Ground.guard }], guard := some (10, false) }) (v := ?v39x22) rfl (by kernel_rfl) (by kernel_rfl) (by kernel_rfl) (fun _ _ _ h => h) (Or.inl ⟨by rfl, ?h39x22⟩) (by assumption) ?r39x22
            case h39x22 =>
              intro w' hSw
              (try dsimp only at hSw)
              go_simp
              first | done | with_reducible rfl | rfl | (rw [if_neg (by omega)])
            (try simp only [Act.put, List.setIfInBounds_toArray, List.set_cons_zero, List.set_cons_succ])
            refine wpAnyH_take (i := 23) (oi := { dst := some 73, op := Op.pick (Operand.tmp 60) (Operand.const (Value.bool true)) (Operand.tmp 72), type := 4, pos := "whole.go:135", after := #[{ on := 10, ground := Ground.data }, { on := 22, ground := Ground.data }], guard := none }) (v := ?v40x23) rfl (by kernel_rfl) (by kernel_rfl) (by kernel_rfl) (fun _ _ _ h => h) (Or.inl ⟨by rfl, ?h40x23⟩) (by assumption) ?r40x23
            case h40x23 =>
              intro w' hSw
              (try dsimp only at hSw)
              go_simp
              first | done | with_reducible rfl | rfl | (rw [if_neg (by omega)])
            (try simp only [Act.put, List.setIfInBounds_toArray, List.set_cons_zero, List.set_cons_succ])
            refine wpAnyH_done (by kernel_rfl) ?_ _
            clear hHeld
            go_wp2_with fail
            go_roundw
            case rel => exact ⟨0 + 1, by omega, by go_num, HB2.out.trans (HB3.out.mono HB2.out.size)⟩
            case measure => simp [intOf]
        · have c0 := (HB.out.cell (p := ⟨gl, 1, none⟩) HSZ.out).trans HC1.out
          have HCK := HC1
          have htl : s.length ≤ 8000 := by omega
          obtain ⟨n, hs, hpa, hho⟩ := both_read s wr (by omega) (HT.out.below HBw.out) (HM.out.below HBw.out)
          have HPA := hideIt hpa
          have HHOx := hideIt hho
          have HSA := hideIt (fun W => sum_any ⟨s.toArray⟩ W (by unfold maxLen; show s.length ≤ _; omega))
          have HSB := hideIt (fun W => refSum_any ⟨s.toArray⟩ W (by unfold maxLen; show s.length ≤ _; omega))
          dsimp only at HSA HSB
          have hfl := Sv.fnv_lt (ByteArray.mk s.toArray).data.toList
          generalize Sv.fnv (ByteArray.mk s.toArray).data.toList = fn at *
          have hwr : IntKind.i64.wrap (fn : Int) = fn := wrapX fn hfl
          generalize s = tt at *
          clear hpa hho
          go_wp2_with fail
          refine HPA.out.mono ?_
          rintro e W1 ⟨xa, xc, rfl, hx, hb1⟩
          have HX := hideIt hx
          have HB1w := hideIt (HBw.out.trans (hb1.mono HBw.out.size))
          have HB1 := hideIt (HB.out.trans (hb1.mono HB.out.size))
          have c1 := (hb1.cell (p := ⟨gl, 1, none⟩) (Nat.lt_of_lt_of_le HSZ.out HB.out.size)).trans c0
          have HHO := hideIt (HHOx.out W1)
          clear hx hb1 c0
          rcases errV_or n with ⟨rfl, e⟩ | ⟨hn, e⟩
          all_goals rw [e]; clear e
          · go_wp2_with fail
            refine HHO.out.mono ?_
            rintro e W2 ⟨ya, yc, rfl, hy, hb2⟩
            have HY := hideIt hy
            have HX2 := hideIt (HX.out.below hb2)
            have HB2w := hideIt (HB1w.out.trans (hb2.mono HB1w.out.size))
            have HB2 := hideIt (HB1.out.trans (hb2.mono HB1.out.size))
            have HS0 := hideIt (show W2.drew.cell? ⟨gl, 1, none⟩ = some (.string ⟨tt.toArray⟩) from (HB2.out.cell (p := ⟨gl, 1, none⟩) HSZ.out).trans HCK.out)
            have HL2 := hideIt (Nat.lt_of_lt_of_le HSZ.out HB2.out.size)
            clear hy hb2
            go_wp2_with fail
            refine wp_region_held_drew (S := (fun w' => w'.cell? ⟨gl, 1, none⟩ = some (.string ⟨tt.toArray⟩))) (by kernel_rfl) HS0.out (fun hHeld => ?_)
            refine wpAnyH_take (i := 0) (oi := { dst := some 50, op := Op.move (Operand.tmp 9), type := 27, pos := "whole.go:135", after := #[], guard := none }) (v := ?v41x0) rfl (by kernel_rfl) (by kernel_rfl) (by kernel_rfl) (fun _ _ _ h => h) (Or.inl ⟨by rfl, ?h41x0⟩) (by assumption) ?r41x0
            case h41x0 =>
              intro w' hSw
              (try dsimp only at hSw)
              go_simp
              first | done | with_reducible rfl | rfl | (rw [if_neg (by omega)])
            (try simp only [Act.put, List.setIfInBounds_toArray, List.set_cons_zero, List.set_cons_succ])
            refine wpAnyH_take (i := 1) (oi := { dst := some 51, op := Op.move (Operand.tmp 11), type := 3, pos := "whole.go:135", after := #[], guard := none }) (v := ?v42x1) rfl (by kernel_rfl) (by kernel_rfl) (by kernel_rfl) (fun _ _ _ h => h) (Or.inl ⟨by rfl, ?h42x1⟩) (by assumption) ?r42x1
            case h42x1 =>
              intro w' hSw
              (try dsimp only at hSw)
              go_simp
              first | done | with_reducible rfl | rfl | (rw [if_neg (by omega)])
            (try simp only [Act.put, List.setIfInBounds_toArray, List.set_cons_zero, List.set_cons_succ])
            refine wpAnyH_ready (rs := [2]) (by kernel_rfl) (by simp) (AllReadyH.cons rfl (fun K hK => ?_) AllReadyH.nil)
            go_simp
            go_wp2_with fail
            refine (same_zeroV _).mono ?_
            rintro e X1 ⟨rfl, rfl⟩
            go_wp2_with fail
            refine hK.out _ _ HS0.out (fun hHeld => ?_)
            clear hK K
            refine wpAnyH_take (i := 3) (oi := { dst := some 53, op := Op.unOp UnOp.not 4 (Operand.tmp 52), type := 4, pos := "whole.go:135", after := #[{ on := 2, ground := Ground.data }], guard := none }) (v := ?v43x3) rfl (by kernel_rfl) (by kernel_rfl) (by kernel_rfl) (fun _ _ _ h => h) (Or.inl ⟨by rfl, ?h43x3⟩) (by assumption) ?r43x3
            case h43x3 =>
              intro w' hSw
              (try dsimp only at hSw)
              go_simp
              first | done | with_reducible rfl | rfl | (rw [if_neg (by omega)])
            (try simp only [Act.put, List.setIfInBounds_toArray, List.set_cons_zero, List.set_cons_succ])
            refine wpAnyH_take (i := 4) (oi := { dst := some 54, op := Op.move (Operand.tmp 53), type := 4, pos := "whole.go:135", after := #[{ on := 3, ground := Ground.data }, { on := 2, ground := Ground.chain }], guard := none }) (v := ?v44x4) rfl (by kernel_rfl) (by kernel_rfl) (by kernel_rfl) (fun _ _ _ h => h) (Or.inl ⟨by rfl, ?h44x4⟩) (by assumption) ?r44x4
            case h44x4 =>
              intro w' hSw
              (try dsimp only at hSw)
              go_simp
              first | done | with_reducible rfl | rfl | (rw [if_neg (by omega)])
            (try simp only [Act.put, List.setIfInBounds_toArray, List.set_cons_zero, List.set_cons_succ])
            refine wpAnyH_take (i := 5) (oi := { dst := some 55, op := Op.move (Operand.tmp 8), type := 22, pos := "whole.go:135", after := #[{ on := 4, ground := Ground.guard }], guard := some (4, false) }) (v := ?v45x5) rfl (by kernel_rfl) (by kernel_rfl) (by kernel_rfl) (fun _ _ _ h => h) (Or.inl ⟨by rfl, ?h45x5⟩) (by assumption) ?r45x5
            case h45x5 =>
              intro w' hSw
              (try dsimp only at hSw)
              go_simp
              first | done | with_reducible rfl | rfl | (rw [if_neg (by omega)])
            (try simp only [Act.put, List.setIfInBounds_toArray, List.set_cons_zero, List.set_cons_succ])
            refine wpAnyH_take (i := 6) (oi := { dst := some 56, op := Op.move (Operand.tmp 10), type := 22, pos := "whole.go:135", after := #[{ on := 4, ground := Ground.guard }], guard := some (4, false) }) (v := ?v46x6) rfl (by kernel_rfl) (by kernel_rfl) (by kernel_rfl) (fun _ _ _ h => h) (Or.inl ⟨by rfl, ?h46x6⟩) (by assumption) ?r46x6
            case h46x6 =>
              intro w' hSw
              (try dsimp only at hSw)
              go_simp
              first | done | with_reducible rfl | rfl | (rw [if_neg (by omega)])
            (try simp only [Act.put, List.setIfInBounds_toArray, List.set_cons_zero, List.set_cons_succ])
            refine wpAnyH_ready (rs := [7]) (by kernel_rfl) (by simp) (AllReadyH.cons rfl (fun K hK => ?_) AllReadyH.nil)
            go_simp
            go_wp2_with fail
            refine (sameHeld_any _ _ hs hs W2.drew (HX2.out.below (show Below W2.heap.size W2 W2.drew from ⟨rfl, rfl, rfl, Nat.le_refl _, fun _ _ => rfl⟩)) (HY.out.below (show Below W2.heap.size W2 W2.drew from ⟨rfl, rfl, rfl, Nat.le_refl _, fun _ _ => rfl⟩))).mono ?_
            rintro e X2 ⟨b1, rfl, hbt, hb3⟩
            obtain rfl := hbt rfl
            have HB3 := hideIt (show Below W2.heap.size W2 X2 from ⟨hb3.os, hb3.tape, hb3.output, hb3.size, hb3.block⟩)
            have HS2 := hideIt (show X2.cell? ⟨gl, 1, none⟩ = some (.string ⟨tt.toArray⟩) from (hb3.cell (p := ⟨gl, 1, none⟩) HL2.out).trans HS0.out)
            clear hb3 hbt
            go_wp2_with fail
            refine hK.out _ _ HS2.out (fun hHeld => ?_)
            clear hK K
            refine wpAnyH_take (i := 8) (oi := { dst := some 58, op := Op.unOp UnOp.not 4 (Operand.tmp 57), type := 4, pos := "whole.go:135", after := #[{ on := 7, ground := Ground.data }, { on := 4, ground := Ground.guard }], guard := some (4, false) }) (v := ?v47x8) rfl (by kernel_rfl) (by kernel_rfl) (by kernel_rfl) (fun _ _ _ h => h) (Or.inl ⟨by rfl, ?h47x8⟩) (by assumption) ?r47x8
            case h47x8 =>
              intro w' hSw
              (try dsimp only at hSw)
              go_simp
              first | done | with_reducible rfl | rfl | (rw [if_neg (by omega)])
            (try simp only [Act.put, List.setIfInBounds_toArray, List.set_cons_zero, List.set_cons_succ])
            refine wpAnyH_take (i := 9) (oi := { dst := some 59, op := Op.pick (Operand.tmp 54) (Operand.const (Value.bool true)) (Operand.tmp 58), type := 4, pos := "whole.go:135", after := #[{ on := 4, ground := Ground.data }, { on := 8, ground := Ground.data }], guard := none }) (v := ?v48x9) rfl (by kernel_rfl) (by kernel_rfl) (by kernel_rfl) (fun _ _ _ h => h) (Or.inl ⟨by rfl, ?h48x9⟩) (by assumption) ?r48x9
            case h48x9 =>
              intro w' hSw
              (try dsimp only at hSw)
              go_simp
              first | done | with_reducible rfl | rfl | (rw [if_neg (by omega)])
            (try simp only [Act.put, List.setIfInBounds_toArray, List.set_cons_zero, List.set_cons_succ])
            refine wpAnyH_take (i := 10) (oi := { dst := some 60, op := Op.move (Operand.tmp 59), type := 4, pos := "whole.go:135", after := #[{ on := 9, ground := Ground.data }, { on := 7, ground := Ground.chain }], guard := none }) (v := ?v49x10) rfl (by kernel_rfl) (by kernel_rfl) (by kernel_rfl) (fun _ _ _ h => h) (Or.inl ⟨by rfl, ?h49x10⟩) (by assumption) ?r49x10
            case h49x10 =>
              intro w' hSw
              (try dsimp only at hSw)
              go_simp
              first | done | with_reducible rfl | rfl | (rw [if_neg (by omega)])
            (try simp only [Act.put, List.setIfInBounds_toArray, List.set_cons_zero, List.set_cons_succ])
            refine wpAnyH_take (i := 11) (oi := { dst := some 61, op := Op.move (Operand.tmp 6), type := 41, pos := "whole.go:135", after := #[{ on := 10, ground := Ground.guard }], guard := some (10, false) }) (v := ?v50x11) rfl (by kernel_rfl) (by kernel_rfl) (by kernel_rfl) (fun _ _ _ h => h) (Or.inl ⟨by rfl, ?h50x11⟩) (by assumption) ?r50x11
            case h50x11 =>
              intro w' hSw
              (try dsimp only at hSw)
              go_simp
              first | done | with_reducible rfl | rfl | (rw [if_neg (by omega)])
            (try simp only [Act.put, List.setIfInBounds_toArray, List.set_cons_zero, List.set_cons_succ])
            refine wpAnyH_take (i := 12) (oi := { dst := some 62, op := Op.move (Operand.tmp 7), type := 3, pos := "whole.go:135", after := #[{ on := 10, ground := Ground.guard }], guard := some (10, false) }) (v := ?v51x12) rfl (by kernel_rfl) (by kernel_rfl) (by kernel_rfl) (fun _ _ _ h => h) (Or.inl ⟨by rfl, ?h51x12⟩) (by assumption) ?r51x12
            case h51x12 =>
              intro w' hSw
              (try dsimp only at hSw)
              go_simp
              first | done | with_reducible rfl | rfl | (rw [if_neg (by omega)])
            (try simp only [Act.put, List.setIfInBounds_toArray, List.set_cons_zero, List.set_cons_succ])
            refine wpAnyH_take (i := 13) (oi := { dst := some 63, op := Op.indexAddr 41 (Operand.tmp 61) (Operand.tmp 62), type := 0, pos := "whole.go:135", after := #[{ on := 11, ground := Ground.data }, { on := 12, ground := Ground.data }, { on := 10, ground := Ground.guard }], guard := some (10, false) }) (v := ?v52x13) rfl (by kernel_rfl) (by kernel_rfl) (by kernel_rfl) (fun _ _ _ h => h) (Or.inl ⟨by rfl, ?h52x13⟩) (by assumption) ?r52x13
            case h52x13 =>
              intro w' hSw
              (try dsimp only at hSw)
              go_simp
              first | done | with_reducible rfl | rfl | (rw [if_neg (by omega)])
            (try simp only [Act.put, List.setIfInBounds_toArray, List.set_cons_zero, List.set_cons_succ])
            refine wpAnyH_take (i := 14) (oi := { dst := some 64, op := Op.load 9 (Operand.tmp 63), type := 9, pos := "whole.go:135", after := #[{ on := 13, ground := Ground.data }, { on := 10, ground := Ground.guard }], guard := some (10, false) }) (v := ?v53x14) rfl (by kernel_rfl) (by kernel_rfl) (by kernel_rfl) (fun _ _ _ h => h) (Or.inl ⟨by rfl, ?h53x14⟩) (by assumption) ?r53x14
            case h53x14 =>
              intro w' hSw
              (try dsimp only at hSw)
              go_simp
              first | done | with_reducible rfl | rfl | (rw [if_neg (by omega)])
            (try simp only [Act.put, List.setIfInBounds_toArray, List.set_cons_zero, List.set_cons_succ])
            refine wpAnyH_take (i := 17) (oi := { dst := some 67, op := Op.move (Operand.tmp 6), type := 41, pos := "whole.go:135", after := #[{ on := 10, ground := Ground.guard }], guard := some (10, false) }) (v := ?v54x17) rfl (by kernel_rfl) (by kernel_rfl) (by kernel_rfl) (fun _ _ _ h => h) (Or.inl ⟨by rfl, ?h54x17⟩) (by assumption) ?r54x17
            case h54x17 =>
              intro w' hSw
              (try dsimp only at hSw)
              go_simp
              first | done | with_reducible rfl | rfl | (rw [if_neg (by omega)])
            (try simp only [Act.put, List.setIfInBounds_toArray, List.set_cons_zero, List.set_cons_succ])
            refine wpAnyH_take (i := 18) (oi := { dst := some 68, op := Op.move (Operand.tmp 7), type := 3, pos := "whole.go:135", after := #[{ on := 10, ground := Ground.guard }], guard := some (10, false) }) (v := ?v55x18) rfl (by kernel_rfl) (by kernel_rfl) (by kernel_rfl) (fun _ _ _ h => h) (Or.inl ⟨by rfl, ?h55x18⟩) (by assumption) ?r55x18
            case h55x18 =>
              intro w' hSw
              (try dsimp only at hSw)
              go_simp
              first | done | with_reducible rfl | rfl | (rw [if_neg (by omega)])
            (try simp only [Act.put, List.setIfInBounds_toArray, List.set_cons_zero, List.set_cons_succ])
            refine wpAnyH_take (i := 19) (oi := { dst := some 69, op := Op.indexAddr 41 (Operand.tmp 67) (Operand.tmp 68), type := 0, pos := "whole.go:135", after := #[{ on := 17, ground := Ground.data }, { on := 18, ground := Ground.data }, { on := 10, ground := Ground.guard }], guard := some (10, false) }) (v := ?v56x19) rfl (by kernel_rfl) (by kernel_rfl) (by kernel_rfl) (fun _ _ _ h => h) (Or.inl ⟨by rfl, ?h56x19⟩) (by assumption) ?r56x19
            case h56x19 =>
              intro w' hSw
              (try dsimp only at hSw)
              go_simp
              first | done | with_reducible rfl | rfl | (rw [if_neg (by omega)])
            (try simp only [Act.put, List.setIfInBounds_toArray, List.set_cons_zero, List.set_cons_succ])
            refine wpAnyH_take (i := 20) (oi := { dst := some 70, op := Op.load 9 (Operand.tmp 69), type := 9, pos := "whole.go:135", after := #[{ on := 19, ground := Ground.data }, { on := 10, ground := Ground.guard }], guard := some (10, false) }) (v := ?v57x20) rfl (by kernel_rfl) (by kernel_rfl) (by kernel_rfl) (fun _ _ _ h => h) (Or.inl ⟨by rfl, ?h57x20⟩) (by assumption) ?r57x20
            case h57x20 =>
              intro w' hSw
              (try dsimp only at hSw)
              go_simp
              first | done | with_reducible rfl | rfl | (rw [if_neg (by omega)])
            (try simp only [Act.put, List.setIfInBounds_toArray, List.set_cons_zero, List.set_cons_succ])
            refine wpAnyH_ready (rs := [15]) (by kernel_rfl) (by simp) (AllReadyH.cons rfl (fun K hK => ?_) AllReadyH.nil)
            go_simp
            go_wp2_with fail
            refine (HSA.out _).mono ?_
            rintro e X3 ⟨rfl, rfl⟩
            go_wp2_with fail
            refine hK.out _ _ HS2.out (fun hHeld => ?_)
            clear hK K
            refine wpAnyH_take (i := 16) (oi := { dst := some 66, op := Op.convert 44 3 (Operand.tmp 65), type := 3, pos := "whole.go:135", after := #[{ on := 15, ground := Ground.data }, { on := 10, ground := Ground.guard }], guard := some (10, false) }) (v := ?v58x16) rfl (by kernel_rfl) (by kernel_rfl) (by kernel_rfl) (fun _ _ _ h => h) (Or.inl ⟨by rfl, ?h58x16⟩) (by assumption) ?r58x16
            case h58x16 =>
              intro w' hSw
              (try dsimp only at hSw)
              go_simp
              first | done | with_reducible rfl | rfl | (rw [if_neg (by omega)])
            (try simp only [Act.put, List.setIfInBounds_toArray, List.set_cons_zero, List.set_cons_succ])
            refine wpAnyH_ready (rs := [21]) (by kernel_rfl) (by simp) (AllReadyH.cons rfl (fun K hK => ?_) AllReadyH.nil)
            go_simp
            go_wp2_with fail
            refine (HSB.out _).mono ?_
            rintro e X4 ⟨rfl, rfl⟩
            go_wp2_with fail
            refine hK.out _ _ HS2.out (fun hHeld => ?_)
            clear hK K
            refine wpAnyH_take (i := 22) (oi := { dst := some 72, op := Op.binOp BinOp.neq 3 (Operand.tmp 66) (Operand.tmp 71) 3, type := 4, pos := "whole.go:135", after := #[{ on := 16, ground := Ground.data }, { on := 21, ground := Ground.data }, { on := 10, ground := Ground.guard }], guard := some (10, false) }) (v := ?v59x22) rfl (by kernel_rfl) (by kernel_rfl) (by kernel_rfl) (fun _ _ _ h => h) (Or.inl ⟨by rfl, ?h59x22⟩) (by assumption) ?r59x22
            case h59x22 =>
              intro w' hSw
              (try dsimp only at hSw)
              go_simp
              first | done | with_reducible rfl | rfl | (rw [if_neg (by omega)])
            (try simp only [Act.put, List.setIfInBounds_toArray, List.set_cons_zero, List.set_cons_succ])
            refine wpAnyH_take (i := 23) (oi := { dst := some 73, op := Op.pick (Operand.tmp 60) (Operand.const (Value.bool true)) (Operand.tmp 72), type := 4, pos := "whole.go:135", after := #[{ on := 10, ground := Ground.data }, { on := 22, ground := Ground.data }], guard := none }) (v := ?v60x23) rfl (by kernel_rfl) (by kernel_rfl) (by kernel_rfl) (fun _ _ _ h => h) (Or.inl ⟨by rfl, ?h60x23⟩) (by assumption) ?r60x23
            case h60x23 =>
              intro w' hSw
              (try dsimp only at hSw)
              go_simp
              first | done | with_reducible rfl | rfl | (rw [if_neg (by omega)])
            (try simp only [Act.put, List.setIfInBounds_toArray, List.set_cons_zero, List.set_cons_succ])
            refine wpAnyH_done (by kernel_rfl) ?_ _
            clear hHeld
            go_wp2_with fail
            go_roundw
            case rel => exact ⟨1 + 1, by omega, by go_num, HB2.out.trans (HB3.out.mono HB2.out.size)⟩
            case measure => simp [intOf]
          · go_wp2_with fail
            refine HHO.out.mono ?_
            rintro e W2 ⟨ya, yc, rfl, hy, hb2⟩
            have HY := hideIt hy
            have HX2 := hideIt (HX.out.below hb2)
            have HB2w := hideIt (HB1w.out.trans (hb2.mono HB1w.out.size))
            have HB2 := hideIt (HB1.out.trans (hb2.mono HB1.out.size))
            have HS0 := hideIt (show W2.drew.cell? ⟨gl, 1, none⟩ = some (.string ⟨tt.toArray⟩) from (HB2.out.cell (p := ⟨gl, 1, none⟩) HSZ.out).trans HCK.out)
            have HL2 := hideIt (Nat.lt_of_lt_of_le HSZ.out HB2.out.size)
            clear hy hb2
            go_wp2_with fail
            refine wp_region_held_drew (S := (fun w' => w'.cell? ⟨gl, 1, none⟩ = some (.string ⟨tt.toArray⟩))) (by kernel_rfl) HS0.out (fun hHeld => ?_)
            refine wpAnyH_take (i := 0) (oi := { dst := some 50, op := Op.move (Operand.tmp 9), type := 27, pos := "whole.go:135", after := #[], guard := none }) (v := ?v61x0) rfl (by kernel_rfl) (by kernel_rfl) (by kernel_rfl) (fun _ _ _ h => h) (Or.inl ⟨by rfl, ?h61x0⟩) (by assumption) ?r61x0
            case h61x0 =>
              intro w' hSw
              (try dsimp only at hSw)
              go_simp
              first | done | with_reducible rfl | rfl | (rw [if_neg (by omega)])
            (try simp only [Act.put, List.setIfInBounds_toArray, List.set_cons_zero, List.set_cons_succ])
            refine wpAnyH_take (i := 1) (oi := { dst := some 51, op := Op.move (Operand.tmp 11), type := 3, pos := "whole.go:135", after := #[], guard := none }) (v := ?v62x1) rfl (by kernel_rfl) (by kernel_rfl) (by kernel_rfl) (fun _ _ _ h => h) (Or.inl ⟨by rfl, ?h62x1⟩) (by assumption) ?r62x1
            case h62x1 =>
              intro w' hSw
              (try dsimp only at hSw)
              go_simp
              first | done | with_reducible rfl | rfl | (rw [if_neg (by omega)])
            (try simp only [Act.put, List.setIfInBounds_toArray, List.set_cons_zero, List.set_cons_succ])
            refine wpAnyH_ready (rs := [2]) (by kernel_rfl) (by simp) (AllReadyH.cons rfl (fun K hK => ?_) AllReadyH.nil)
            go_simp
            go_wp2_with fail
            refine (same_posV n _ (by omega)).mono ?_
            rintro e X1 ⟨rfl, rfl⟩
            go_wp2_with fail
            refine hK.out _ _ HS0.out (fun hHeld => ?_)
            clear hK K
            refine wpAnyH_take (i := 3) (oi := { dst := some 53, op := Op.unOp UnOp.not 4 (Operand.tmp 52), type := 4, pos := "whole.go:135", after := #[{ on := 2, ground := Ground.data }], guard := none }) (v := ?v63x3) rfl (by kernel_rfl) (by kernel_rfl) (by kernel_rfl) (fun _ _ _ h => h) (Or.inl ⟨by rfl, ?h63x3⟩) (by assumption) ?r63x3
            case h63x3 =>
              intro w' hSw
              (try dsimp only at hSw)
              go_simp
              first | done | with_reducible rfl | rfl | (rw [if_neg (by omega)])
            (try simp only [Act.put, List.setIfInBounds_toArray, List.set_cons_zero, List.set_cons_succ])
            refine wpAnyH_take (i := 4) (oi := { dst := some 54, op := Op.move (Operand.tmp 53), type := 4, pos := "whole.go:135", after := #[{ on := 3, ground := Ground.data }, { on := 2, ground := Ground.chain }], guard := none }) (v := ?v64x4) rfl (by kernel_rfl) (by kernel_rfl) (by kernel_rfl) (fun _ _ _ h => h) (Or.inl ⟨by rfl, ?h64x4⟩) (by assumption) ?r64x4
            case h64x4 =>
              intro w' hSw
              (try dsimp only at hSw)
              go_simp
              first | done | with_reducible rfl | rfl | (rw [if_neg (by omega)])
            (try simp only [Act.put, List.setIfInBounds_toArray, List.set_cons_zero, List.set_cons_succ])
            refine wpAnyH_take (i := 5) (oi := { dst := some 55, op := Op.move (Operand.tmp 8), type := 22, pos := "whole.go:135", after := #[{ on := 4, ground := Ground.guard }], guard := some (4, false) }) (v := ?v65x5) rfl (by kernel_rfl) (by kernel_rfl) (by kernel_rfl) (fun _ _ _ h => h) (Or.inl ⟨by rfl, ?h65x5⟩) (by assumption) ?r65x5
            case h65x5 =>
              intro w' hSw
              (try dsimp only at hSw)
              go_simp
              first | done | with_reducible rfl | rfl | (rw [if_neg (by omega)])
            (try simp only [Act.put, List.setIfInBounds_toArray, List.set_cons_zero, List.set_cons_succ])
            refine wpAnyH_take (i := 6) (oi := { dst := some 56, op := Op.move (Operand.tmp 10), type := 22, pos := "whole.go:135", after := #[{ on := 4, ground := Ground.guard }], guard := some (4, false) }) (v := ?v66x6) rfl (by kernel_rfl) (by kernel_rfl) (by kernel_rfl) (fun _ _ _ h => h) (Or.inl ⟨by rfl, ?h66x6⟩) (by assumption) ?r66x6
            case h66x6 =>
              intro w' hSw
              (try dsimp only at hSw)
              go_simp
              first | done | with_reducible rfl | rfl | (rw [if_neg (by omega)])
            (try simp only [Act.put, List.setIfInBounds_toArray, List.set_cons_zero, List.set_cons_succ])
            refine wpAnyH_ready (rs := [7]) (by kernel_rfl) (by simp) (AllReadyH.cons rfl (fun K hK => ?_) AllReadyH.nil)
            go_simp
            go_wp2_with fail
            refine (sameHeld_any _ _ hs hs W2.drew (HX2.out.below (show Below W2.heap.size W2 W2.drew from ⟨rfl, rfl, rfl, Nat.le_refl _, fun _ _ => rfl⟩)) (HY.out.below (show Below W2.heap.size W2 W2.drew from ⟨rfl, rfl, rfl, Nat.le_refl _, fun _ _ => rfl⟩))).mono ?_
            rintro e X2 ⟨b1, rfl, hbt, hb3⟩
            obtain rfl := hbt rfl
            have HB3 := hideIt (show Below W2.heap.size W2 X2 from ⟨hb3.os, hb3.tape, hb3.output, hb3.size, hb3.block⟩)
            have HS2 := hideIt (show X2.cell? ⟨gl, 1, none⟩ = some (.string ⟨tt.toArray⟩) from (hb3.cell (p := ⟨gl, 1, none⟩) HL2.out).trans HS0.out)
            clear hb3 hbt
            go_wp2_with fail
            refine hK.out _ _ HS2.out (fun hHeld => ?_)
            clear hK K
            refine wpAnyH_take (i := 8) (oi := { dst := some 58, op := Op.unOp UnOp.not 4 (Operand.tmp 57), type := 4, pos := "whole.go:135", after := #[{ on := 7, ground := Ground.data }, { on := 4, ground := Ground.guard }], guard := some (4, false) }) (v := ?v67x8) rfl (by kernel_rfl) (by kernel_rfl) (by kernel_rfl) (fun _ _ _ h => h) (Or.inl ⟨by rfl, ?h67x8⟩) (by assumption) ?r67x8
            case h67x8 =>
              intro w' hSw
              (try dsimp only at hSw)
              go_simp
              first | done | with_reducible rfl | rfl | (rw [if_neg (by omega)])
            (try simp only [Act.put, List.setIfInBounds_toArray, List.set_cons_zero, List.set_cons_succ])
            refine wpAnyH_take (i := 9) (oi := { dst := some 59, op := Op.pick (Operand.tmp 54) (Operand.const (Value.bool true)) (Operand.tmp 58), type := 4, pos := "whole.go:135", after := #[{ on := 4, ground := Ground.data }, { on := 8, ground := Ground.data }], guard := none }) (v := ?v68x9) rfl (by kernel_rfl) (by kernel_rfl) (by kernel_rfl) (fun _ _ _ h => h) (Or.inl ⟨by rfl, ?h68x9⟩) (by assumption) ?r68x9
            case h68x9 =>
              intro w' hSw
              (try dsimp only at hSw)
              go_simp
              first | done | with_reducible rfl | rfl | (rw [if_neg (by omega)])
            (try simp only [Act.put, List.setIfInBounds_toArray, List.set_cons_zero, List.set_cons_succ])
            refine wpAnyH_take (i := 10) (oi := { dst := some 60, op := Op.move (Operand.tmp 59), type := 4, pos := "whole.go:135", after := #[{ on := 9, ground := Ground.data }, { on := 7, ground := Ground.chain }], guard := none }) (v := ?v69x10) rfl (by kernel_rfl) (by kernel_rfl) (by kernel_rfl) (fun _ _ _ h => h) (Or.inl ⟨by rfl, ?h69x10⟩) (by assumption) ?r69x10
            case h69x10 =>
              intro w' hSw
              (try dsimp only at hSw)
              go_simp
              first | done | with_reducible rfl | rfl | (rw [if_neg (by omega)])
            (try simp only [Act.put, List.setIfInBounds_toArray, List.set_cons_zero, List.set_cons_succ])
            refine wpAnyH_take (i := 11) (oi := { dst := some 61, op := Op.move (Operand.tmp 6), type := 41, pos := "whole.go:135", after := #[{ on := 10, ground := Ground.guard }], guard := some (10, false) }) (v := ?v70x11) rfl (by kernel_rfl) (by kernel_rfl) (by kernel_rfl) (fun _ _ _ h => h) (Or.inl ⟨by rfl, ?h70x11⟩) (by assumption) ?r70x11
            case h70x11 =>
              intro w' hSw
              (try dsimp only at hSw)
              go_simp
              first | done | with_reducible rfl | rfl | (rw [if_neg (by omega)])
            (try simp only [Act.put, List.setIfInBounds_toArray, List.set_cons_zero, List.set_cons_succ])
            refine wpAnyH_take (i := 12) (oi := { dst := some 62, op := Op.move (Operand.tmp 7), type := 3, pos := "whole.go:135", after := #[{ on := 10, ground := Ground.guard }], guard := some (10, false) }) (v := ?v71x12) rfl (by kernel_rfl) (by kernel_rfl) (by kernel_rfl) (fun _ _ _ h => h) (Or.inl ⟨by rfl, ?h71x12⟩) (by assumption) ?r71x12
            case h71x12 =>
              intro w' hSw
              (try dsimp only at hSw)
              go_simp
              first | done | with_reducible rfl | rfl | (rw [if_neg (by omega)])
            (try simp only [Act.put, List.setIfInBounds_toArray, List.set_cons_zero, List.set_cons_succ])
            refine wpAnyH_take (i := 13) (oi := { dst := some 63, op := Op.indexAddr 41 (Operand.tmp 61) (Operand.tmp 62), type := 0, pos := "whole.go:135", after := #[{ on := 11, ground := Ground.data }, { on := 12, ground := Ground.data }, { on := 10, ground := Ground.guard }], guard := some (10, false) }) (v := ?v72x13) rfl (by kernel_rfl) (by kernel_rfl) (by kernel_rfl) (fun _ _ _ h => h) (Or.inl ⟨by rfl, ?h72x13⟩) (by assumption) ?r72x13
            case h72x13 =>
              intro w' hSw
              (try dsimp only at hSw)
              go_simp
              first | done | with_reducible rfl | rfl | (rw [if_neg (by omega)])
            (try simp only [Act.put, List.setIfInBounds_toArray, List.set_cons_zero, List.set_cons_succ])
            refine wpAnyH_take (i := 14) (oi := { dst := some 64, op := Op.load 9 (Operand.tmp 63), type := 9, pos := "whole.go:135", after := #[{ on := 13, ground := Ground.data }, { on := 10, ground := Ground.guard }], guard := some (10, false) }) (v := ?v73x14) rfl (by kernel_rfl) (by kernel_rfl) (by kernel_rfl) (fun _ _ _ h => h) (Or.inl ⟨by rfl, ?h73x14⟩) (by assumption) ?r73x14
            case h73x14 =>
              intro w' hSw
              (try dsimp only at hSw)
              go_simp
              first | done | with_reducible rfl | rfl | (rw [if_neg (by omega)])
            (try simp only [Act.put, List.setIfInBounds_toArray, List.set_cons_zero, List.set_cons_succ])
            refine wpAnyH_take (i := 17) (oi := { dst := some 67, op := Op.move (Operand.tmp 6), type := 41, pos := "whole.go:135", after := #[{ on := 10, ground := Ground.guard }], guard := some (10, false) }) (v := ?v74x17) rfl (by kernel_rfl) (by kernel_rfl) (by kernel_rfl) (fun _ _ _ h => h) (Or.inl ⟨by rfl, ?h74x17⟩) (by assumption) ?r74x17
            case h74x17 =>
              intro w' hSw
              (try dsimp only at hSw)
              go_simp
              first | done | with_reducible rfl | rfl | (rw [if_neg (by omega)])
            (try simp only [Act.put, List.setIfInBounds_toArray, List.set_cons_zero, List.set_cons_succ])
            refine wpAnyH_take (i := 18) (oi := { dst := some 68, op := Op.move (Operand.tmp 7), type := 3, pos := "whole.go:135", after := #[{ on := 10, ground := Ground.guard }], guard := some (10, false) }) (v := ?v75x18) rfl (by kernel_rfl) (by kernel_rfl) (by kernel_rfl) (fun _ _ _ h => h) (Or.inl ⟨by rfl, ?h75x18⟩) (by assumption) ?r75x18
            case h75x18 =>
              intro w' hSw
              (try dsimp only at hSw)
              go_simp
              first | done | with_reducible rfl | rfl | (rw [if_neg (by omega)])
            (try simp only [Act.put, List.setIfInBounds_toArray, List.set_cons_zero, List.set_cons_succ])
            refine wpAnyH_take (i := 19) (oi := { dst := some 69, op := Op.indexAddr 41 (Operand.tmp 67) (Operand.tmp 68), type := 0, pos := "whole.go:135", after := #[{ on := 17, ground := Ground.data }, { on := 18, ground := Ground.data }, { on := 10, ground := Ground.guard }], guard := some (10, false) }) (v := ?v76x19) rfl (by kernel_rfl) (by kernel_rfl) (by kernel_rfl) (fun _ _ _ h => h) (Or.inl ⟨by rfl, ?h76x19⟩) (by assumption) ?r76x19
            case h76x19 =>
              intro w' hSw
              (try dsimp only at hSw)
              go_simp
              first | done | with_reducible rfl | rfl | (rw [if_neg (by omega)])
            (try simp only [Act.put, List.setIfInBounds_toArray, List.set_cons_zero, List.set_cons_succ])
            refine wpAnyH_take (i := 20) (oi := { dst := some 70, op := Op.load 9 (Operand.tmp 69), type := 9, pos := "whole.go:135", after := #[{ on := 19, ground := Ground.data }, { on := 10, ground := Ground.guard }], guard := some (10, false) }) (v := ?v77x20) rfl (by kernel_rfl) (by kernel_rfl) (by kernel_rfl) (fun _ _ _ h => h) (Or.inl ⟨by rfl, ?h77x20⟩) (by assumption) ?r77x20
            case h77x20 =>
              intro w' hSw
              (try dsimp only at hSw)
              go_simp
              first | done | with_reducible rfl | rfl | (rw [if_neg (by omega)])
            (try simp only [Act.put, List.setIfInBounds_toArray, List.set_cons_zero, List.set_cons_succ])
            refine wpAnyH_ready (rs := [15]) (by kernel_rfl) (by simp) (AllReadyH.cons rfl (fun K hK => ?_) AllReadyH.nil)
            go_simp
            go_wp2_with fail
            refine (HSA.out _).mono ?_
            rintro e X3 ⟨rfl, rfl⟩
            go_wp2_with fail
            refine hK.out _ _ HS2.out (fun hHeld => ?_)
            clear hK K
            refine wpAnyH_take (i := 16) (oi := { dst := some 66, op := Op.convert 44 3 (Operand.tmp 65), type := 3, pos := "whole.go:135", after := #[{ on := 15, ground := Ground.data }, { on := 10, ground := Ground.guard }], guard := some (10, false) }) (v := ?v78x16) rfl (by kernel_rfl) (by kernel_rfl) (by kernel_rfl) (fun _ _ _ h => h) (Or.inl ⟨by rfl, ?h78x16⟩) (by assumption) ?r78x16
            case h78x16 =>
              intro w' hSw
              (try dsimp only at hSw)
              go_simp
              first | done | with_reducible rfl | rfl | (rw [if_neg (by omega)])
            (try simp only [Act.put, List.setIfInBounds_toArray, List.set_cons_zero, List.set_cons_succ])
            refine wpAnyH_ready (rs := [21]) (by kernel_rfl) (by simp) (AllReadyH.cons rfl (fun K hK => ?_) AllReadyH.nil)
            go_simp
            go_wp2_with fail
            refine (HSB.out _).mono ?_
            rintro e X4 ⟨rfl, rfl⟩
            go_wp2_with fail
            refine hK.out _ _ HS2.out (fun hHeld => ?_)
            clear hK K
            refine wpAnyH_take (i := 22) (oi := { dst := some 72, op := Op.binOp BinOp.neq 3 (Operand.tmp 66) (Operand.tmp 71) 3, type := 4, pos := "whole.go:135", after := #[{ on := 16, ground := Ground.data }, { on := 21, ground := Ground.data }, { on := 10, ground := Ground.guard }], guard := some (10, false) }) (v := ?v79x22) rfl (by kernel_rfl) (by kernel_rfl) (by kernel_rfl) (fun _ _ _ h => h) (Or.inl ⟨by rfl, ?h79x22⟩) (by assumption) ?r79x22
            case h79x22 =>
              intro w' hSw
              (try dsimp only at hSw)
              go_simp
              first | done | with_reducible rfl | rfl | (rw [if_neg (by omega)])
            (try simp only [Act.put, List.setIfInBounds_toArray, List.set_cons_zero, List.set_cons_succ])
            refine wpAnyH_take (i := 23) (oi := { dst := some 73, op := Op.pick (Operand.tmp 60) (Operand.const (Value.bool true)) (Operand.tmp 72), type := 4, pos := "whole.go:135", after := #[{ on := 10, ground := Ground.data }, { on := 22, ground := Ground.data }], guard := none }) (v := ?v80x23) rfl (by kernel_rfl) (by kernel_rfl) (by kernel_rfl) (fun _ _ _ h => h) (Or.inl ⟨by rfl, ?h80x23⟩) (by assumption) ?r80x23
            case h80x23 =>
              intro w' hSw
              (try dsimp only at hSw)
              go_simp
              first | done | with_reducible rfl | rfl | (rw [if_neg (by omega)])
            (try simp only [Act.put, List.setIfInBounds_toArray, List.set_cons_zero, List.set_cons_succ])
            refine wpAnyH_done (by kernel_rfl) ?_ _
            clear hHeld
            go_wp2_with fail
            go_roundw
            case rel => exact ⟨1 + 1, by omega, by go_num, HB2.out.trans (HB3.out.mono HB2.out.size)⟩
            case measure => simp [intOf]
        · go_wp2_with fail
          go_ret
          exact ⟨rfl, HBw.out⟩
end Go.Proofs.YtlljniaobbbjgaaGreatDoor

