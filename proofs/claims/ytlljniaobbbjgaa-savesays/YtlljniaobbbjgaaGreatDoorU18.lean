/- VT4, VP3 -/
import Derived.Test.YtlljniaobbbjgaaGreatDoorU17
import Derived.Test.YtlljniaobbbjgaaGreatDoorU16
namespace Go.Proofs.YtlljniaobbbjgaaGreatDoor
open Go.RowKit
open Qos (Nd Ct Pd nd ct pd)
open Sv (Gv Hd gv hd podTxt bodyTo body heldTxt sumTxt heldF OkH OkL)
open S1 (Tab)
def textV (hs : List Hd) : Value := if heldF hs = 0 then .tuple #[.string ⟨(heldTxt hs).toArray⟩, .nilIface] else .tuple #[.string ⟨#[]⟩, errV (heldF hs : Nat)]
theorem bodyTo_next (hs : List Hd) (k : Nat) : bodyTo hs (k + 1) = bodyTo hs k ++ podTxt (hd hs k) := rfl
set_option maxRecDepth 100000 in
set_option maxHeartbeats 2000000 in
theorem text_any (v : Value) (hs : List Hd) (w : World) (h : HldsAt w v hs) (ht : TabUp w) : Calls Tryz.prog 9 #[v] w fun e w' => e = .returned (textV hs) ∧ Below w.heap.size w w' := by
  have HCK := hideIt (saveCheck_any v hs w h)
  by_cases hf : heldF hs = 0
  · have HE : Hid (textV hs = .tuple #[.string ⟨(heldTxt hs).toArray⟩, .nilIface]) := by unfold Hid textV; rw [if_pos hf]
    have hok := Sv.okL_of hf h.cps
    have e0 : errV ((heldF hs : Nat) : Int) = .nilIface := by rw [hf]; rfl
    have HH := hideIt h
    have HT := hideIt ht
    have HO := hideIt hok
    obtain ⟨ao, c, rfl, hm, _⟩ := h
    have hlen := hok.1
    unfold maxLen at hm
    have HHT : Hid (heldTxt hs = body hs ++ sumTxt (body hs)) := rfl
    have HBD : Hid (body hs = bodyTo hs hs.length) := rfl
    have HBL := hideIt (Sv.bodyTo_le hok)
    have HSL := hideIt (Sv.sumTxt_le (body hs))
    clear ht hok
    go_enter Tryz.func9, Tryz.ntmps9
    go_wp2_with fail
    refine HCK.out.mono ?_
    rintro e w1 ⟨rfl, hb1⟩
    rw [e0]
    have HB1 := hideIt hb1
    have HB2 := hideIt (hb1.alloc hb1.size (.cells #[.pointer none, .slice none 0 0] 73))
    have HBT := hideIt (built_new w1)
    have HZ1 : Hid (w1.heap.size ≤ (w1.alloc (.cells #[.pointer none, .slice none 0 0] 73)).heap.size) := by unfold Hid; simp
    clear hb1 HCK
    go_wp2_with fail
    go_loopw [16] (fun i wr => ∃ k : Nat, k ≤ hs.length ∧ i = .int .i64 k ∧ Below w.heap.size w wr ∧ BuiltAt w1.heap.size w1.heap.size (bodyTo hs k) wr ∧ Hid (w1.heap.size ≤ wr.heap.size)) (fun i _ => hs.length - (intOf i).toNat)
    case atStart => exact ⟨0, Nat.zero_le _, rfl, HB2.out, HBT.out, HZ1⟩
    case round =>
      obtain ⟨k, hk, rfl, hB, hbt, HZ⟩ := hrel
      by_cases hlt : k < hs.length
      · obtain ⟨_, _, hv, _, hr⟩ := HH.out.below hB
        cases hv
        obtain ⟨b, o, cv, gvv, rfl, hin⟩ := hr (by omega)
        obtain ⟨c0, c1, c2, c3⟩ := hin.at hlt
        obtain ⟨_, hC, hG⟩ := hin.2 k hlt
        have HBX := hideIt ((Below.refl wr.heap.size wr).alloc (Nat.le_refl _) (.cells #[.string (hd hs k).pod.nm, .int .i64 (hd hs k).pod.pr, cv k, gvv k] 67))
        have HBa := hideIt (hB.trans (HBX.out.mono hB.size))
        have HBTa := hideIt (hbt.below HBX.out)
        have oh := HO.out.2 _ (Sv.mem_hd hlt)
        have HPT := hideIt (podText_any (hd hs k) (cv k) (gvv k) wr.heap.size _ (hC.below HBX.out) (by simp) (hG.below HBX.out) oh (HT.out.below HBa.out))
        unfold podV at HPT
        have hpl := Sv.podTxt_le oh
        have hbl := HBL.out k hk
        have HST := hideIt (bodyTo_next hs k)
        obtain ⟨ca, cc, hs1⟩ := hC.sl
        obtain ⟨ga, gc, hs2⟩ := hG.sl
        clear hin hC hG hB hbt oh hr HBL
        generalize bodyTo hs k = BT at *
        generalize podTxt (hd hs k) = PT at *
        generalize (hd hs k).pod.nm = nm at *
        generalize (hd hs k).pod.pr = pr at *
        generalize (hd hs k).pod.cs.length = cl at *
        generalize (hd hs k).gs.length = gl at *
        generalize cv k = cvk at *
        generalize gvv k = gvk at *
        subst hs1 hs2
        have hwl : BT.length + PT.length ≤ 1000000 := by omega
        go_wp2_with fail
        refine HPT.out.mono ?_
        rintro e W1 ⟨rfl, hbb⟩
        have HB4 := hideIt (HBa.out.trans (hbb.mono HBa.out.size))
        have HBT4 := hideIt (HBTa.out.below hbb)
        have hz4 : w1.heap.size ≤ W1.heap.size := Nat.le_trans HZ.out (Nat.le_trans HBX.out.size hbb.size)
        clear hbb
        go_wp2_with fail
        refine (write_any _ _ _ _ _ HBT4.out hwl hz4).mono ?_
        rintro e W5 ⟨rfl, hbt5, hb5⟩
        have HB5 := hideIt (HB4.out.trans (hb5.mono HB1.out.size))
        have HZ5 := hideIt (Nat.le_trans hz4 hb5.size)
        have HBT5 := hideIt hbt5
        clear hbt5 hb5
        go_wp2_with fail
        go_roundw
        case rel => exact ⟨k + 1, by omega, by go_num, HB5.out, by rw [HST.out]; exact HBT5.out, HZ5⟩
        case measure => simp [intOf]; omega
      · have hke : k = hs.length := by omega
        subst hke
        have hbl := HBL.out _ (Nat.le_refl _)
        rw [← HBD.out] at hbt hbl
        have hsl := HSL.out
        have HSM : Hid (∀ W, Below w.heap.size w W → Calls Tryz.prog 32 #[.string ⟨(body hs).toArray⟩] W fun e w' => e = .returned (.string ⟨(sumTxt (body hs)).toArray⟩) ∧ Below W.heap.size W w') := fun W hb => sumLine_any _ W (by omega) (HT.out.below hb).1
        clear HBD HSL HBL
        generalize sumTxt (body hs) = ST at *
        generalize body hs = BD at *
        have ec := strcat BD ST
        go_wp2_with fail
        refine (string_any _ _ _ _ hbt HZ.out).mono ?_
        rintro e W1 ⟨rfl, hb2⟩
        have HB3 := hideIt (hB.trans (hb2.mono HB1.out.size))
        clear hb2 hB hbt
        go_wp2_with fail
        refine (HSM.out _ HB3.out).mono ?_
        rintro e W2 ⟨rfl, hb3⟩
        have HB4 := hideIt (HB3.out.trans (hb3.mono HB3.out.size))
        clear hb3
        go_wp2_with fail
        go_ret2
        refine ⟨?_, HB4.out⟩
        rw [HE.out, HHT.out, ← ec]
        rfl
  · have HE : Hid (textV hs = .tuple #[.string ⟨#[]⟩, errV (heldF hs : Nat)]) := by unfold Hid textV; rw [if_neg hf]
    have HP := hideIt (errQ_pos hf)
    obtain ⟨ao, c, rfl, hm, _⟩ := h
    clear ht
    go_enter Tryz.func9, Tryz.ntmps9
    go_wp2_with fail
    refine HCK.out.mono ?_
    rintro e w1 ⟨rfl, hb⟩
    rw [HP.out]
    go_wp2_with fail
    go_ret2
    exact ⟨by rw [HE.out, HP.out]; rfl, hb⟩
end Go.Proofs.YtlljniaobbbjgaaGreatDoor
namespace Go.Proofs.YtlljniaobbbjgaaGreatDoor
open Go.RowKit Go.Shelf
open Qos (Nd Ct Pd nd ct pd)
open Sv (Gv Hd gv hd wd Tx sumTxt heldTxt heldF body readS)
open S1 (Mx Tab)
namespace Sv
/-- What a text is read as: an error's number, and what is held. -/
def parseS (t : Tx) : Nat × List Hd :=
  if 6000 < t.length then (2, []) else
  match cutS t with
  | none => (12, [])
  | some b => match readS b with
    | none => (4, [])
    | some hs => if heldF hs = 0 ∧ heldTxt hs = t then (0, hs) else (4, [])
theorem parseS_long {t : Tx} (h : 6000 < t.length) : parseS t = (2, []) := if_pos h
theorem parseS_sum {t : Tx} (h : ¬ 6000 < t.length) (h1 : cutS t = none) : parseS t = (12, []) := by
  unfold parseS; rw [if_neg h, h1]
theorem parseS_read {t b : Tx} (h : ¬ 6000 < t.length) (h1 : cutS t = some b) (h2 : readS b = none) : parseS t = (4, []) := by
  unfold parseS; rw [if_neg h, h1]; dsimp only; rw [h2]
theorem parseS_some {t b : Tx} {hs : List Hd} (h : ¬ 6000 < t.length) (h1 : cutS t = some b) (h2 : readS b = some hs) : parseS t = if heldF hs = 0 ∧ heldTxt hs = t then (0, hs) else (4, []) := by
  unfold parseS; rw [if_neg h, h1]; dsimp only; rw [h2]
/-- What is written is read. -/
theorem parseS_text {hs : List Hd} (e : OkL hs) (hf : heldF hs = 0) (hl : (heldTxt hs).length ≤ 6000) : parseS (heldTxt hs) = (0, hs) := by
  have h1 : cutS (heldTxt hs) = some (body hs) := cutS_app (body hs)
  rw [parseS_some (by omega) h1 (readS_body e), if_pos ⟨hf, rfl⟩]
/-- What is read without an error is held as it may be, and its text is the text. -/
theorem parseS_zero {t : Tx} (h : (parseS t).1 = 0) : heldF (parseS t).2 = 0 ∧ heldTxt (parseS t).2 = t ∧ t.length ≤ 6000 := by
  by_cases h0 : 6000 < t.length
  · rw [parseS_long h0] at h; cases h
  · cases h1 : cutS t with
    | none => rw [parseS_sum h0 h1] at h; cases h
    | some b =>
      cases h2 : readS b with
      | none => rw [parseS_read h0 h1 h2] at h; cases h
      | some hs =>
        rw [parseS_some h0 h1 h2] at h ⊢
        by_cases h3 : heldF hs = 0 ∧ heldTxt hs = t
        · rw [if_pos h3]; exact ⟨h3.1, h3.2, by omega⟩
        · rw [if_neg h3] at h; cases h
end Sv
/-- What the reading of a text leaves. -/
def ParseOut (w : World) (t : List UInt8) (e : Ending) (w' : World) : Prop :=
  ∃ v, e = .returned (.tuple #[v, errV ((Sv.parseS t).1 : Nat)]) ∧ HldsAt w' v (Sv.parseS t).2 ∧ Below w.heap.size w w'
theorem hlds_nil (w : World) : HldsAt w (.slice none 0 0) [] := ⟨none, 0, rfl, ⟨Nat.le_refl _, by unfold maxLen; omega⟩, fun h => by simp at h⟩
set_option maxRecDepth 100000 in
set_option maxHeartbeats 2000000 in
theorem parse_any (t : List UInt8) (w : World) (ht : t.length ≤ 1000000) (htab : TabUp w) (hm : Mx w) : Calls Tryz.prog 16 #[.string ⟨t.toArray⟩] w (ParseOut w t) := by
  have HT := hideIt htab
  have HM := hideIt hm
  clear htab hm
  by_cases h0 : 6000 < t.length
  · have HP := hideIt (Sv.parseS_long h0)
    have hx : decide ((6000 : Int) < (t.length : Int)) = true := by simp; omega
    go_enter Tryz.func16, Tryz.ntmps16
    go_wp2_with fail
    go_ret2
    exact ⟨_, by rw [HP.out]; rfl, by rw [HP.out]; exact hlds_nil _, Below.refl _ _⟩
  · have hx : decide ((6000 : Int) < (t.length : Int)) = false := by simp; omega
    have HCS := hideIt (cutSum_any t w ht HT.out)
    cases h1 : Sv.cutS t with
    | none =>
      have HP := hideIt (Sv.parseS_sum h0 h1)
      rw [h1] at HCS
      clear h1
      go_enter Tryz.func16, Tryz.ntmps16
      go_wp2_with fail
      refine HCS.out.mono ?_
      rintro e w1 ⟨rfl, hb1⟩
      have HB1 := hideIt hb1
      clear hb1
      go_wp2_with fail
      go_ret2
      exact ⟨_, by rw [HP.out]; rfl, by rw [HP.out]; exact hlds_nil _, HB1.out⟩
    | some b =>
      rw [Sv.aheadS_cut h1, h1] at HCS
      have hbl : b.length ≤ t.length := Sv.cutS_le h1
      cases h2 : readS b with
      | none =>
        have HP := hideIt (Sv.parseS_read h0 h1 h2)
        clear h1
        have HRH : Hid (∀ W, Mx W → Calls Tryz.prog 44 #[.string ⟨b.toArray⟩] W fun e w' => ∃ a n c, e = .returned (.tuple #[.slice a n c, .bool false]) ∧ Below W.heap.size W w') := fun W hW => (readHeld_any b W (by omega) hW).mono (by
          rintro e w' ⟨v, rfl, _, ⟨a, n, c, rfl⟩, hb⟩
          exact ⟨a, n, c, by rw [h2]; rfl, hb⟩)
        clear h2
        go_enter Tryz.func16, Tryz.ntmps16
        go_wp2_with fail
        refine HCS.out.mono ?_
        rintro e w1 ⟨rfl, hb1⟩
        have HB1 := hideIt hb1
        clear hb1
        go_wp2_with fail
        refine (HRH.out w1 (HM.out.below HB1.out)).mono ?_
        rintro e w2 ⟨a, n, c, rfl, hb2⟩
        have HB2 := hideIt (HB1.out.trans (hb2.mono HB1.out.size))
        clear hb2
        go_wp2_with fail
        go_ret2
        exact ⟨_, by rw [HP.out]; rfl, by rw [HP.out]; exact hlds_nil _, HB2.out⟩
      | some hs =>
        have HP := hideIt (Sv.parseS_some h0 h1 h2)
        clear h1
        have HRH : Hid (∀ W, Mx W → Calls Tryz.prog 44 #[.string ⟨b.toArray⟩] W fun e w' => ∃ a n c, e = .returned (.tuple #[.slice a n c, .bool true]) ∧ HldsAt w' (.slice a n c) hs ∧ Below W.heap.size W w') := fun W hW => (readHeld_any b W (by omega) hW).mono (by
          rintro e w' ⟨v, rfl, h, ⟨a, n, c, rfl⟩, hb⟩
          exact ⟨a, n, c, by rw [h2]; rfl, h hs h2, hb⟩)
        clear h2
        go_enter Tryz.func16, Tryz.ntmps16
        go_wp2_with fail
        refine HCS.out.mono ?_
        rintro e w1 ⟨rfl, hb1⟩
        have HB1 := hideIt hb1
        clear hb1
        go_wp2_with fail
        refine (HRH.out w1 (HM.out.below HB1.out)).mono ?_
        rintro e w2 ⟨a, n, c, rfl, hat, hb2⟩
        have HB2 := hideIt (HB1.out.trans (hb2.mono HB1.out.size))
        have HAT := hideIt hat
        clear hb2 hat HRH HCS
        by_cases hf : heldF hs = 0
        · have HTV : Hid (textV hs = .tuple #[.string ⟨(heldTxt hs).toArray⟩, .nilIface]) := by unfold Hid textV; rw [if_pos hf]
          by_cases he : heldTxt hs = t
          · rw [if_pos ⟨hf, he⟩] at HP
            rw [he] at HTV
            clear hf he
            go_wp2_with fail
            refine (text_any _ hs w2 HAT.out (HT.out.below HB2.out)).mono ?_
            rintro e w3 ⟨rfl, hb3⟩
            have HB3 := hideIt (HB2.out.trans (hb3.mono HB2.out.size))
            have HAT3 := hideIt (HAT.out.below hb3)
            clear hb3
            rw [HTV.out]
            go_wp2_with fail
            go_ret2
            exact ⟨_, by rw [HP.out]; rfl, by rw [HP.out]; exact HAT3.out, HB3.out⟩
          · rw [if_neg (fun h => he h.2)] at HP
            have hne : (heldTxt hs == t) = false := by simpa using he
            have hne' : (heldTxt hs != t) = true := by simpa using he
            generalize heldTxt hs = x at *
            clear hf he
            go_wp2_with fail
            refine (text_any _ hs w2 HAT.out (HT.out.below HB2.out)).mono ?_
            rintro e w3 ⟨rfl, hb3⟩
            have HB3 := hideIt (HB2.out.trans (hb3.mono HB2.out.size))
            clear hb3
            rw [HTV.out]
            go_wp2_with fail
            go_ret2
            exact ⟨_, by rw [HP.out]; rfl, by rw [HP.out]; exact hlds_nil _, HB3.out⟩
        · rw [if_neg (fun h => hf h.1)] at HP
          have HTV : Hid (textV hs = .tuple #[.string ⟨#[]⟩, errV (heldF hs : Nat)]) := by unfold Hid textV; rw [if_neg hf]
          have HEP := hideIt (errQ_pos hf)
          clear hf
          go_wp2_with fail
          refine (text_any _ hs w2 HAT.out (HT.out.below HB2.out)).mono ?_
          rintro e w3 ⟨rfl, hb3⟩
          have HB3 := hideIt (HB2.out.trans (hb3.mono HB2.out.size))
          clear hb3
          rw [HTV.out, HEP.out]
          go_wp2_with fail
          go_ret2
          exact ⟨_, by rw [HP.out]; rfl, by rw [HP.out]; exact hlds_nil _, HB3.out⟩
end Go.Proofs.YtlljniaobbbjgaaGreatDoor
