/- VT4, VP3, VYM, VY2, VY3, VYR -/
import Derived.Test.YtlljniaobbbjgaaGreatDoorU12
import Derived.Test.YtlljniaobbbjgaaGreatDoorU11
import Derived.Test.YtlljniaobbbjgaaGreatDoorU5
import Derived.Deep.RegionHeld3
import Derived.Test.YtlljniaobbbjgaaGreatDoorU9
import Derived.Deep.AppendLies
namespace Go.Proofs.YtlljniaobbbjgaaGreatDoor
open Go.RowKit
open Qos (Nd Ct Pd nd ct pd)
open Sv (Gv Hd gv hd podTxt bodyTo body heldTxt sumTxt heldF OkH OkL)
open S1 (Tab)
def textV (hs : List Hd) : Value := if heldF hs = 0 then .tuple #[.string ⟨(heldTxt hs).toArray⟩, .nilIface] else .tuple #[.string ⟨#[]⟩, errV (heldF hs : Nat)]
theorem bodyTo_next (hs : List Hd) (k : Nat) : bodyTo hs (k + 1) = bodyTo hs k ++ podTxt (hd hs k) := rfl
set_option maxRecDepth 100000 in
set_option maxHeartbeats 2000000 in
theorem text_any (v : Value) (hs : List Hd) (w : World) (h : HldsAt w v hs) (ht : TabUp w) : Calls Tryz.prog 9 #[v] w fun e w' => e = .returned (textV hs) ∧ Below w.heap.size w w' := by
  have HCK := hideIt (saveCheck_any v hs w h)
  by_cases hf : heldF hs = 0
  · have HE : Hid (textV hs = .tuple #[.string ⟨(heldTxt hs).toArray⟩, .nilIface]) := by unfold Hid textV; rw [if_pos hf]
    have hok := Sv.okL_of hf h.cps
    have e0 : errV ((heldF hs : Nat) : Int) = .nilIface := by rw [hf]; rfl
    have HH := hideIt h
    have HT := hideIt ht
    have HO := hideIt hok
    obtain ⟨ao, c, rfl, hm, _⟩ := h
    have hlen := hok.1
    unfold maxLen at hm
    have HHT : Hid (heldTxt hs = body hs ++ sumTxt (body hs)) := rfl
    have HBD : Hid (body hs = bodyTo hs hs.length) := rfl
    have HBL := hideIt (Sv.bodyTo_le hok)
    have HSL := hideIt (Sv.sumTxt_le (body hs))
    clear ht hok
    go_enter Tryz.func9, Tryz.ntmps9
    go_wp2_with fail
    refine HCK.out.mono ?_
    rintro e w1 ⟨rfl, hb1⟩
    rw [e0]
    have HB1 := hideIt hb1
    have HB2 := hideIt (hb1.alloc hb1.size (.cells #[.pointer none, .slice none 0 0] 73))
    have HBT := hideIt (built_new w1)
    have HZ1 : Hid (w1.heap.size ≤ (w1.alloc (.cells #[.pointer none, .slice none 0 0] 73)).heap.size) := by unfold Hid; simp
    clear hb1 HCK
    go_wp2_with fail
    go_loopw [16] (fun i wr => ∃ k : Nat, k ≤ hs.length ∧ i = .int .i64 k ∧ Below w.heap.size w wr ∧ BuiltAt w1.heap.size w1.heap.size (bodyTo hs k) wr ∧ Hid (w1.heap.size ≤ wr.heap.size)) (fun i _ => hs.length - (intOf i).toNat)
    case atStart => exact ⟨0, Nat.zero_le _, rfl, HB2.out, HBT.out, HZ1⟩
    case round =>
      obtain ⟨k, hk, rfl, hB, hbt, HZ⟩ := hrel
      by_cases hlt : k < hs.length
      · obtain ⟨_, _, hv, _, hr⟩ := HH.out.below hB
        cases hv
        obtain ⟨b, o, cv, gvv, rfl, hin⟩ := hr (by omega)
        obtain ⟨c0, c1, c2, c3⟩ := hin.at hlt
        obtain ⟨_, hC, hG⟩ := hin.2 k hlt
        have HBX := hideIt ((Below.refl wr.heap.size wr).alloc (Nat.le_refl _) (.cells #[.string (hd hs k).pod.nm, .int .i64 (hd hs k).pod.pr, cv k, gvv k] 67))
        have HBa := hideIt (hB.trans (HBX.out.mono hB.size))
        have HBTa := hideIt (hbt.below HBX.out)
        have oh := HO.out.2 _ (Sv.mem_hd hlt)
        have HPT := hideIt (podText_any (hd hs k) (cv k) (gvv k) wr.heap.size _ (hC.below HBX.out) (by simp) (hG.below HBX.out) oh (HT.out.below HBa.out))
        unfold podV at HPT
        have hpl := Sv.podTxt_le oh
        have hbl := HBL.out k hk
        have HST := hideIt (bodyTo_next hs k)
        obtain ⟨ca, cc, hs1⟩ := hC.sl
        obtain ⟨ga, gc, hs2⟩ := hG.sl
        clear hin hC hG hB hbt oh hr HBL
        generalize bodyTo hs k = BT at *
        generalize podTxt (hd hs k) = PT at *
        generalize (hd hs k).pod.nm = nm at *
        generalize (hd hs k).pod.pr = pr at *
        generalize (hd hs k).pod.cs.length = cl at *
        generalize (hd hs k).gs.length = gl at *
        generalize cv k = cvk at *
        generalize gvv k = gvk at *
        subst hs1 hs2
        have hwl : BT.length + PT.length ≤ 1000000 := by omega
        go_wp2_with fail
        refine HPT.out.mono ?_
        rintro e W1 ⟨rfl, hbb⟩
        have HB4 := hideIt (HBa.out.trans (hbb.mono HBa.out.size))
        have HBT4 := hideIt (HBTa.out.below hbb)
        have hz4 : w1.heap.size ≤ W1.heap.size := Nat.le_trans HZ.out (Nat.le_trans HBX.out.size hbb.size)
        clear hbb
        go_wp2_with fail
        refine (write_any _ _ _ _ _ HBT4.out hwl hz4).mono ?_
        rintro e W5 ⟨rfl, hbt5, hb5⟩
        have HB5 := hideIt (HB4.out.trans (hb5.mono HB1.out.size))
        have HZ5 := hideIt (Nat.le_trans hz4 hb5.size)
        have HBT5 := hideIt hbt5
        clear hbt5 hb5
        go_wp2_with fail
        go_roundw
        case rel => exact ⟨k + 1, by omega, by go_num, HB5.out, by rw [HST.out]; exact HBT5.out, HZ5⟩
        case measure => simp [intOf]; omega
      · have hke : k = hs.length := by omega
        subst hke
        have hbl := HBL.out _ (Nat.le_refl _)
        rw [← HBD.out] at hbt hbl
        have hsl := HSL.out
        have HSM : Hid (∀ W, Below w.heap.size w W → Calls Tryz.prog 32 #[.string ⟨(body hs).toArray⟩] W fun e w' => e = .returned (.string ⟨(sumTxt (body hs)).toArray⟩) ∧ Below W.heap.size W w') := fun W hb => sumLine_any _ W (by omega) (HT.out.below hb).1
        clear HBD HSL HBL
        generalize sumTxt (body hs) = ST at *
        generalize body hs = BD at *
        have ec := strcat BD ST
        go_wp2_with fail
        refine (string_any _ _ _ _ hbt HZ.out).mono ?_
        rintro e W1 ⟨rfl, hb2⟩
        have HB3 := hideIt (hB.trans (hb2.mono HB1.out.size))
        clear hb2 hB hbt
        go_wp2_with fail
        refine (HSM.out _ HB3.out).mono ?_
        rintro e W2 ⟨rfl, hb3⟩
        have HB4 := hideIt (HB3.out.trans (hb3.mono HB3.out.size))
        clear hb3
        go_wp2_with fail
        go_ret2
        refine ⟨?_, HB4.out⟩
        rw [HE.out, HHT.out, ← ec]
        rfl
  · have HE : Hid (textV hs = .tuple #[.string ⟨#[]⟩, errV (heldF hs : Nat)]) := by unfold Hid textV; rw [if_neg hf]
    have HP := hideIt (errQ_pos hf)
    obtain ⟨ao, c, rfl, hm, _⟩ := h
    clear ht
    go_enter Tryz.func9, Tryz.ntmps9
    go_wp2_with fail
    refine HCK.out.mono ?_
    rintro e w1 ⟨rfl, hb⟩
    rw [HP.out]
    go_wp2_with fail
    go_ret2
    exact ⟨by rw [HE.out, HP.out]; rfl, hb⟩
end Go.Proofs.YtlljniaobbbjgaaGreatDoor

namespace Go.Proofs.YtlljniaobbbjgaaGreatDoor
open Go.RowKit Go.Shelf
open Qos (Nd Ct Pd nd ct pd)
open Sv (Gv Hd gv hd wd Tx sumTxt heldTxt heldF body readS)
open S1 (Mx Tab)
namespace Sv
/-- What a text is read as: an error's number, and what is held. -/
def parseS (t : Tx) : Nat × List Hd :=
  if 6000 < t.length then (2, []) else
  match cutS t with
  | none => (12, [])
  | some b => match readS b with
    | none => (4, [])
    | some hs => if heldF hs = 0 ∧ heldTxt hs = t then (0, hs) else (4, [])
theorem parseS_long {t : Tx} (h : 6000 < t.length) : parseS t = (2, []) := if_pos h
theorem parseS_sum {t : Tx} (h : ¬ 6000 < t.length) (h1 : cutS t = none) : parseS t = (12, []) := by
  unfold parseS; rw [if_neg h, h1]
theorem parseS_read {t b : Tx} (h : ¬ 6000 < t.length) (h1 : cutS t = some b) (h2 : readS b = none) : parseS t = (4, []) := by
  unfold parseS; rw [if_neg h, h1]; dsimp only; rw [h2]
theorem parseS_some {t b : Tx} {hs : List Hd} (h : ¬ 6000 < t.length) (h1 : cutS t = some b) (h2 : readS b = some hs) : parseS t = if heldF hs = 0 ∧ heldTxt hs = t then (0, hs) else (4, []) := by
  unfold parseS; rw [if_neg h, h1]; dsimp only; rw [h2]
/-- What is written is read. -/
theorem parseS_text {hs : List Hd} (e : OkL hs) (hf : heldF hs = 0) (hl : (heldTxt hs).length ≤ 6000) : parseS (heldTxt hs) = (0, hs) := by
  have h1 : cutS (heldTxt hs) = some (body hs) := cutS_app (body hs)
  rw [parseS_some (by omega) h1 (readS_body e), if_pos ⟨hf, rfl⟩]
end Sv
/-- What the reading of a text leaves. -/
def ParseOut (w : World) (t : List UInt8) (e : Ending) (w' : World) : Prop :=
  ∃ v, e = .returned (.tuple #[v, errV ((Sv.parseS t).1 : Nat)]) ∧ HldsAt w' v (Sv.parseS t).2 ∧ Below w.heap.size w w'
theorem hlds_nil (w : World) : HldsAt w (.slice none 0 0) [] := ⟨none, 0, rfl, ⟨Nat.le_refl _, by unfold maxLen; omega⟩, fun h => by simp at h⟩
set_option maxRecDepth 100000 in
set_option maxHeartbeats 2000000 in
theorem parse_any (t : List UInt8) (w : World) (ht : t.length ≤ 1000000) (htab : TabUp w) (hm : Mx w) : Calls Tryz.prog 16 #[.string ⟨t.toArray⟩] w (ParseOut w t) := by
  have HT := hideIt htab
  have HM := hideIt hm
  clear htab hm
  by_cases h0 : 6000 < t.length
  · have HP := hideIt (Sv.parseS_long h0)
    have hx : decide ((6000 : Int) < (t.length : Int)) = true := by simp; omega
    go_enter Tryz.func16, Tryz.ntmps16
    go_wp2_with fail
    go_ret2
    exact ⟨_, by rw [HP.out]; rfl, by rw [HP.out]; exact hlds_nil _, Below.refl _ _⟩
  · have hx : decide ((6000 : Int) < (t.length : Int)) = false := by simp; omega
    have HCS := hideIt (cutSum_any t w ht HT.out)
    cases h1 : Sv.cutS t with
    | none =>
      have HP := hideIt (Sv.parseS_sum h0 h1)
      rw [h1] at HCS
      clear h1
      go_enter Tryz.func16, Tryz.ntmps16
      go_wp2_with fail
      refine HCS.out.mono ?_
      rintro e w1 ⟨rfl, hb1⟩
      have HB1 := hideIt hb1
      clear hb1
      go_wp2_with fail
      go_ret2
      exact ⟨_, by rw [HP.out]; rfl, by rw [HP.out]; exact hlds_nil _, HB1.out⟩
    | some b =>
      rw [Sv.aheadS_cut h1, h1] at HCS
      have hbl : b.length ≤ t.length := Sv.cutS_le h1
      cases h2 : readS b with
      | none =>
        have HP := hideIt (Sv.parseS_read h0 h1 h2)
        clear h1
        have HRH : Hid (∀ W, Mx W → Calls Tryz.prog 44 #[.string ⟨b.toArray⟩] W fun e w' => ∃ a n c, e = .returned (.tuple #[.slice a n c, .bool false]) ∧ Below W.heap.size W w') := fun W hW => (readHeld_any b W (by omega) hW).mono (by
          rintro e w' ⟨v, rfl, _, ⟨a, n, c, rfl⟩, hb⟩
          exact ⟨a, n, c, by rw [h2]; rfl, hb⟩)
        clear h2
        go_enter Tryz.func16, Tryz.ntmps16
        go_wp2_with fail
        refine HCS.out.mono ?_
        rintro e w1 ⟨rfl, hb1⟩
        have HB1 := hideIt hb1
        clear hb1
        go_wp2_with fail
        refine (HRH.out w1 (HM.out.below HB1.out)).mono ?_
        rintro e w2 ⟨a, n, c, rfl, hb2⟩
        have HB2 := hideIt (HB1.out.trans (hb2.mono HB1.out.size))
        clear hb2
        go_wp2_with fail
        go_ret2
        exact ⟨_, by rw [HP.out]; rfl, by rw [HP.out]; exact hlds_nil _, HB2.out⟩
      | some hs =>
        have HP := hideIt (Sv.parseS_some h0 h1 h2)
        clear h1
        have HRH : Hid (∀ W, Mx W → Calls Tryz.prog 44 #[.string ⟨b.toArray⟩] W fun e w' => ∃ a n c, e = .returned (.tuple #[.slice a n c, .bool true]) ∧ HldsAt w' (.slice a n c) hs ∧ Below W.heap.size W w') := fun W hW => (readHeld_any b W (by omega) hW).mono (by
          rintro e w' ⟨v, rfl, h, ⟨a, n, c, rfl⟩, hb⟩
          exact ⟨a, n, c, by rw [h2]; rfl, h hs h2, hb⟩)
        clear h2
        go_enter Tryz.func16, Tryz.ntmps16
        go_wp2_with fail
        refine HCS.out.mono ?_
        rintro e w1 ⟨rfl, hb1⟩
        have HB1 := hideIt hb1
        clear hb1
        go_wp2_with fail
        refine (HRH.out w1 (HM.out.below HB1.out)).mono ?_
        rintro e w2 ⟨a, n, c, rfl, hat, hb2⟩
        have HB2 := hideIt (HB1.out.trans (hb2.mono HB1.out.size))
        have HAT := hideIt hat
        clear hb2 hat HRH HCS
        by_cases hf : heldF hs = 0
        · have HTV : Hid (textV hs = .tuple #[.string ⟨(heldTxt hs).toArray⟩, .nilIface]) := by unfold Hid textV; rw [if_pos hf]
          by_cases he : heldTxt hs = t
          · rw [if_pos ⟨hf, he⟩] at HP
            rw [he] at HTV
            clear hf he
            go_wp2_with fail
            refine (text_any _ hs w2 HAT.out (HT.out.below HB2.out)).mono ?_
            rintro e w3 ⟨rfl, hb3⟩
            have HB3 := hideIt (HB2.out.trans (hb3.mono HB2.out.size))
            have HAT3 := hideIt (HAT.out.below hb3)
            clear hb3
            rw [HTV.out]
            go_wp2_with fail
            go_ret2
            exact ⟨_, by rw [HP.out]; rfl, by rw [HP.out]; exact HAT3.out, HB3.out⟩
          · rw [if_neg (fun h => he h.2)] at HP
            have hne : (heldTxt hs == t) = false := by simpa using he
            have hne' : (heldTxt hs != t) = true := by simpa using he
            generalize heldTxt hs = x at *
            clear hf he
            go_wp2_with fail
            refine (text_any _ hs w2 HAT.out (HT.out.below HB2.out)).mono ?_
            rintro e w3 ⟨rfl, hb3⟩
            have HB3 := hideIt (HB2.out.trans (hb3.mono HB2.out.size))
            clear hb3
            rw [HTV.out]
            go_wp2_with fail
            go_ret2
            exact ⟨_, by rw [HP.out]; rfl, by rw [HP.out]; exact hlds_nil _, HB3.out⟩
        · rw [if_neg (fun h => hf h.1)] at HP
          have HTV : Hid (textV hs = .tuple #[.string ⟨#[]⟩, errV (heldF hs : Nat)]) := by unfold Hid textV; rw [if_neg hf]
          have HEP := hideIt (errQ_pos hf)
          clear hf
          go_wp2_with fail
          refine (text_any _ hs w2 HAT.out (HT.out.below HB2.out)).mono ?_
          rintro e w3 ⟨rfl, hb3⟩
          have HB3 := hideIt (HB2.out.trans (hb3.mono HB2.out.size))
          clear hb3
          rw [HTV.out, HEP.out]
          go_wp2_with fail
          go_ret2
          exact ⟨_, by rw [HP.out]; rfl, by rw [HP.out]; exact hlds_nil _, HB3.out⟩
end Go.Proofs.YtlljniaobbbjgaaGreatDoor

namespace Go.Proofs.YtlljniaobbbjgaaGreatDoor
namespace Sv
open Qos (Nd Ct Pd nd ct pd)
def Cps (hs : List Hd) : Prop := ∀ h ∈ hs, ∀ g ∈ h.gs, g.cp < 18446744073709551616
theorem cpusOf_lt {l : Tx} {A : Nat} (h : cpusOf l = some A) : A < 18446744073709551616 := by
  unfold cpusOf at h
  split at h
  · injection h with h; omega
  · rename_i h45
    split at h
    · injection h with h
      have := cpOf_lt l
      unfold cpOf at this
      rw [if_neg h45] at this
      rw [← h]; exact this
    · cases h
theorem contOf_cp {num : Tx → Option Int} {need : Tx → Option Nd} {ws : List Tx} {x : Ct × Gv} (h : contOf num need ws = some x) : x.2.cp < 18446744073709551616 := by
  unfold contOf at h
  split at h
  · rename_i hA _
    injection h with h
    subst h
    exact cpusOf_lt hA
  · cases h
theorem step_cps {num : Tx → Option Int} {need : Tx → Option Nd} {hs hs' : List Hd} {ws : List Tx} (h : step num need hs ws = some hs') (hc : Cps hs) : Cps hs' := by
  unfold step at h
  split at h
  · obtain ⟨n, _, rfl⟩ := Option.map_eq_some_iff.1 h
    intro x hx
    rcases List.mem_append.1 hx with hx | hx
    · exact hc x hx
    · simp at hx; subst hx; intro g hg; simp [newHd] at hg
  · split at h
    · rename_i h0
      obtain ⟨x, hx, rfl⟩ := Option.map_eq_some_iff.1 h
      intro y hy
      rcases List.mem_append.1 hy with hy | hy
      · exact hc y ((List.dropLast_sublist hs).subset hy)
      · simp at hy; subst hy
        intro g hg
        rcases List.mem_append.1 hg with hg | hg
        · exact hc _ (mem_hd (by omega)) g hg
        · simp at hg; subst hg; exact contOf_cp hx
    · cases h
theorem steps_cps {num : Tx → Option Int} {need : Tx → Option Nd} (ls : List (List Tx)) : ∀ {hs hs' : List Hd}, steps num need hs ls = some hs' → Cps hs → Cps hs' := by
  induction ls with
  | nil => intro hs hs' h hc; injection h with h; subst h; exact hc
  | cons ws r ih =>
    intro hs hs' h hc
    unfold steps at h
    cases h1 : step num need hs ws with
    | none => rw [h1] at h; cases h
    | some h2 => rw [h1] at h; exact ih h (step_cps h1 hc)
theorem cps_nil : Cps [] := fun _ h => by cases h
/-- What the document's reader makes of a text. -/
def heldOfS (t : Tx) : Nat × List Hd :=
  if 6000 < t.length then (2, []) else
  match cutS t with
  | none => (12, [])
  | some b => match readR b with
    | none => (4, [])
    | some hs => if heldF hs = 0 ∧ heldTxt hs = t then (0, hs) else (4, [])
theorem heldOfS_eq (t : Tx) : heldOfS t = parseS t := by
  unfold heldOfS parseS
  split
  · rfl
  cases hc : cutS t with
  | none => rfl
  | some b =>
    dsimp only
    have key : ∀ hs, heldTxt hs = t → body hs = b := fun hs e => by
      have h2 : cutS (heldTxt hs) = some (body hs) := cutS_app _
      rw [e, hc] at h2; injection h2 with h2; exact h2.symm
    have toS : ∀ l, readR b = some l → heldF l = 0 ∧ heldTxt l = t → readS b = some l := fun l h h3 => by
      have := readS_body (okL_of h3.1 (steps_cps _ h cps_nil)); rwa [key l h3.2] at this
    have toR : ∀ l, readS b = some l → heldF l = 0 ∧ heldTxt l = t → readR b = some l := fun l h h3 => by
      have := readR_body (okL_of h3.1 (steps_cps _ h cps_nil)); rwa [key l h3.2] at this
    cases hS : readS b with
    | none =>
      cases hR : readR b with
      | none => rfl
      | some l =>
        dsimp only
        by_cases h3 : heldF l = 0 ∧ heldTxt l = t
        · have := toS l hR h3; rw [hS] at this; cases this
        · rw [if_neg h3]
    | some l' =>
      cases hR : readR b with
      | none =>
        dsimp only
        by_cases h3 : heldF l' = 0 ∧ heldTxt l' = t
        · have := toR l' hS h3; rw [hR] at this; cases this
        · rw [if_neg h3]
      | some l =>
        dsimp only
        by_cases h3 : heldF l = 0 ∧ heldTxt l = t
        · have h5 := toS l hR h3
          rw [hS] at h5; injection h5 with h5; subst h5; rfl
        · by_cases h4 : heldF l' = 0 ∧ heldTxt l' = t
          · have h5 := toR l' hS h4
            rw [hR] at h5; injection h5 with h5; subst h5; exact absurd h4 h3
          · rw [if_neg h3, if_neg h4]
end Sv
end Go.Proofs.YtlljniaobbbjgaaGreatDoor

namespace Go.Proofs.YtlljniaobbbjgaaGreatDoor
open Go.RowKit Go.Shelf
open Ost (splitC)
open Qos (Nd Ct Pd nd)
open Sv (Gv wd)
attribute [local go_sem] Oper.semAt_some
def nR (l : List UInt8) : Int := if Ost.isNum l = true then min (Ost.val l) 1125899906842625 else 0
def gR (l : List UInt8) : Bool := Ost.isNum l
theorem numR_n (l : List UInt8) : Sv.numR l = if gR l = true then some (nR l) else none := by
  unfold Sv.numR nR gR
  split <;> simp_all
theorem number_ref (s : ByteArray) (w : World) (hs : s.size ≤ maxLen) : Calls Tryz.prog 48 #[.string s] w fun e w' => e = .returned (.tuple #[.int .i64 (nR s.data.toList), .bool (gR s.data.toList)]) ∧ w' = w := by
  rcases two (Ost.isNum s.data.toList) with h | h
  · have HD := hideIt (S1.digits_yes s 1125899906842624 _ w hs (by decide) (by decide) h rfl)
    have HE : Hid (min (Ost.val s.data.toList) (1125899906842624 + 1) = nR s.data.toList ∧ gR s.data.toList = true) := by unfold Hid nR gR; rw [if_pos h]; exact ⟨by simp, h⟩
    rw [HE.out.1] at HD
    rw [HE.out.2]
    clear h HE
    generalize nR s.data.toList = n at *
    go_enter Tryz.func48, Tryz.ntmps48
    go_wp2_with fail
    refine HD.out.mono ?_
    rintro e w1 ⟨rfl, rfl⟩
    go_wp2_with fail
    go_ret2
    exact ⟨rfl, rfl⟩
  · have HD := hideIt (S1.digits_no s 1125899906842624 w hs (by decide) (by decide) h)
    have HE : Hid (nR s.data.toList = 0 ∧ gR s.data.toList = false) := by unfold Hid nR gR; rw [if_neg (by rw [h]; decide)]; exact ⟨rfl, h⟩
    rw [HE.out.1, HE.out.2]
    clear h HE
    go_enter Tryz.func48, Tryz.ntmps48
    go_wp2_with fail
    refine HD.out.mono ?_
    rintro e w1 ⟨rfl, rfl⟩
    go_wp2_with fail
    go_ret2
    exact ⟨rfl, rfl⟩
theorem allOf_if {α : Type} {f : List UInt8 → Option α} {p : List UInt8 → Bool} {v : List UInt8 → α} (h : ∀ x, f x = if p x = true then some (v x) else none) (xs : List (List UInt8)) : Sv.allOf f xs = if xs.all p = true then some (xs.map v) else none := by
  induction xs with
  | nil => rfl
  | cons x r ih =>
    rw [Sv.allOf, h, ih]
    cases hp : p x <;> cases hq : r.all p <;> simp [hp, hq]
/-- The right spine of a code. -/
def spineV : Code → List Code
  | .seq a b => a :: spineV b
  | c => [c]
/-- A frame of contOf: what it keeps from part to part. -/
def frC (v : Value) (B : Nat) (ok : Bool) (F : Nat → Value) : Act := ⟨List.toArray (v :: F 1 :: .pointer (some ⟨B, 0, none⟩) :: .pointer (some ⟨B + 1, 0, none⟩) :: .bool false :: .pointer (some ⟨B + 2, 0, none⟩) :: .pointer (some ⟨B + 3, 0, none⟩) :: .pointer (some ⟨B + 4, 0, none⟩) :: .bool ok :: F 9 :: F 10 :: F 11 :: F 12 :: F 13 :: F 14 :: F 15 :: F 16 :: F 17 :: F 18 :: F 19 :: F 20 :: F 21 :: F 22 :: F 23 :: F 24 :: F 25 :: F 26 :: F 27 :: F 28 :: F 29 :: F 30 :: F 31 :: F 32 :: F 33 :: F 34 :: F 35 :: F 36 :: F 37 :: F 38 :: F 39 :: F 40 :: F 41 :: F 42 :: F 43 :: F 44 :: F 45 :: F 46 :: F 47 :: F 48 :: F 49 :: F 50 :: F 51 :: F 52 :: F 53 :: F 54 :: F 55 :: F 56 :: F 57 :: F 58 :: F 59 :: F 60 :: F 61 :: F 62 :: F 63 :: F 64 :: F 65 :: F 66 :: F 67 :: F 68 :: F 69 :: F 70 :: F 71 :: F 72 :: F 73 :: F 74 :: F 75 :: F 76 :: F 77 :: F 78 :: F 79 :: F 80 :: F 81 :: F 82 :: F 83 :: F 84 :: F 85 :: F 86 :: F 87 :: F 88 :: F 89 :: F 90 :: F 91 :: F 92 :: F 93 :: F 94 :: F 95 :: F 96 :: F 97 :: F 98 :: F 99 :: F 100 :: F 101 :: F 102 :: F 103 :: F 104 :: F 105 :: F 106 :: F 107 :: F 108 :: F 109 :: F 110 :: F 111 :: F 112 :: F 113 :: F 114 :: F 115 :: F 116 :: F 117 :: F 118 :: F 119 :: F 120 :: F 121 :: F 122 :: F 123 :: F 124 :: F 125 :: F 126 :: F 127 :: F 128 :: F 129 :: F 130 :: F 131 :: F 132 :: F 133 :: F 134 :: F 135 :: F 136 :: F 137 :: F 138 :: F 139 :: F 140 :: F 141 :: F 142 :: F 143 :: F 144 :: F 145 :: F 146 :: F 147 :: F 148 :: F 149 :: F 150 :: F 151 :: F 152 :: F 153 :: F 154 :: F 155 :: F 156 :: F 157 :: []), []⟩
def RetOr (R S : Act → World → Prop) : Exit → Act → World → Prop
  | .normal, a, w => R a w
  | .ret, a, w => S a w
  | _, _, _ => False
theorem wp_retOr {P : Program} {c : Code} {R S : Act → World → Prop} {Q : Exit → Act → World → Prop} {a : Act} {w : World} (h : Code.wp P c (RetOr R S) a w) (hq : ∀ a w, R a w → Q .normal a w) (hr : ∀ a w, S a w → Q .ret a w) : Code.wp P c Q a w :=
  Code.wp_mono (fun e a w he => by
    cases e with
    | normal => exact hq a w he
    | ret => exact hr a w he
    | _ => exact he.elim) h
/-- A piece of code, at a frame that is known in part. -/
theorem wp_pieceV {P : Program} {c : Code} {Q : Exit → Act → World → Prop} {G : (Nat → Value) → Act} {a : Act} {w : World} (ha : a = G (fun n => a.tmps.getD n undef)) (h : ∀ F, Code.wp P c Q (G F) w) : Code.wp P c Q a w := by
  rw [ha]; exact h _
theorem Apart.next {K K' : Nat → Prop} {A B C : World} (h : Apart K A B) (h2 : Apart K' B C) (hk : ∀ j, j < A.heap.size → K' j → K j) : Apart K A C :=
  ⟨h2.os.trans h.os, h2.tape.trans h.tape, h2.output.trans h.output, Nat.le_trans h.size h2.size, fun j hj hn => (h2.block j (Nat.lt_of_lt_of_le hj h.size) (fun e => hn (hk j hj e))).trans (h.block j hj hn)⟩
def numsR (ps : List (List UInt8)) (k : Nat) : List Int := (ps.take k).map nR
theorem numsR_next {ps : List (List UInt8)} {k : Nat} (h : k < ps.length) : numsR ps (k + 1) = numsR ps k ++ [nR (wd ps k)] := by
  unfold numsR
  rw [List.take_succ_eq_append_getElem h, List.map_append]; simp [wd, h]
theorem numsR_len {ps : List (List UInt8)} {k : Nat} (h : k ≤ ps.length) : (numsR ps k).length = k := by unfold numsR; simp; omega
theorem numsR_all (ps : List (List UInt8)) : numsR ps ps.length = ps.map nR := by unfold numsR; rw [List.take_length]
theorem allR_next {p : List UInt8 → Bool} {ps : List (List UInt8)} {k : Nat} (h : k < ps.length) : (ps.take (k + 1)).all p = ((ps.take k).all p && p (wd ps k)) := by
  rw [List.take_succ_eq_append_getElem h, List.all_append]; simp [wd, h]
theorem ints_nilV (w : World) : IntsOf w (.slice none 0 0) [] := ⟨none, 0, rfl, ⟨Nat.le_refl _, by unfold maxLen; omega⟩, fun h => by simp at h⟩
theorem strs_atV {W : World} {base : Nat} {v : Value} {ps : List (List UInt8)} (h : W.ownsRow base 9 1 v ps.length (S1.strs ps)) (h0 : 0 < ps.length) : ∃ g cap, v = .slice (some ⟨g, 0, none⟩) ps.length cap ∧ base ≤ g ∧ StrsIn W g ps := by
  obtain ⟨g, cap, hv, _, _, hlt, hb, hc⟩ := row_form h h0
  refine ⟨g, cap, hv, hb, hlt, fun k hk => ?_⟩
  rw [hc k (by omega)]
  simp [S1.strs, wd, hk]
theorem strs_kept {K : Nat → Prop} {A B : World} {g : Nat} {ps : List (List UInt8)} (h : StrsIn A g ps) (hab : Apart K A B) (hn : ¬ K g) : StrsIn B g ps :=
  ⟨Nat.lt_of_lt_of_le h.1 hab.size, fun k hk => (World.cell?_of_block (a := ⟨g, k, none⟩) (hab.block g h.1 hn)).trans (h.2 k hk)⟩
noncomputable def pieceC (n : Nat) : Code := ((Tryz.f49.body.map spineV).getD []).getD n .skip
/-- What reading the devices leaves. -/
def ReadsDevs (W : World) (v : Value) (B : Nat) (cp : Nat) (l : List UInt8) (ok : Bool) : Act → World → Prop := FrV (frC v B (ok && (Sv.listOf Sv.numR l).isSome)) fun _ W' =>
  ∃ dv, W'.heap[B + 3]? = some (.cells #[.int .u64 cp, dv] 64 (0, 0)) ∧ Apart (fun j => j = B + 3) W W' ∧ (∃ x n c, dv = .slice x n c ∧ ∀ y, x = some y → W.heap.size ≤ y.block) ∧ ∃ xs, IntsOf W' dv xs ∧ ∀ ys, Sv.listOf Sv.numR l = some ys → ys = xs
theorem frozen_of_heapV {W : World} {B : Nat} {cs : Array Value} {t : TypeId} (h : W.heap[B]? = some (.cells cs t (0, 0))) (j : Nat) : W.frozen? ⟨B, j, none⟩ = false := by simp [World.frozen?, h]
set_option maxRecDepth 100000 in
set_option maxHeartbeats 8000000 in
theorem piece8_any (bw wc B cp : Nat) (l : List UInt8) (ok : Bool) (W : World) (F : Nat → Value) (hg : W.heap[B + 3]? = some (.cells #[.int .u64 cp, .slice none 0 0] 64 (0, 0))) (hcl : W.cell? ⟨bw, 8, none⟩ = some (.string ⟨l.toArray⟩)) (hl : l.length ≤ 10000) :
    Code.wp Tryz.prog (pieceC 10) (NormalAtV (ReadsDevs W (.slice (some ⟨bw, 0, none⟩) 9 wc) B cp l ok)) (frC (.slice (some ⟨bw, 0, none⟩) 9 wc) B ok F) W := by
  have hq := dash_eq ⟨l.toArray⟩
  rw [show (ByteArray.mk l.toArray).data.toList = l by simp] at hq
  obtain ⟨i0, hi, hz0, hz1, hz2⟩ := info_parts infoIntV
  generalize HF : (NormalAtV (ReadsDevs W (.slice (some ⟨bw, 0, none⟩) 9 wc) B cp l ok)) = Q
  unfold frC
  show Code.wp Tryz.prog (pieceC 10) Q _ W
  unfold pieceC
  simp only [Tryz.f49, Option.map, Option.getD, spineV, List.getD, List.getElem?_cons_succ, List.getElem?_cons_zero]
  have hlt3 : B + 3 < W.heap.size := (Array.getElem?_eq_some_iff.1 hg).1
  by_cases h45 : l = [45]
  · have hq2 : (l == [45]) = true := by simp [h45]
    have HL : Hid (Sv.listOf Sv.numR l = some []) := by unfold Hid Sv.listOf; rw [if_pos h45]
    have HK : Hid (ok = (ok && (Sv.listOf Sv.numR l).isSome)) := by unfold Hid; rw [HL.out]; simp
    rw [HK.out] at HF ⊢
    clear h45 hq
    go_wp2_with fail
    rw [← HF]
    refine NormalAtV.mk ?_
    unfold ReadsDevs
    rw [Bool.and_assoc, Bool.and_self]
    refine FrV.mk (by kernel_rfl) ⟨.slice none 0 0, hg, Apart.refl _ _, ⟨none, 0, 0, rfl, fun y h => by cases h⟩, [], ints_nilV W, fun ys h => ?_⟩
    rw [HL.out] at h
    injection h with h
    exact h.symm
  · have hq2 : (l == [45]) = false := by simp [h45]
    have HL : Hid (Sv.listOf Sv.numR l = if (splitC 44 l).all gR = true then some ((splitC 44 l).map nR) else none) := by unfold Hid Sv.listOf; rw [if_neg h45, allOf_if numR_n]
    clear h45 hq
    go_wp2_with fail
    refine (S1.wordsC 44 44 rfl ⟨l.toArray⟩ W (by show l.length ≤ _; omega)).mono ?_
    rintro e W0 ⟨v19, rfl, hrw, hb0⟩
    rw [show (ByteArray.mk l.toArray).data.toList = l by simp] at hrw
    have h0 : 0 < (splitC 44 l).length := List.length_pos_iff.2 (Ost.splitC_ne 44 l)
    have hpl := S1.splitC_len 44 l
    have HPM : Hid (∀ x ∈ splitC 44 l, x.length ≤ 10000) := fun x hx => by have := S1.splitC_mem 44 l x hx; omega
    generalize splitC 44 l = ps at *
    obtain ⟨g19, c19, rfl, hg19, hst⟩ := strs_atV hrw h0
    have HST := hideIt hst
    have HG0 := hideIt ((hb0.block (B + 3) hlt3).trans hg)
    have HB0 := hideIt hb0
    have hszW := hb0.size
    clear hrw hst hb0 hcl
    go_wp2_with fail
    go_loopw [8, 20] (fun o i wr => ∃ (k : Nat) (dv : Value), k ≤ ps.length ∧ i = .int .i64 k ∧ o = .bool (ok && (ps.take k).all gR) ∧ wr.heap[B + 3]? = some (.cells #[.int .u64 cp, dv] 64 (0, 0)) ∧ wr.ownsRow W0.heap.size 3 1 dv (numsR ps k).length (intsV (numsR ps k)) ∧ Apart (fun j => j = B + 3) W0 wr) (fun _ i _ => ps.length - (intOf i).toNat)
    case atStart => exact ⟨0, .slice none 0 0, by omega, rfl, by simp, HG0.out, World.ownsRow_nil _ _ _ _, Apart.refl _ _⟩
    case round =>
      obtain ⟨k, dv, hk, rfl, rfl, hgk, hrow, hab⟩ := hrel
      by_cases hlt : k < ps.length
      · have hst := strs_kept HST.out hab (by omega)
        have c19 := hst.2 k hlt
        have hxl := HPM.out (wd ps k) (wd_mem hlt)
        have HN := hideIt (number_ref ⟨(wd ps k).toArray⟩ wr (by unfold maxLen; show (wd ps k).length ≤ _; omega))
        rw [show (ByteArray.mk (wd ps k).toArray).data.toList = wd ps k by simp] at HN
        have HNX := hideIt (numsR_next hlt)
        have HAX := hideIt (allR_next (p := gR) hlt)
        have hnl : (numsR ps k).length ≤ ps.length := by rw [numsR_len hk]; exact hk
        have hszk := hab.size
        have HGK := hideIt hgk
        have HAB := hideIt hab
        have e0 : wr.cell? ⟨B + 3, 0, none⟩ = some (.int .u64 cp) := cell_of_heapV hgk 0
        have e1 : wr.cell? ⟨B + 3, 1, none⟩ = some dv := cell_of_heapV hgk 1
        obtain ⟨va, vc, hv⟩ := own_slice hrow
        subst hv
        clear hst hgk hab
        generalize wd ps k = x at *
        generalize nR x = nx at *
        generalize gR x = gx at *
        generalize numsR ps k = ns at *
        generalize hoo : (ok && (ps.take k).all gR) = oo at *
        have HOO : Hid ((ok && (ps.take (k + 1)).all gR) = (oo && gx)) := by unfold Hid; rw [HAX.out, ← hoo, Bool.and_assoc]
        clear hoo
        cases oo
        · go_wp2_with fail
          refine HN.out.mono ?_
          rintro e w1 ⟨rfl, rfl⟩
          go_wp2_with (at_builtin; refine wpList_append_own _ rfl _ _ 62 rfl W0.heap.size 3 i0 (.int .i64 0) 1 8 Tryz.underlying62 hi hz0 hz1 hz2 rfl (by decide) _ _ _ rfl (hrow.alloc _) ⟨_, 0, none⟩ 1 1 [.int .i64 nx] rfl rfl (cell_one_new _ _ _) (by intro u hu; simp at hu; subst hu; rfl) (by unfold maxLen; omega) (by omega) (by simp; omega) ?_; intro v' W2 hown' hgrow' _; obtain ⟨na, nc, rfl⟩ := own_slice hown'; have hg2 : (w1.alloc (.cells #[.int .i64 nx] 3)).grownBy W2 (Value.slice va ns.length vc).ownBlock := hgrow'; clear hgrow'; have hap := row_apart hrow hg2; have hgB := (hap.block (B + 3) (by omega) (by omega)).trans HGK.out; have c3' : W2.cell? ⟨B + 3, 1, none⟩ = some (.slice va ns.length vc) := cell_of_heapV hgB 1; have f3' := frozen_of_heapV hgB 1)
          go_roundw
          case rel =>
            refine ⟨k + 1, .slice na (ns.length + 1) nc, by omega, by go_num, by rw [HOO.out]; rfl, set_heap hgB 1 _, ?_, (HAB.out.next hap (fun j hj h => by omega)).trans (Apart.setCell (K := fun j => j = B + 3) rfl _ _ _)⟩
            rw [HNX.out, show intsV (ns ++ [nx]) = intsV ns ++ [.int .i64 nx] by simp [intsV], List.length_append]
            exact (Apart.setCell (K := fun j => j = B + 3) rfl W2 1 _).row hown' (fun j hj => by omega)
          case measure => simp [intOf]; omega
        · go_wp2_with fail
          refine HN.out.mono ?_
          rintro e w1 ⟨rfl, rfl⟩
          go_wp2_with (at_builtin; refine wpList_append_own _ rfl _ _ 62 rfl W0.heap.size 3 i0 (.int .i64 0) 1 8 Tryz.underlying62 hi hz0 hz1 hz2 rfl (by decide) _ _ _ rfl (hrow.alloc _) ⟨_, 0, none⟩ 1 1 [.int .i64 nx] rfl rfl (cell_one_new _ _ _) (by intro u hu; simp at hu; subst hu; rfl) (by unfold maxLen; omega) (by omega) (by simp; omega) ?_; intro v' W2 hown' hgrow' _; obtain ⟨na, nc, rfl⟩ := own_slice hown'; have hg2 : (w1.alloc (.cells #[.int .i64 nx] 3)).grownBy W2 (Value.slice va ns.length vc).ownBlock := hgrow'; clear hgrow'; have hap := row_apart hrow hg2; have hgB := (hap.block (B + 3) (by omega) (by omega)).trans HGK.out; have c3' : W2.cell? ⟨B + 3, 1, none⟩ = some (.slice va ns.length vc) := cell_of_heapV hgB 1; have f3' := frozen_of_heapV hgB 1)
          go_roundw
          case rel =>
            refine ⟨k + 1, .slice na (ns.length + 1) nc, by omega, by go_num, by rw [HOO.out]; rfl, set_heap hgB 1 _, ?_, (HAB.out.next hap (fun j hj h => by omega)).trans (Apart.setCell (K := fun j => j = B + 3) rfl _ _ _)⟩
            rw [HNX.out, show intsV (ns ++ [nx]) = intsV ns ++ [.int .i64 nx] by simp [intsV], List.length_append]
            exact (Apart.setCell (K := fun j => j = B + 3) rfl W2 1 _).row hown' (fun j hj => by omega)
          case measure => simp [intOf]; omega
      · have hke : k = ps.length := by omega
        subst hke
        have HOK : Hid ((ok && (ps.take ps.length).all gR) = (ok && (Sv.listOf Sv.numR l).isSome)) := by
          unfold Hid; rw [HL.out, List.take_length]; cases ps.all gR <;> rfl
        rw [HOK.out]
        go_wp2_with fail
        rw [← HF]
        refine NormalAtV.mk ?_
        unfold ReadsDevs
        refine FrV.mk (by kernel_rfl) ⟨dv, hgk, (Apart.of_below HB0.out).trans hab, ?_, numsR ps ps.length, ints_of_row hrow, fun ys h => ?_⟩
        · obtain ⟨va, vc, rfl⟩ := own_slice hrow
          refine ⟨va, _, vc, rfl, fun y hy => ?_⟩
          subst hy
          rcases hrow.2 with ⟨h, _⟩ | ⟨g, cap, cur, h, hg', _⟩
          · cases h
          · cases h; show W.heap.size ≤ g; omega
        · rw [HL.out] at h
          by_cases hall : ps.all gR = true
          · rw [if_pos hall] at h
            injection h with h
            rw [numsR_all]; exact h.symm
          · rw [if_neg hall] at h; cases h
end Go.Proofs.YtlljniaobbbjgaaGreatDoor

namespace Go.Proofs.YtlljniaobbbjgaaGreatDoor
open Go.RowKit Go.Shelf
open Qos (Nd Ct Pd nd ct pd)
open Sv (Gv Hd gv hd)
theorem new_needD (w : World) (kd : ByteArray) (n : Int) (t : TypeId) : ∀ j u, (ndCells ⟨kd, n⟩)[j]? = some u → (w.alloc (.cells #[.string kd, .int .i64 n] t)).drew.cell? ((⟨w.heap.size, 0, none⟩ : Addr).add j) = some u := by
  intro j u hu
  rw [Addr.add_lit, Nat.zero_add]
  match j, hu with
  | 0, hu => simp [ndCells] at hu; subst hu; simp
  | 1, hu => simp [ndCells] at hu; subst hu; simp
  | j + 2, hu => simp [ndCells] at hu
noncomputable def contOfR23 : Code := theRegion 23 ((Tryz.f49.body.map regionsOfR).getD [])
set_option maxRecDepth 100000 in
set_option maxHeartbeats 4000000 in
theorem contOfR23_in {c0 c1 c2 c3 c4 c6 c7 c8 c9 c10 c11 c12 c13 c16 c17 c18 c19 c20 c21 c22 c23 c24 c25 c26 c27 c28 c29 c30 c31 c32 c33 c34 c35 c36 c37 c38 c39 c40 c41 c42 c43 c44 c45 c46 c47 c48 c49 c50 c51 c52 c53 c54 c55 c56 c57 c58 c59 c60 c61 c62 c63 c64 c65 c66 c67 c68 c69 c70 c71 c72 c73 c74 c75 c76 c77 c78 c79 c80 c81 c82 c83 c84 c85 c86 c87 c88 c89 c90 c91 c92 c93 c94 c105 c106 c107 c108 c109 c110 c111 c112 c113 c114 c115 c116 c117 c118 c119 c120 c121 c122 c123 c124 c125 c126 c127 c128 c129 c130 c131 c132 c133 c134 c135 c136 c137 c138 c139 c140 c141 c142 c143 c144 c145 c146 c147 c148 c149 c150 c151 c152 c153 c154 c155 c156 c157 d95 d96 d97 d98 d99 d100 d101 d102 d103 d104 : Value} {vn vc base : Nat} {va : Option Addr} {kd : ByteArray} {nx : Int} {B gx cx : Nat} {xs : List Value} (W : World) (h0 : W.cell? ⟨B, 5, none⟩ = some (Value.slice va vn vc)) (hf : W.frozen? ⟨B, 5, none⟩ = false) (e0 : W.cell? ⟨gx, 0, none⟩ = some (.string kd))
    (hown : W.ownsRow base 115 2 (Value.slice va vn vc) vn xs) (hb : base ≤ W.heap.size) (hvn : vn ≤ 100000) (hm : B < W.heap.size) (hne : (Value.slice va vn vc).ownBlock ≠ some B) :
    Code.wp Tryz.prog contOfR23 (NormalAtV (FrV (fun F => { tmps := List.toArray (c0 :: c1 :: c2 :: c3 :: c4 :: .pointer (some ⟨B, 0, none⟩) :: c6 :: c7 :: c8 :: c9 :: c10 :: c11 :: c12 :: c13 :: .slice (some ⟨gx, 0, none⟩) 2 cx :: .int .i64 nx :: c16 :: c17 :: c18 :: c19 :: c20 :: c21 :: c22 :: c23 :: c24 :: c25 :: c26 :: c27 :: c28 :: c29 :: c30 :: c31 :: c32 :: c33 :: c34 :: c35 :: c36 :: c37 :: c38 :: c39 :: c40 :: c41 :: c42 :: c43 :: c44 :: c45 :: c46 :: c47 :: c48 :: c49 :: c50 :: c51 :: c52 :: c53 :: c54 :: c55 :: c56 :: c57 :: c58 :: c59 :: c60 :: c61 :: c62 :: c63 :: c64 :: c65 :: c66 :: c67 :: c68 :: c69 :: c70 :: c71 :: c72 :: c73 :: c74 :: c75 :: c76 :: c77 :: c78 :: c79 :: c80 :: c81 :: c82 :: c83 :: c84 :: c85 :: c86 :: c87 :: c88 :: c89 :: c90 :: c91 :: c92 :: c93 :: c94 :: F 95 :: F 96 :: F 97 :: F 98 :: F 99 :: F 100 :: F 101 :: F 102 :: F 103 :: F 104 :: c105 :: c106 :: c107 :: c108 :: c109 :: c110 :: c111 :: c112 :: c113 :: c114 :: c115 :: c116 :: c117 :: c118 :: c119 :: c120 :: c121 :: c122 :: c123 :: c124 :: c125 :: c126 :: c127 :: c128 :: c129 :: c130 :: c131 :: c132 :: c133 :: c134 :: c135 :: c136 :: c137 :: c138 :: c139 :: c140 :: c141 :: c142 :: c143 :: c144 :: c145 :: c146 :: c147 :: c148 :: c149 :: c150 :: c151 :: c152 :: c153 :: c154 :: c155 :: c156 :: c157 :: []), defers := [] }) (fun _ W' => ∃ g cap W2, W' = W2.setCell ⟨B, 5, none⟩ (Value.slice (some ⟨g, 0, none⟩) (vn + 1) cap) ∧ W2.ownsRow base 115 2 (Value.slice (some ⟨g, 0, none⟩) (vn + 1) cap) (vn + 1) (xs ++ ndCells ⟨kd, nx⟩) ∧ (W.alloc (.cells #[.string kd, .int .i64 nx] 115)).grownBy W2 (Value.slice va vn vc).ownBlock ∧ ((Value.slice va vn vc).ownBlock = some g ∨ g = (W.alloc (.cells #[.string kd, .int .i64 nx] 115)).heap.size))))
      { tmps := List.toArray (c0 :: c1 :: c2 :: c3 :: c4 :: .pointer (some ⟨B, 0, none⟩) :: c6 :: c7 :: c8 :: c9 :: c10 :: c11 :: c12 :: c13 :: .slice (some ⟨gx, 0, none⟩) 2 cx :: .int .i64 nx :: c16 :: c17 :: c18 :: c19 :: c20 :: c21 :: c22 :: c23 :: c24 :: c25 :: c26 :: c27 :: c28 :: c29 :: c30 :: c31 :: c32 :: c33 :: c34 :: c35 :: c36 :: c37 :: c38 :: c39 :: c40 :: c41 :: c42 :: c43 :: c44 :: c45 :: c46 :: c47 :: c48 :: c49 :: c50 :: c51 :: c52 :: c53 :: c54 :: c55 :: c56 :: c57 :: c58 :: c59 :: c60 :: c61 :: c62 :: c63 :: c64 :: c65 :: c66 :: c67 :: c68 :: c69 :: c70 :: c71 :: c72 :: c73 :: c74 :: c75 :: c76 :: c77 :: c78 :: c79 :: c80 :: c81 :: c82 :: c83 :: c84 :: c85 :: c86 :: c87 :: c88 :: c89 :: c90 :: c91 :: c92 :: c93 :: c94 :: d95 :: d96 :: d97 :: d98 :: d99 :: d100 :: d101 :: d102 :: d103 :: d104 :: c105 :: c106 :: c107 :: c108 :: c109 :: c110 :: c111 :: c112 :: c113 :: c114 :: c115 :: c116 :: c117 :: c118 :: c119 :: c120 :: c121 :: c122 :: c123 :: c124 :: c125 :: c126 :: c127 :: c128 :: c129 :: c130 :: c131 :: c132 :: c133 :: c134 :: c135 :: c136 :: c137 :: c138 :: c139 :: c140 :: c141 :: c142 :: c143 :: c144 :: c145 :: c146 :: c147 :: c148 :: c149 :: c150 :: c151 :: c152 :: c153 :: c154 :: c155 :: c156 :: c157 :: []), defers := [] } W := by
  obtain ⟨i0, hi, hz0, hz1, hz2⟩ := info_parts infoNeedV
  have HOWN := hideIt hown
  have HNE := hideIt hne
  have HB := hideIt hb
  have HVN := hideIt hvn
  have HM := hideIt hm
  clear hown hne hb hvn hm
  conv => enter [2]; unfold contOfR23; whnf
  refine wp_region_held_drew (S := fun _ => True) (by kernel_rfl) trivial (fun hHeld => ?_)
  clear hHeld
  refine wpAnyH_take (i := 0) (oi := { dst := some 95, op := Op.fieldAddr 56 (Operand.tmp 5) 3, type := 0, pos := "ostler.go:515", after := #[], guard := none }) (v := ?v1x0) rfl (by kernel_rfl) (by kernel_rfl) (by kernel_rfl) (fun _ _ _ h => h) (Or.inl ⟨by rfl, ?h1x0⟩) trivial ?r1x0
  case h1x0 =>
    intro w' hSw
    (try dsimp only at hSw)
    go_simp
    first | done | with_reducible rfl | rfl | (rw [if_neg (by omega)])
  (try simp only [Act.put, List.setIfInBounds_toArray, List.set_cons_zero, List.set_cons_succ])
  refine wpAnyH_take (i := 2) (oi := { dst := some 97, op := Op.move (Operand.tmp 14), type := 41, pos := "ostler.go:515", after := #[], guard := none }) (v := ?v2x2) rfl (by kernel_rfl) (by kernel_rfl) (by kernel_rfl) (fun _ _ _ h => h) (Or.inl ⟨by rfl, ?h2x2⟩) trivial ?r2x2
  case h2x2 =>
    intro w' hSw
    (try dsimp only at hSw)
    go_simp
    first | done | with_reducible rfl | rfl | (rw [if_neg (by omega)])
  (try simp only [Act.put, List.setIfInBounds_toArray, List.set_cons_zero, List.set_cons_succ])
  refine wpAnyH_take (i := 3) (oi := { dst := some 98, op := Op.indexAddr 41 (Operand.tmp 97) (Operand.const (Value.int IntKind.i64 0)), type := 0, pos := "ostler.go:515", after := #[{ on := 2, ground := Ground.data }], guard := none }) (v := ?v3x3) rfl (by kernel_rfl) (by kernel_rfl) (by kernel_rfl) (fun _ _ _ h => h) (Or.inl ⟨by rfl, ?h3x3⟩) trivial ?r3x3
  case h3x3 =>
    intro w' hSw
    (try dsimp only at hSw)
    go_simp
    first | done | with_reducible rfl | rfl | (rw [if_neg (by omega)])
  (try simp only [Act.put, List.setIfInBounds_toArray, List.set_cons_zero, List.set_cons_succ])
  refine wpAnyH_take (i := 5) (oi := { dst := some 100, op := Op.move (Operand.tmp 15), type := 3, pos := "ostler.go:515", after := #[], guard := none }) (v := ?v4x5) rfl (by kernel_rfl) (by kernel_rfl) (by kernel_rfl) (fun _ _ _ h => h) (Or.inl ⟨by rfl, ?h4x5⟩) trivial ?r4x5
  case h4x5 =>
    intro w' hSw
    (try dsimp only at hSw)
    go_simp
    first | done | with_reducible rfl | rfl | (rw [if_neg (by omega)])
  (try simp only [Act.put, List.setIfInBounds_toArray, List.set_cons_zero, List.set_cons_succ])
  refine wpAnyH_ready (rs := [1, 4]) (by kernel_rfl) (by simp) (AllReadyH.cons rfl (fun K hK => ?w1) (AllReadyH.cons rfl (fun K hK => ?w2) AllReadyH.nil))
  case w1 =>
    go_simp
    go_wp2_with fail
    refine hK.out _ _ trivial (fun hHeld => ?_)
    clear hK K hHeld
    refine wpAnyH_ready (rs := [4]) (by kernel_rfl) (by simp) (AllReadyH.cons rfl (fun K hK => ?_) AllReadyH.nil)
    go_simp
    go_wp2_with fail
    refine hK.out _ _ trivial (fun hHeld => ?_)
    clear hK K hHeld
    refine wpAnyH_take (i := 6) (oi := { dst := some 101, op := Op.build 115 #[(0, Operand.tmp 99), (1, Operand.tmp 100)], type := 115, pos := "ostler.go:515", after := #[{ on := 4, ground := Ground.data }, { on := 5, ground := Ground.data }], guard := none }) (v := ?v5x6) rfl (by kernel_rfl) (by kernel_rfl) (by kernel_rfl) (fun _ _ _ h => h) (Or.inl ⟨by rfl, ?h5x6⟩) trivial ?r5x6
    case h5x6 =>
      intro w' hSw
      (try dsimp only at hSw)
      go_simp
      first | done | with_reducible rfl | rfl | (rw [if_neg (by omega)])
    (try simp only [Act.put, List.setIfInBounds_toArray, List.set_cons_zero, List.set_cons_succ])
    refine wpAnyH_ready (rs := [7]) (by kernel_rfl) (by simp) (AllReadyH.cons rfl (fun K hK => ?_) AllReadyH.nil)
    go_simp
    go_wp2_with fail
    refine hK.out _ _ trivial (fun hHeld => ?_)
    clear hK K hHeld
    refine wpAnyH_ready (rs := [8]) (by kernel_rfl) (by simp) (AllReadyH.cons rfl (fun K hK => ?_) AllReadyH.nil)
    rw [if_pos (by rfl)]
    refine wp_append_lies _ _ _ 54 rfl base 115 i0 _ 2 24 Tryz.underlying54 hi hz0 hz1 hz2 rfl (by decide) (Value.slice va vn vc) vn xs rfl (HOWN.out.alloc (.cells #[.string kd, .int .i64 nx] 115)).drew ⟨W.heap.size, 0, none⟩ 1 1 (ndCells ⟨kd, nx⟩) rfl rfl (new_needD W kd nx _) (ndCells_one ⟨kd, nx⟩) (by decide) (by have := HVN.out; unfold maxLen; omega) (by have := HVN.out; omega) (by have := HB.out; simp; omega) (W.alloc (.cells #[.string kd, .int .i64 nx] 115)).heap.size rfl ?_
    intro g cap W2 hrow hgr hat hlt
    have hgr := grown_drew hgr
    have hblk : W2.heap[B]? = W.heap[B]? := (hgr.block B (Nat.lt_of_lt_of_le HM.out (by simp)) (fun e => HNE.out e.symm)).trans (Below.heap_alloc _ _ _ HM.out)
    have y0 : W2.cell? ⟨B, 5, none⟩ = some (Value.slice va vn vc) := (World.cell?_of_block (a := ⟨B, 5, none⟩) hblk).trans h0
    have y1 : W2.frozen? ⟨B, 5, none⟩ = false := (World.frozen?_of_block (a := ⟨B, 5, none⟩) hblk).trans hf
    have HROW := hideIt hrow
    have HGR := hideIt hgr
    have HAT := hideIt hat
    clear hrow hgr hat hblk hlt
    refine hK.out _ _ trivial (fun hHeld => ?_)
    clear hK K hHeld
    refine wpAnyH_take (i := 9) (oi := { dst := some 104, op := Op.fieldAddr 56 (Operand.tmp 5) 3, type := 0, pos := "ostler.go:515", after := #[{ on := 0, ground := Ground.phase }, { on := 1, ground := Ground.phase }, { on := 2, ground := Ground.phase }, { on := 3, ground := Ground.phase }, { on := 4, ground := Ground.phase }, { on := 5, ground := Ground.phase }, { on := 6, ground := Ground.phase }, { on := 7, ground := Ground.phase }, { on := 8, ground := Ground.phase }], guard := none }) (v := ?v6x9) rfl (by kernel_rfl) (by kernel_rfl) (by kernel_rfl) (fun _ _ _ h => h) (Or.inl ⟨by rfl, ?h6x9⟩) trivial ?r6x9
    case h6x9 =>
      intro w' hSw
      (try dsimp only at hSw)
      go_simp
      first | done | with_reducible rfl | rfl | (rw [if_neg (by omega)])
    refine wpAnyH_ready (rs := [10]) (by kernel_rfl) (by simp) (AllReadyH.cons rfl (fun K hK => ?_) AllReadyH.nil)
    go_simp
    go_wp2_with fail
    refine hK.out _ _ trivial (fun hHeld => ?_)
    clear hK K hHeld
    refine wpAnyH_done (by kernel_rfl) ?_ _
    refine NormalAtV.mk (FrV.mk (by kernel_rfl) ?_)
    exact ⟨g, cap, W2, rfl, HROW.out, HGR.out, HAT.out⟩
  case w2 =>
    go_simp
    go_wp2_with fail
    refine hK.out _ _ trivial (fun hHeld => ?_)
    clear hK K hHeld
    refine wpAnyH_take (i := 6) (oi := { dst := some 101, op := Op.build 115 #[(0, Operand.tmp 99), (1, Operand.tmp 100)], type := 115, pos := "ostler.go:515", after := #[{ on := 4, ground := Ground.data }, { on := 5, ground := Ground.data }], guard := none }) (v := ?v7x6) rfl (by kernel_rfl) (by kernel_rfl) (by kernel_rfl) (fun _ _ _ h => h) (Or.inl ⟨by rfl, ?h7x6⟩) trivial ?r7x6
    case h7x6 =>
      intro w' hSw
      (try dsimp only at hSw)
      go_simp
      first | done | with_reducible rfl | rfl | (rw [if_neg (by omega)])
    (try simp only [Act.put, List.setIfInBounds_toArray, List.set_cons_zero, List.set_cons_succ])
    refine wpAnyH_ready (rs := [1, 7]) (by kernel_rfl) (by simp) (AllReadyH.cons rfl (fun K hK => ?w7) (AllReadyH.cons rfl (fun K hK => ?w8) AllReadyH.nil))
    case w7 =>
      go_simp
      go_wp2_with fail
      refine hK.out _ _ trivial (fun hHeld => ?_)
      clear hK K hHeld
      refine wpAnyH_ready (rs := [7]) (by kernel_rfl) (by simp) (AllReadyH.cons rfl (fun K hK => ?_) AllReadyH.nil)
      go_simp
      go_wp2_with fail
      refine hK.out _ _ trivial (fun hHeld => ?_)
      clear hK K hHeld
      refine wpAnyH_ready (rs := [8]) (by kernel_rfl) (by simp) (AllReadyH.cons rfl (fun K hK => ?_) AllReadyH.nil)
      rw [if_pos (by rfl)]
      refine wp_append_lies _ _ _ 54 rfl base 115 i0 _ 2 24 Tryz.underlying54 hi hz0 hz1 hz2 rfl (by decide) (Value.slice va vn vc) vn xs rfl (HOWN.out.alloc (.cells #[.string kd, .int .i64 nx] 115)).drew ⟨W.heap.size, 0, none⟩ 1 1 (ndCells ⟨kd, nx⟩) rfl rfl (new_needD W kd nx _) (ndCells_one ⟨kd, nx⟩) (by decide) (by have := HVN.out; unfold maxLen; omega) (by have := HVN.out; omega) (by have := HB.out; simp; omega) (W.alloc (.cells #[.string kd, .int .i64 nx] 115)).heap.size rfl ?_
      intro g cap W2 hrow hgr hat hlt
      have hgr := grown_drew hgr
      have hblk : W2.heap[B]? = W.heap[B]? := (hgr.block B (Nat.lt_of_lt_of_le HM.out (by simp)) (fun e => HNE.out e.symm)).trans (Below.heap_alloc _ _ _ HM.out)
      have y0 : W2.cell? ⟨B, 5, none⟩ = some (Value.slice va vn vc) := (World.cell?_of_block (a := ⟨B, 5, none⟩) hblk).trans h0
      have y1 : W2.frozen? ⟨B, 5, none⟩ = false := (World.frozen?_of_block (a := ⟨B, 5, none⟩) hblk).trans hf
      have HROW := hideIt hrow
      have HGR := hideIt hgr
      have HAT := hideIt hat
      clear hrow hgr hat hblk hlt
      refine hK.out _ _ trivial (fun hHeld => ?_)
      clear hK K hHeld
      refine wpAnyH_take (i := 9) (oi := { dst := some 104, op := Op.fieldAddr 56 (Operand.tmp 5) 3, type := 0, pos := "ostler.go:515", after := #[{ on := 0, ground := Ground.phase }, { on := 1, ground := Ground.phase }, { on := 2, ground := Ground.phase }, { on := 3, ground := Ground.phase }, { on := 4, ground := Ground.phase }, { on := 5, ground := Ground.phase }, { on := 6, ground := Ground.phase }, { on := 7, ground := Ground.phase }, { on := 8, ground := Ground.phase }], guard := none }) (v := ?v8x9) rfl (by kernel_rfl) (by kernel_rfl) (by kernel_rfl) (fun _ _ _ h => h) (Or.inl ⟨by rfl, ?h8x9⟩) trivial ?r8x9
      case h8x9 =>
        intro w' hSw
        (try dsimp only at hSw)
        go_simp
        first | done | with_reducible rfl | rfl | (rw [if_neg (by omega)])
      refine wpAnyH_ready (rs := [10]) (by kernel_rfl) (by simp) (AllReadyH.cons rfl (fun K hK => ?_) AllReadyH.nil)
      go_simp
      go_wp2_with fail
      refine hK.out _ _ trivial (fun hHeld => ?_)
      clear hK K hHeld
      refine wpAnyH_done (by kernel_rfl) ?_ _
      refine NormalAtV.mk (FrV.mk (by kernel_rfl) ?_)
      exact ⟨g, cap, W2, rfl, HROW.out, HGR.out, HAT.out⟩
    case w8 =>
      go_simp
      go_wp2_with fail
      refine hK.out _ _ trivial (fun hHeld => ?_)
      clear hK K hHeld
      have h0' := cell_allocV h0 (.cells #[.string kd, .int .i64 nx] 115)
      refine wpAnyH_ready (rs := [1]) (by kernel_rfl) (by simp) (AllReadyH.cons rfl (fun K hK => ?_) AllReadyH.nil)
      go_simp
      go_wp2_with fail
      refine hK.out _ _ trivial (fun hHeld => ?_)
      clear hK K hHeld
      refine wpAnyH_ready (rs := [8]) (by kernel_rfl) (by simp) (AllReadyH.cons rfl (fun K hK => ?_) AllReadyH.nil)
      rw [if_pos (by rfl)]
      refine wp_append_lies _ _ _ 54 rfl base 115 i0 _ 2 24 Tryz.underlying54 hi hz0 hz1 hz2 rfl (by decide) (Value.slice va vn vc) vn xs rfl (HOWN.out.alloc (.cells #[.string kd, .int .i64 nx] 115)).drew ⟨W.heap.size, 0, none⟩ 1 1 (ndCells ⟨kd, nx⟩) rfl rfl (new_needD W kd nx _) (ndCells_one ⟨kd, nx⟩) (by decide) (by have := HVN.out; unfold maxLen; omega) (by have := HVN.out; omega) (by have := HB.out; simp; omega) (W.alloc (.cells #[.string kd, .int .i64 nx] 115)).heap.size rfl ?_
      intro g cap W2 hrow hgr hat hlt
      have hgr := grown_drew hgr
      have hblk : W2.heap[B]? = W.heap[B]? := (hgr.block B (Nat.lt_of_lt_of_le HM.out (by simp)) (fun e => HNE.out e.symm)).trans (Below.heap_alloc _ _ _ HM.out)
      have y0 : W2.cell? ⟨B, 5, none⟩ = some (Value.slice va vn vc) := (World.cell?_of_block (a := ⟨B, 5, none⟩) hblk).trans h0
      have y1 : W2.frozen? ⟨B, 5, none⟩ = false := (World.frozen?_of_block (a := ⟨B, 5, none⟩) hblk).trans hf
      have HROW := hideIt hrow
      have HGR := hideIt hgr
      have HAT := hideIt hat
      clear hrow hgr hat hblk hlt
      refine hK.out _ _ trivial (fun hHeld => ?_)
      clear hK K hHeld
      refine wpAnyH_take (i := 9) (oi := { dst := some 104, op := Op.fieldAddr 56 (Operand.tmp 5) 3, type := 0, pos := "ostler.go:515", after := #[{ on := 0, ground := Ground.phase }, { on := 1, ground := Ground.phase }, { on := 2, ground := Ground.phase }, { on := 3, ground := Ground.phase }, { on := 4, ground := Ground.phase }, { on := 5, ground := Ground.phase }, { on := 6, ground := Ground.phase }, { on := 7, ground := Ground.phase }, { on := 8, ground := Ground.phase }], guard := none }) (v := ?v9x9) rfl (by kernel_rfl) (by kernel_rfl) (by kernel_rfl) (fun _ _ _ h => h) (Or.inl ⟨by rfl, ?h9x9⟩) trivial ?r9x9
      case h9x9 =>
        intro w' hSw
        (try dsimp only at hSw)
        go_simp
        first | done | with_reducible rfl | rfl | (rw [if_neg (by omega)])
      refine wpAnyH_ready (rs := [10]) (by kernel_rfl) (by simp) (AllReadyH.cons rfl (fun K hK => ?_) AllReadyH.nil)
      go_simp
      go_wp2_with fail
      refine hK.out _ _ trivial (fun hHeld => ?_)
      clear hK K hHeld
      refine wpAnyH_done (by kernel_rfl) ?_ _
      refine NormalAtV.mk (FrV.mk (by kernel_rfl) ?_)
      exact ⟨g, cap, W2, rfl, HROW.out, HGR.out, HAT.out⟩
noncomputable def HeldOfR26 : Code := theRegion 26 ((Tryz.f19.body.map regionsOfR).getD [])
set_option maxRecDepth 100000 in
set_option maxHeartbeats 4000000 in
theorem HeldOfR26_in {c0 c1 c2 c3 c4 c5 c6 c7 c8 c9 c10 c11 c12 c14 c15 c17 c18 c19 c20 c21 c22 c23 c24 c25 c26 c27 c28 c29 c30 c31 c32 c33 c34 c35 c36 c37 c38 c39 c40 c41 c42 c43 c44 c45 c46 c47 c48 c49 c50 c51 c52 c53 c54 c55 c56 c57 c58 c59 c60 c61 c62 c63 c64 c65 c66 c67 c68 c69 c70 c71 c72 c73 c74 c75 c76 c77 c78 c79 c80 c81 c82 c83 c84 c85 c86 c87 c88 c89 c90 c91 c92 c93 c94 c95 c96 c97 c98 c99 c100 c101 c102 c103 c104 c105 c106 c107 c108 c109 c110 c111 c124 c125 c126 c127 c128 c129 c130 c131 c132 c133 c134 c135 c136 c137 c138 c139 c140 c141 c142 c143 c144 c145 d112 d113 d114 d115 d116 d117 d118 d119 d120 d121 d122 d123 : Value} {vn vc base : Nat} {va : Option Addr} {nn nc : Nat} {na : Option Addr} {c : Ct} {m k bc : Nat} {xs : List Value} (W : World) (h0 : W.cell? ⟨m, k + 2, none⟩ = some (Value.slice va vn vc)) (hf : W.frozen? ⟨m, k + 2, none⟩ = false) (e0 : W.cell? ⟨bc, 0, none⟩ = some (.string c.nm)) (e1 : W.cell? ⟨bc, 1, none⟩ = some (.int .i64 c.am)) (e2 : W.cell? ⟨bc, 2, none⟩ = some (.int .i64 c.ab)) (e3 : W.cell? ⟨bc, 3, none⟩ = some (.int .i64 c.cm)) (e4 : W.cell? ⟨bc, 4, none⟩ = some (.int .i64 c.cb)) (e5 : W.cell? ⟨bc, 5, none⟩ = some (.slice na nn nc))
    (hown : W.ownsRow base 56 6 (Value.slice va vn vc) vn xs) (hb : base ≤ W.heap.size) (hvn : vn ≤ 100000) (hm : m < W.heap.size) (hne : (Value.slice va vn vc).ownBlock ≠ some m) :
    Code.wp Tryz.prog HeldOfR26 (NormalAtV (FrV (fun F => { tmps := List.toArray (c0 :: c1 :: c2 :: c3 :: c4 :: c5 :: c6 :: c7 :: c8 :: c9 :: c10 :: c11 :: c12 :: .pointer (some ⟨bc, 0, none⟩) :: c14 :: c15 :: .pointer (some ⟨m, k, none⟩) :: c17 :: c18 :: c19 :: c20 :: c21 :: c22 :: c23 :: c24 :: c25 :: c26 :: c27 :: c28 :: c29 :: c30 :: c31 :: c32 :: c33 :: c34 :: c35 :: c36 :: c37 :: c38 :: c39 :: c40 :: c41 :: c42 :: c43 :: c44 :: c45 :: c46 :: c47 :: c48 :: c49 :: c50 :: c51 :: c52 :: c53 :: c54 :: c55 :: c56 :: c57 :: c58 :: c59 :: c60 :: c61 :: c62 :: c63 :: c64 :: c65 :: c66 :: c67 :: c68 :: c69 :: c70 :: c71 :: c72 :: c73 :: c74 :: c75 :: c76 :: c77 :: c78 :: c79 :: c80 :: c81 :: c82 :: c83 :: c84 :: c85 :: c86 :: c87 :: c88 :: c89 :: c90 :: c91 :: c92 :: c93 :: c94 :: c95 :: c96 :: c97 :: c98 :: c99 :: c100 :: c101 :: c102 :: c103 :: c104 :: c105 :: c106 :: c107 :: c108 :: c109 :: c110 :: c111 :: F 112 :: F 113 :: F 114 :: F 115 :: F 116 :: F 117 :: F 118 :: F 119 :: F 120 :: F 121 :: F 122 :: F 123 :: c124 :: c125 :: c126 :: c127 :: c128 :: c129 :: c130 :: c131 :: c132 :: c133 :: c134 :: c135 :: c136 :: c137 :: c138 :: c139 :: c140 :: c141 :: c142 :: c143 :: c144 :: c145 :: []), defers := [] }) (fun _ W' => ∃ g cap W2, W' = W2.setCell ⟨m, k + 2, none⟩ (Value.slice (some ⟨g, 0, none⟩) (vn + 1) cap) ∧ W2.ownsRow base 56 6 (Value.slice (some ⟨g, 0, none⟩) (vn + 1) cap) (vn + 1) (xs ++ cCells (c, .slice na nn nc)) ∧ (W.alloc (.cells #[.string c.nm, .int .i64 c.am, .int .i64 c.ab, .int .i64 c.cm, .int .i64 c.cb, .slice na nn nc] 56)).grownBy W2 (Value.slice va vn vc).ownBlock ∧ ((Value.slice va vn vc).ownBlock = some g ∨ g = (W.alloc (.cells #[.string c.nm, .int .i64 c.am, .int .i64 c.ab, .int .i64 c.cm, .int .i64 c.cb, .slice na nn nc] 56)).heap.size))))
      { tmps := List.toArray (c0 :: c1 :: c2 :: c3 :: c4 :: c5 :: c6 :: c7 :: c8 :: c9 :: c10 :: c11 :: c12 :: .pointer (some ⟨bc, 0, none⟩) :: c14 :: c15 :: .pointer (some ⟨m, k, none⟩) :: c17 :: c18 :: c19 :: c20 :: c21 :: c22 :: c23 :: c24 :: c25 :: c26 :: c27 :: c28 :: c29 :: c30 :: c31 :: c32 :: c33 :: c34 :: c35 :: c36 :: c37 :: c38 :: c39 :: c40 :: c41 :: c42 :: c43 :: c44 :: c45 :: c46 :: c47 :: c48 :: c49 :: c50 :: c51 :: c52 :: c53 :: c54 :: c55 :: c56 :: c57 :: c58 :: c59 :: c60 :: c61 :: c62 :: c63 :: c64 :: c65 :: c66 :: c67 :: c68 :: c69 :: c70 :: c71 :: c72 :: c73 :: c74 :: c75 :: c76 :: c77 :: c78 :: c79 :: c80 :: c81 :: c82 :: c83 :: c84 :: c85 :: c86 :: c87 :: c88 :: c89 :: c90 :: c91 :: c92 :: c93 :: c94 :: c95 :: c96 :: c97 :: c98 :: c99 :: c100 :: c101 :: c102 :: c103 :: c104 :: c105 :: c106 :: c107 :: c108 :: c109 :: c110 :: c111 :: d112 :: d113 :: d114 :: d115 :: d116 :: d117 :: d118 :: d119 :: d120 :: d121 :: d122 :: d123 :: c124 :: c125 :: c126 :: c127 :: c128 :: c129 :: c130 :: c131 :: c132 :: c133 :: c134 :: c135 :: c136 :: c137 :: c138 :: c139 :: c140 :: c141 :: c142 :: c143 :: c144 :: c145 :: []), defers := [] } W := by
  obtain ⟨i0, hi, hz0, hz1, hz2⟩ := info_parts infoContV
  have HOWN := hideIt hown
  have HNE := hideIt hne
  have HB := hideIt hb
  have HVN := hideIt hvn
  have HM := hideIt hm
  clear hown hne hb hvn hm
  conv => enter [2]; unfold HeldOfR26; whnf
  refine wp_region_held_drew (S := fun _ => True) (by kernel_rfl) trivial (fun hHeld => ?_)
  clear hHeld
  refine wpAnyH_take (i := 0) (oi := { dst := some 112, op := Op.move (Operand.tmp 16), type := 109, pos := "ostler.go:479", after := #[], guard := none }) (v := ?v10x0) rfl (by kernel_rfl) (by kernel_rfl) (by kernel_rfl) (fun _ _ _ h => h) (Or.inl ⟨by rfl, ?h10x0⟩) trivial ?r10x0
  case h10x0 =>
    intro w' hSw
    (try dsimp only at hSw)
    go_simp
    first | done | with_reducible rfl | rfl | (rw [if_neg (by omega)])
  (try simp only [Act.put, List.setIfInBounds_toArray, List.set_cons_zero, List.set_cons_succ])
  refine wpAnyH_take (i := 1) (oi := { dst := some 113, op := Op.move (Operand.tmp 16), type := 109, pos := "ostler.go:479", after := #[], guard := none }) (v := ?v11x1) rfl (by kernel_rfl) (by kernel_rfl) (by kernel_rfl) (fun _ _ _ h => h) (Or.inl ⟨by rfl, ?h11x1⟩) trivial ?r11x1
  case h11x1 =>
    intro w' hSw
    (try dsimp only at hSw)
    go_simp
    first | done | with_reducible rfl | rfl | (rw [if_neg (by omega)])
  (try simp only [Act.put, List.setIfInBounds_toArray, List.set_cons_zero, List.set_cons_succ])
  refine wpAnyH_take (i := 2) (oi := { dst := some 114, op := Op.nilCheck (Operand.tmp 113), type := 0, pos := "ostler.go:479", after := #[{ on := 1, ground := Ground.data }], guard := none }) (v := ?v12x2) rfl (by kernel_rfl) (by kernel_rfl) (by kernel_rfl) (fun _ _ _ h => h) (Or.inl ⟨by rfl, ?h12x2⟩) trivial ?r12x2
  case h12x2 =>
    intro w' hSw
    (try dsimp only at hSw)
    go_simp
    first | done | with_reducible rfl | rfl | (rw [if_neg (by omega)])
  (try simp only [Act.put, List.setIfInBounds_toArray, List.set_cons_zero, List.set_cons_succ])
  refine wpAnyH_take (i := 3) (oi := { dst := some 115, op := Op.fieldAddr 67 (Operand.tmp 114) 0, type := 0, pos := "ostler.go:479", after := #[{ on := 2, ground := Ground.data }], guard := none }) (v := ?v13x3) rfl (by kernel_rfl) (by kernel_rfl) (by kernel_rfl) (fun _ _ _ h => h) (Or.inl ⟨by rfl, ?h13x3⟩) trivial ?r13x3
  case h13x3 =>
    intro w' hSw
    (try dsimp only at hSw)
    go_simp
    first | done | with_reducible rfl | rfl | (rw [if_neg (by omega)])
  (try simp only [Act.put, List.setIfInBounds_toArray, List.set_cons_zero, List.set_cons_succ])
  refine wpAnyH_take (i := 4) (oi := { dst := some 116, op := Op.fieldAddr 59 (Operand.tmp 115) 2, type := 0, pos := "ostler.go:479", after := #[{ on := 3, ground := Ground.data }], guard := none }) (v := ?v14x4) rfl (by kernel_rfl) (by kernel_rfl) (by kernel_rfl) (fun _ _ _ h => h) (Or.inl ⟨by rfl, ?h14x4⟩) trivial ?r14x4
  case h14x4 =>
    intro w' hSw
    (try dsimp only at hSw)
    go_simp
    first | done | with_reducible rfl | rfl | (rw [if_neg (by omega)])
  (try simp only [Act.put, List.setIfInBounds_toArray, List.set_cons_zero, List.set_cons_succ])
  refine wpAnyH_ready (rs := [5, 6]) (by kernel_rfl) (by simp) (AllReadyH.cons rfl (fun K hK => ?w1) (AllReadyH.cons rfl (fun K hK => ?w2) AllReadyH.nil))
  case w1 =>
    go_simp
    go_wp2_with fail
    refine hK.out _ _ trivial (fun hHeld => ?_)
    clear hK K hHeld
    refine wpAnyH_ready (rs := [6]) (by kernel_rfl) (by simp) (AllReadyH.cons rfl (fun K hK => ?_) AllReadyH.nil)
    go_simp
    go_wp2_with fail
    refine hK.out _ _ trivial (fun hHeld => ?_)
    clear hK K hHeld
    refine wpAnyH_ready (rs := [7]) (by kernel_rfl) (by simp) (AllReadyH.cons rfl (fun K hK => ?_) AllReadyH.nil)
    go_simp
    go_wp2_with fail
    refine hK.out _ _ trivial (fun hHeld => ?_)
    clear hK K hHeld
    refine wpAnyH_ready (rs := [8]) (by kernel_rfl) (by simp) (AllReadyH.cons rfl (fun K hK => ?_) AllReadyH.nil)
    rw [if_pos (by rfl)]
    refine wp_append_lies _ _ _ 57 rfl base 56 i0 _ 6 72 Tryz.underlying57 hi hz0 hz1 hz2 rfl (by decide) (Value.slice va vn vc) vn xs rfl (HOWN.out.alloc (.cells #[.string c.nm, .int .i64 c.am, .int .i64 c.ab, .int .i64 c.cm, .int .i64 c.cb, .slice na nn nc] 56)).drew ⟨W.heap.size, 0, none⟩ 1 1 (cCells (c, .slice na nn nc)) rfl rfl (new_cont W c _ _) (cCells_one c na nn nc) (by decide) (by have := HVN.out; unfold maxLen; omega) (by have := HVN.out; omega) (by have := HB.out; simp; omega) (W.alloc (.cells #[.string c.nm, .int .i64 c.am, .int .i64 c.ab, .int .i64 c.cm, .int .i64 c.cb, .slice na nn nc] 56)).heap.size rfl ?_
    intro g cap W2 hrow hgr hat hlt
    have hgr := grown_drew hgr
    have hblk : W2.heap[m]? = W.heap[m]? := (hgr.block m (Nat.lt_of_lt_of_le HM.out (by simp)) (fun e => HNE.out e.symm)).trans (Below.heap_alloc _ _ _ HM.out)
    have y0 : W2.cell? ⟨m, k + 2, none⟩ = some (Value.slice va vn vc) := (World.cell?_of_block (a := ⟨m, k + 2, none⟩) hblk).trans h0
    have y1 : W2.frozen? ⟨m, k + 2, none⟩ = false := (World.frozen?_of_block (a := ⟨m, k + 2, none⟩) hblk).trans hf
    have HROW := hideIt hrow
    have HGR := hideIt hgr
    have HAT := hideIt hat
    clear hrow hgr hat hblk hlt
    refine hK.out _ _ trivial (fun hHeld => ?_)
    clear hK K hHeld
    refine wpAnyH_take (i := 9) (oi := { dst := some 121, op := Op.nilCheck (Operand.tmp 112), type := 0, pos := "ostler.go:479", after := #[{ on := 0, ground := Ground.data }, { on := 0, ground := Ground.phase }, { on := 1, ground := Ground.phase }, { on := 2, ground := Ground.phase }, { on := 3, ground := Ground.phase }, { on := 4, ground := Ground.phase }, { on := 5, ground := Ground.phase }, { on := 6, ground := Ground.phase }, { on := 7, ground := Ground.phase }, { on := 8, ground := Ground.phase }], guard := none }) (v := ?v15x9) rfl (by kernel_rfl) (by kernel_rfl) (by kernel_rfl) (fun _ _ _ h => h) (Or.inl ⟨by rfl, ?h15x9⟩) trivial ?r15x9
    case h15x9 =>
      intro w' hSw
      (try dsimp only at hSw)
      go_simp
      first | done | with_reducible rfl | rfl | (rw [if_neg (by omega)])
    refine wpAnyH_take (i := 10) (oi := { dst := some 122, op := Op.fieldAddr 67 (Operand.tmp 121) 0, type := 0, pos := "ostler.go:479", after := #[{ on := 9, ground := Ground.data }, { on := 0, ground := Ground.phase }, { on := 1, ground := Ground.phase }, { on := 2, ground := Ground.phase }, { on := 3, ground := Ground.phase }, { on := 4, ground := Ground.phase }, { on := 5, ground := Ground.phase }, { on := 6, ground := Ground.phase }, { on := 7, ground := Ground.phase }, { on := 8, ground := Ground.phase }], guard := none }) (v := ?v16x10) rfl (by kernel_rfl) (by kernel_rfl) (by kernel_rfl) (fun _ _ _ h => h) (Or.inl ⟨by rfl, ?h16x10⟩) trivial ?r16x10
    case h16x10 =>
      intro w' hSw
      (try dsimp only at hSw)
      go_simp
      first | done | with_reducible rfl | rfl | (rw [if_neg (by omega)])
    refine wpAnyH_take (i := 11) (oi := { dst := some 123, op := Op.fieldAddr 59 (Operand.tmp 122) 2, type := 0, pos := "ostler.go:479", after := #[{ on := 10, ground := Ground.data }, { on := 0, ground := Ground.phase }, { on := 1, ground := Ground.phase }, { on := 2, ground := Ground.phase }, { on := 3, ground := Ground.phase }, { on := 4, ground := Ground.phase }, { on := 5, ground := Ground.phase }, { on := 6, ground := Ground.phase }, { on := 7, ground := Ground.phase }, { on := 8, ground := Ground.phase }], guard := none }) (v := ?v17x11) rfl (by kernel_rfl) (by kernel_rfl) (by kernel_rfl) (fun _ _ _ h => h) (Or.inl ⟨by rfl, ?h17x11⟩) trivial ?r17x11
    case h17x11 =>
      intro w' hSw
      (try dsimp only at hSw)
      go_simp
      first | done | with_reducible rfl | rfl | (rw [if_neg (by omega)])
    refine wpAnyH_ready (rs := [12]) (by kernel_rfl) (by simp) (AllReadyH.cons rfl (fun K hK => ?_) AllReadyH.nil)
    go_simp
    go_wp2_with fail
    refine hK.out _ _ trivial (fun hHeld => ?_)
    clear hK K hHeld
    refine wpAnyH_done (by kernel_rfl) ?_ _
    refine NormalAtV.mk (FrV.mk (by kernel_rfl) ?_)
    exact ⟨g, cap, W2, rfl, HROW.out, HGR.out, HAT.out⟩
  case w2 =>
    go_simp
    go_wp2_with fail
    refine hK.out _ _ trivial (fun hHeld => ?_)
    clear hK K hHeld
    refine wpAnyH_ready (rs := [5, 7]) (by kernel_rfl) (by simp) (AllReadyH.cons rfl (fun K hK => ?w7) (AllReadyH.cons rfl (fun K hK => ?w8) AllReadyH.nil))
    case w7 =>
      go_simp
      go_wp2_with fail
      refine hK.out _ _ trivial (fun hHeld => ?_)
      clear hK K hHeld
      refine wpAnyH_ready (rs := [7]) (by kernel_rfl) (by simp) (AllReadyH.cons rfl (fun K hK => ?_) AllReadyH.nil)
      go_simp
      go_wp2_with fail
      refine hK.out _ _ trivial (fun hHeld => ?_)
      clear hK K hHeld
      refine wpAnyH_ready (rs := [8]) (by kernel_rfl) (by simp) (AllReadyH.cons rfl (fun K hK => ?_) AllReadyH.nil)
      rw [if_pos (by rfl)]
      refine wp_append_lies _ _ _ 57 rfl base 56 i0 _ 6 72 Tryz.underlying57 hi hz0 hz1 hz2 rfl (by decide) (Value.slice va vn vc) vn xs rfl (HOWN.out.alloc (.cells #[.string c.nm, .int .i64 c.am, .int .i64 c.ab, .int .i64 c.cm, .int .i64 c.cb, .slice na nn nc] 56)).drew ⟨W.heap.size, 0, none⟩ 1 1 (cCells (c, .slice na nn nc)) rfl rfl (new_cont W c _ _) (cCells_one c na nn nc) (by decide) (by have := HVN.out; unfold maxLen; omega) (by have := HVN.out; omega) (by have := HB.out; simp; omega) (W.alloc (.cells #[.string c.nm, .int .i64 c.am, .int .i64 c.ab, .int .i64 c.cm, .int .i64 c.cb, .slice na nn nc] 56)).heap.size rfl ?_
      intro g cap W2 hrow hgr hat hlt
      have hgr := grown_drew hgr
      have hblk : W2.heap[m]? = W.heap[m]? := (hgr.block m (Nat.lt_of_lt_of_le HM.out (by simp)) (fun e => HNE.out e.symm)).trans (Below.heap_alloc _ _ _ HM.out)
      have y0 : W2.cell? ⟨m, k + 2, none⟩ = some (Value.slice va vn vc) := (World.cell?_of_block (a := ⟨m, k + 2, none⟩) hblk).trans h0
      have y1 : W2.frozen? ⟨m, k + 2, none⟩ = false := (World.frozen?_of_block (a := ⟨m, k + 2, none⟩) hblk).trans hf
      have HROW := hideIt hrow
      have HGR := hideIt hgr
      have HAT := hideIt hat
      clear hrow hgr hat hblk hlt
      refine hK.out _ _ trivial (fun hHeld => ?_)
      clear hK K hHeld
      refine wpAnyH_take (i := 9) (oi := { dst := some 121, op := Op.nilCheck (Operand.tmp 112), type := 0, pos := "ostler.go:479", after := #[{ on := 0, ground := Ground.data }, { on := 0, ground := Ground.phase }, { on := 1, ground := Ground.phase }, { on := 2, ground := Ground.phase }, { on := 3, ground := Ground.phase }, { on := 4, ground := Ground.phase }, { on := 5, ground := Ground.phase }, { on := 6, ground := Ground.phase }, { on := 7, ground := Ground.phase }, { on := 8, ground := Ground.phase }], guard := none }) (v := ?v18x9) rfl (by kernel_rfl) (by kernel_rfl) (by kernel_rfl) (fun _ _ _ h => h) (Or.inl ⟨by rfl, ?h18x9⟩) trivial ?r18x9
      case h18x9 =>
        intro w' hSw
        (try dsimp only at hSw)
        go_simp
        first | done | with_reducible rfl | rfl | (rw [if_neg (by omega)])
      refine wpAnyH_take (i := 10) (oi := { dst := some 122, op := Op.fieldAddr 67 (Operand.tmp 121) 0, type := 0, pos := "ostler.go:479", after := #[{ on := 9, ground := Ground.data }, { on := 0, ground := Ground.phase }, { on := 1, ground := Ground.phase }, { on := 2, ground := Ground.phase }, { on := 3, ground := Ground.phase }, { on := 4, ground := Ground.phase }, { on := 5, ground := Ground.phase }, { on := 6, ground := Ground.phase }, { on := 7, ground := Ground.phase }, { on := 8, ground := Ground.phase }], guard := none }) (v := ?v19x10) rfl (by kernel_rfl) (by kernel_rfl) (by kernel_rfl) (fun _ _ _ h => h) (Or.inl ⟨by rfl, ?h19x10⟩) trivial ?r19x10
      case h19x10 =>
        intro w' hSw
        (try dsimp only at hSw)
        go_simp
        first | done | with_reducible rfl | rfl | (rw [if_neg (by omega)])
      refine wpAnyH_take (i := 11) (oi := { dst := some 123, op := Op.fieldAddr 59 (Operand.tmp 122) 2, type := 0, pos := "ostler.go:479", after := #[{ on := 10, ground := Ground.data }, { on := 0, ground := Ground.phase }, { on := 1, ground := Ground.phase }, { on := 2, ground := Ground.phase }, { on := 3, ground := Ground.phase }, { on := 4, ground := Ground.phase }, { on := 5, ground := Ground.phase }, { on := 6, ground := Ground.phase }, { on := 7, ground := Ground.phase }, { on := 8, ground := Ground.phase }], guard := none }) (v := ?v20x11) rfl (by kernel_rfl) (by kernel_rfl) (by kernel_rfl) (fun _ _ _ h => h) (Or.inl ⟨by rfl, ?h20x11⟩) trivial ?r20x11
      case h20x11 =>
        intro w' hSw
        (try dsimp only at hSw)
        go_simp
        first | done | with_reducible rfl | rfl | (rw [if_neg (by omega)])
      refine wpAnyH_ready (rs := [12]) (by kernel_rfl) (by simp) (AllReadyH.cons rfl (fun K hK => ?_) AllReadyH.nil)
      go_simp
      go_wp2_with fail
      refine hK.out _ _ trivial (fun hHeld => ?_)
      clear hK K hHeld
      refine wpAnyH_done (by kernel_rfl) ?_ _
      refine NormalAtV.mk (FrV.mk (by kernel_rfl) ?_)
      exact ⟨g, cap, W2, rfl, HROW.out, HGR.out, HAT.out⟩
    case w8 =>
      go_simp
      go_wp2_with fail
      refine hK.out _ _ trivial (fun hHeld => ?_)
      clear hK K hHeld
      have h0' := cell_allocV h0 (.cells #[.string c.nm, .int .i64 c.am, .int .i64 c.ab, .int .i64 c.cm, .int .i64 c.cb, .slice na nn nc] 56)
      refine wpAnyH_ready (rs := [5]) (by kernel_rfl) (by simp) (AllReadyH.cons rfl (fun K hK => ?_) AllReadyH.nil)
      go_simp
      go_wp2_with fail
      refine hK.out _ _ trivial (fun hHeld => ?_)
      clear hK K hHeld
      refine wpAnyH_ready (rs := [8]) (by kernel_rfl) (by simp) (AllReadyH.cons rfl (fun K hK => ?_) AllReadyH.nil)
      rw [if_pos (by rfl)]
      refine wp_append_lies _ _ _ 57 rfl base 56 i0 _ 6 72 Tryz.underlying57 hi hz0 hz1 hz2 rfl (by decide) (Value.slice va vn vc) vn xs rfl (HOWN.out.alloc (.cells #[.string c.nm, .int .i64 c.am, .int .i64 c.ab, .int .i64 c.cm, .int .i64 c.cb, .slice na nn nc] 56)).drew ⟨W.heap.size, 0, none⟩ 1 1 (cCells (c, .slice na nn nc)) rfl rfl (new_cont W c _ _) (cCells_one c na nn nc) (by decide) (by have := HVN.out; unfold maxLen; omega) (by have := HVN.out; omega) (by have := HB.out; simp; omega) (W.alloc (.cells #[.string c.nm, .int .i64 c.am, .int .i64 c.ab, .int .i64 c.cm, .int .i64 c.cb, .slice na nn nc] 56)).heap.size rfl ?_
      intro g cap W2 hrow hgr hat hlt
      have hgr := grown_drew hgr
      have hblk : W2.heap[m]? = W.heap[m]? := (hgr.block m (Nat.lt_of_lt_of_le HM.out (by simp)) (fun e => HNE.out e.symm)).trans (Below.heap_alloc _ _ _ HM.out)
      have y0 : W2.cell? ⟨m, k + 2, none⟩ = some (Value.slice va vn vc) := (World.cell?_of_block (a := ⟨m, k + 2, none⟩) hblk).trans h0
      have y1 : W2.frozen? ⟨m, k + 2, none⟩ = false := (World.frozen?_of_block (a := ⟨m, k + 2, none⟩) hblk).trans hf
      have HROW := hideIt hrow
      have HGR := hideIt hgr
      have HAT := hideIt hat
      clear hrow hgr hat hblk hlt
      refine hK.out _ _ trivial (fun hHeld => ?_)
      clear hK K hHeld
      refine wpAnyH_take (i := 9) (oi := { dst := some 121, op := Op.nilCheck (Operand.tmp 112), type := 0, pos := "ostler.go:479", after := #[{ on := 0, ground := Ground.data }, { on := 0, ground := Ground.phase }, { on := 1, ground := Ground.phase }, { on := 2, ground := Ground.phase }, { on := 3, ground := Ground.phase }, { on := 4, ground := Ground.phase }, { on := 5, ground := Ground.phase }, { on := 6, ground := Ground.phase }, { on := 7, ground := Ground.phase }, { on := 8, ground := Ground.phase }], guard := none }) (v := ?v21x9) rfl (by kernel_rfl) (by kernel_rfl) (by kernel_rfl) (fun _ _ _ h => h) (Or.inl ⟨by rfl, ?h21x9⟩) trivial ?r21x9
      case h21x9 =>
        intro w' hSw
        (try dsimp only at hSw)
        go_simp
        first | done | with_reducible rfl | rfl | (rw [if_neg (by omega)])
      refine wpAnyH_take (i := 10) (oi := { dst := some 122, op := Op.fieldAddr 67 (Operand.tmp 121) 0, type := 0, pos := "ostler.go:479", after := #[{ on := 9, ground := Ground.data }, { on := 0, ground := Ground.phase }, { on := 1, ground := Ground.phase }, { on := 2, ground := Ground.phase }, { on := 3, ground := Ground.phase }, { on := 4, ground := Ground.phase }, { on := 5, ground := Ground.phase }, { on := 6, ground := Ground.phase }, { on := 7, ground := Ground.phase }, { on := 8, ground := Ground.phase }], guard := none }) (v := ?v22x10) rfl (by kernel_rfl) (by kernel_rfl) (by kernel_rfl) (fun _ _ _ h => h) (Or.inl ⟨by rfl, ?h22x10⟩) trivial ?r22x10
      case h22x10 =>
        intro w' hSw
        (try dsimp only at hSw)
        go_simp
        first | done | with_reducible rfl | rfl | (rw [if_neg (by omega)])
      refine wpAnyH_take (i := 11) (oi := { dst := some 123, op := Op.fieldAddr 59 (Operand.tmp 122) 2, type := 0, pos := "ostler.go:479", after := #[{ on := 10, ground := Ground.data }, { on := 0, ground := Ground.phase }, { on := 1, ground := Ground.phase }, { on := 2, ground := Ground.phase }, { on := 3, ground := Ground.phase }, { on := 4, ground := Ground.phase }, { on := 5, ground := Ground.phase }, { on := 6, ground := Ground.phase }, { on := 7, ground := Ground.phase }, { on := 8, ground := Ground.phase }], guard := none }) (v := ?v23x11) rfl (by kernel_rfl) (by kernel_rfl) (by kernel_rfl) (fun _ _ _ h => h) (Or.inl ⟨by rfl, ?h23x11⟩) trivial ?r23x11
      case h23x11 =>
        intro w' hSw
        (try dsimp only at hSw)
        go_simp
        first | done | with_reducible rfl | rfl | (rw [if_neg (by omega)])
      refine wpAnyH_ready (rs := [12]) (by kernel_rfl) (by simp) (AllReadyH.cons rfl (fun K hK => ?_) AllReadyH.nil)
      go_simp
      go_wp2_with fail
      refine hK.out _ _ trivial (fun hHeld => ?_)
      clear hK K hHeld
      refine wpAnyH_done (by kernel_rfl) ?_ _
      refine NormalAtV.mk (FrV.mk (by kernel_rfl) ?_)
      exact ⟨g, cap, W2, rfl, HROW.out, HGR.out, HAT.out⟩
noncomputable def HeldOfR27 : Code := theRegion 27 ((Tryz.f19.body.map regionsOfR).getD [])
set_option maxRecDepth 100000 in
set_option maxHeartbeats 4000000 in
theorem HeldOfR27_in {c0 c1 c2 c3 c4 c5 c6 c7 c8 c9 c10 c11 c12 c13 c15 c17 c18 c19 c20 c21 c22 c23 c24 c25 c26 c27 c28 c29 c30 c31 c32 c33 c34 c35 c36 c37 c38 c39 c40 c41 c42 c43 c44 c45 c46 c47 c48 c49 c50 c51 c52 c53 c54 c55 c56 c57 c58 c59 c60 c61 c62 c63 c64 c65 c66 c67 c68 c69 c70 c71 c72 c73 c74 c75 c76 c77 c78 c79 c80 c81 c82 c83 c84 c85 c86 c87 c88 c89 c90 c91 c92 c93 c94 c95 c96 c97 c98 c99 c100 c101 c102 c103 c104 c105 c106 c107 c108 c109 c110 c111 c112 c113 c114 c115 c116 c117 c118 c119 c120 c121 c122 c123 c134 c135 c136 c137 c138 c139 c140 c141 c142 c143 c144 c145 d124 d125 d126 d127 d128 d129 d130 d131 d132 d133 : Value} {vn vc base : Nat} {va : Option Addr} {nn nc : Nat} {na : Option Addr} {c : Gv} {m k bc : Nat} {xs : List Value} (W : World) (h0 : W.cell? ⟨m, k + 3, none⟩ = some (Value.slice va vn vc)) (hf : W.frozen? ⟨m, k + 3, none⟩ = false) (e0 : W.cell? ⟨bc, 0, none⟩ = some (.int .u64 c.cp)) (e1 : W.cell? ⟨bc, 1, none⟩ = some (.slice na nn nc))
    (hown : W.ownsRow base 64 2 (Value.slice va vn vc) vn xs) (hb : base ≤ W.heap.size) (hvn : vn ≤ 100000) (hm : m < W.heap.size) (hne : (Value.slice va vn vc).ownBlock ≠ some m) :
    Code.wp Tryz.prog HeldOfR27 (NormalAtV (FrV (fun F => { tmps := List.toArray (c0 :: c1 :: c2 :: c3 :: c4 :: c5 :: c6 :: c7 :: c8 :: c9 :: c10 :: c11 :: c12 :: c13 :: .pointer (some ⟨bc, 0, none⟩) :: c15 :: .pointer (some ⟨m, k, none⟩) :: c17 :: c18 :: c19 :: c20 :: c21 :: c22 :: c23 :: c24 :: c25 :: c26 :: c27 :: c28 :: c29 :: c30 :: c31 :: c32 :: c33 :: c34 :: c35 :: c36 :: c37 :: c38 :: c39 :: c40 :: c41 :: c42 :: c43 :: c44 :: c45 :: c46 :: c47 :: c48 :: c49 :: c50 :: c51 :: c52 :: c53 :: c54 :: c55 :: c56 :: c57 :: c58 :: c59 :: c60 :: c61 :: c62 :: c63 :: c64 :: c65 :: c66 :: c67 :: c68 :: c69 :: c70 :: c71 :: c72 :: c73 :: c74 :: c75 :: c76 :: c77 :: c78 :: c79 :: c80 :: c81 :: c82 :: c83 :: c84 :: c85 :: c86 :: c87 :: c88 :: c89 :: c90 :: c91 :: c92 :: c93 :: c94 :: c95 :: c96 :: c97 :: c98 :: c99 :: c100 :: c101 :: c102 :: c103 :: c104 :: c105 :: c106 :: c107 :: c108 :: c109 :: c110 :: c111 :: c112 :: c113 :: c114 :: c115 :: c116 :: c117 :: c118 :: c119 :: c120 :: c121 :: c122 :: c123 :: F 124 :: F 125 :: F 126 :: F 127 :: F 128 :: F 129 :: F 130 :: F 131 :: F 132 :: F 133 :: c134 :: c135 :: c136 :: c137 :: c138 :: c139 :: c140 :: c141 :: c142 :: c143 :: c144 :: c145 :: []), defers := [] }) (fun _ W' => ∃ g cap W2, W' = W2.setCell ⟨m, k + 3, none⟩ (Value.slice (some ⟨g, 0, none⟩) (vn + 1) cap) ∧ W2.ownsRow base 64 2 (Value.slice (some ⟨g, 0, none⟩) (vn + 1) cap) (vn + 1) (xs ++ gCells (c, .slice na nn nc)) ∧ (W.alloc (.cells #[.int .u64 c.cp, .slice na nn nc] 64)).grownBy W2 (Value.slice va vn vc).ownBlock ∧ ((Value.slice va vn vc).ownBlock = some g ∨ g = (W.alloc (.cells #[.int .u64 c.cp, .slice na nn nc] 64)).heap.size))))
      { tmps := List.toArray (c0 :: c1 :: c2 :: c3 :: c4 :: c5 :: c6 :: c7 :: c8 :: c9 :: c10 :: c11 :: c12 :: c13 :: .pointer (some ⟨bc, 0, none⟩) :: c15 :: .pointer (some ⟨m, k, none⟩) :: c17 :: c18 :: c19 :: c20 :: c21 :: c22 :: c23 :: c24 :: c25 :: c26 :: c27 :: c28 :: c29 :: c30 :: c31 :: c32 :: c33 :: c34 :: c35 :: c36 :: c37 :: c38 :: c39 :: c40 :: c41 :: c42 :: c43 :: c44 :: c45 :: c46 :: c47 :: c48 :: c49 :: c50 :: c51 :: c52 :: c53 :: c54 :: c55 :: c56 :: c57 :: c58 :: c59 :: c60 :: c61 :: c62 :: c63 :: c64 :: c65 :: c66 :: c67 :: c68 :: c69 :: c70 :: c71 :: c72 :: c73 :: c74 :: c75 :: c76 :: c77 :: c78 :: c79 :: c80 :: c81 :: c82 :: c83 :: c84 :: c85 :: c86 :: c87 :: c88 :: c89 :: c90 :: c91 :: c92 :: c93 :: c94 :: c95 :: c96 :: c97 :: c98 :: c99 :: c100 :: c101 :: c102 :: c103 :: c104 :: c105 :: c106 :: c107 :: c108 :: c109 :: c110 :: c111 :: c112 :: c113 :: c114 :: c115 :: c116 :: c117 :: c118 :: c119 :: c120 :: c121 :: c122 :: c123 :: d124 :: d125 :: d126 :: d127 :: d128 :: d129 :: d130 :: d131 :: d132 :: d133 :: c134 :: c135 :: c136 :: c137 :: c138 :: c139 :: c140 :: c141 :: c142 :: c143 :: c144 :: c145 :: []), defers := [] } W := by
  obtain ⟨i0, hi, hz0, hz1, hz2⟩ := info_parts infoGivenV
  have HOWN := hideIt hown
  have HNE := hideIt hne
  have HB := hideIt hb
  have HVN := hideIt hvn
  have HM := hideIt hm
  clear hown hne hb hvn hm
  conv => enter [2]; unfold HeldOfR27; whnf
  refine wp_region_held_drew (S := fun _ => True) (by kernel_rfl) trivial (fun hHeld => ?_)
  clear hHeld
  refine wpAnyH_take (i := 0) (oi := { dst := some 124, op := Op.move (Operand.tmp 16), type := 109, pos := "ostler.go:480", after := #[], guard := none }) (v := ?v24x0) rfl (by kernel_rfl) (by kernel_rfl) (by kernel_rfl) (fun _ _ _ h => h) (Or.inl ⟨by rfl, ?h24x0⟩) trivial ?r24x0
  case h24x0 =>
    intro w' hSw
    (try dsimp only at hSw)
    go_simp
    first | done | with_reducible rfl | rfl | (rw [if_neg (by omega)])
  (try simp only [Act.put, List.setIfInBounds_toArray, List.set_cons_zero, List.set_cons_succ])
  refine wpAnyH_take (i := 1) (oi := { dst := some 125, op := Op.move (Operand.tmp 16), type := 109, pos := "ostler.go:480", after := #[], guard := none }) (v := ?v25x1) rfl (by kernel_rfl) (by kernel_rfl) (by kernel_rfl) (fun _ _ _ h => h) (Or.inl ⟨by rfl, ?h25x1⟩) trivial ?r25x1
  case h25x1 =>
    intro w' hSw
    (try dsimp only at hSw)
    go_simp
    first | done | with_reducible rfl | rfl | (rw [if_neg (by omega)])
  (try simp only [Act.put, List.setIfInBounds_toArray, List.set_cons_zero, List.set_cons_succ])
  refine wpAnyH_take (i := 2) (oi := { dst := some 126, op := Op.nilCheck (Operand.tmp 125), type := 0, pos := "ostler.go:480", after := #[{ on := 1, ground := Ground.data }], guard := none }) (v := ?v26x2) rfl (by kernel_rfl) (by kernel_rfl) (by kernel_rfl) (fun _ _ _ h => h) (Or.inl ⟨by rfl, ?h26x2⟩) trivial ?r26x2
  case h26x2 =>
    intro w' hSw
    (try dsimp only at hSw)
    go_simp
    first | done | with_reducible rfl | rfl | (rw [if_neg (by omega)])
  (try simp only [Act.put, List.setIfInBounds_toArray, List.set_cons_zero, List.set_cons_succ])
  refine wpAnyH_take (i := 3) (oi := { dst := some 127, op := Op.fieldAddr 67 (Operand.tmp 126) 1, type := 0, pos := "ostler.go:480", after := #[{ on := 2, ground := Ground.data }], guard := none }) (v := ?v27x3) rfl (by kernel_rfl) (by kernel_rfl) (by kernel_rfl) (fun _ _ _ h => h) (Or.inl ⟨by rfl, ?h27x3⟩) trivial ?r27x3
  case h27x3 =>
    intro w' hSw
    (try dsimp only at hSw)
    go_simp
    first | done | with_reducible rfl | rfl | (rw [if_neg (by omega)])
  (try simp only [Act.put, List.setIfInBounds_toArray, List.set_cons_zero, List.set_cons_succ])
  refine wpAnyH_ready (rs := [4, 5]) (by kernel_rfl) (by simp) (AllReadyH.cons rfl (fun K hK => ?w1) (AllReadyH.cons rfl (fun K hK => ?w2) AllReadyH.nil))
  case w1 =>
    go_simp
    go_wp2_with fail
    refine hK.out _ _ trivial (fun hHeld => ?_)
    clear hK K hHeld
    refine wpAnyH_ready (rs := [5]) (by kernel_rfl) (by simp) (AllReadyH.cons rfl (fun K hK => ?_) AllReadyH.nil)
    go_simp
    go_wp2_with fail
    refine hK.out _ _ trivial (fun hHeld => ?_)
    clear hK K hHeld
    refine wpAnyH_ready (rs := [6]) (by kernel_rfl) (by simp) (AllReadyH.cons rfl (fun K hK => ?_) AllReadyH.nil)
    go_simp
    go_wp2_with fail
    refine hK.out _ _ trivial (fun hHeld => ?_)
    clear hK K hHeld
    refine wpAnyH_ready (rs := [7]) (by kernel_rfl) (by simp) (AllReadyH.cons rfl (fun K hK => ?_) AllReadyH.nil)
    rw [if_pos (by rfl)]
    refine wp_append_lies _ _ _ 65 rfl base 64 i0 _ 2 32 Tryz.underlying65 hi hz0 hz1 hz2 rfl (by decide) (Value.slice va vn vc) vn xs rfl (HOWN.out.alloc (.cells #[.int .u64 c.cp, .slice na nn nc] 64)).drew ⟨W.heap.size, 0, none⟩ 1 1 (gCells (c, .slice na nn nc)) rfl rfl (new_given W c _ _) (gCells_one c na nn nc) (by decide) (by have := HVN.out; unfold maxLen; omega) (by have := HVN.out; omega) (by have := HB.out; simp; omega) (W.alloc (.cells #[.int .u64 c.cp, .slice na nn nc] 64)).heap.size rfl ?_
    intro g cap W2 hrow hgr hat hlt
    have hgr := grown_drew hgr
    have hblk : W2.heap[m]? = W.heap[m]? := (hgr.block m (Nat.lt_of_lt_of_le HM.out (by simp)) (fun e => HNE.out e.symm)).trans (Below.heap_alloc _ _ _ HM.out)
    have y0 : W2.cell? ⟨m, k + 3, none⟩ = some (Value.slice va vn vc) := (World.cell?_of_block (a := ⟨m, k + 3, none⟩) hblk).trans h0
    have y1 : W2.frozen? ⟨m, k + 3, none⟩ = false := (World.frozen?_of_block (a := ⟨m, k + 3, none⟩) hblk).trans hf
    have HROW := hideIt hrow
    have HGR := hideIt hgr
    have HAT := hideIt hat
    clear hrow hgr hat hblk hlt
    refine hK.out _ _ trivial (fun hHeld => ?_)
    clear hK K hHeld
    refine wpAnyH_take (i := 8) (oi := { dst := some 132, op := Op.nilCheck (Operand.tmp 124), type := 0, pos := "ostler.go:480", after := #[{ on := 0, ground := Ground.data }, { on := 0, ground := Ground.phase }, { on := 1, ground := Ground.phase }, { on := 2, ground := Ground.phase }, { on := 3, ground := Ground.phase }, { on := 4, ground := Ground.phase }, { on := 5, ground := Ground.phase }, { on := 6, ground := Ground.phase }, { on := 7, ground := Ground.phase }], guard := none }) (v := ?v28x8) rfl (by kernel_rfl) (by kernel_rfl) (by kernel_rfl) (fun _ _ _ h => h) (Or.inl ⟨by rfl, ?h28x8⟩) trivial ?r28x8
    case h28x8 =>
      intro w' hSw
      (try dsimp only at hSw)
      go_simp
      first | done | with_reducible rfl | rfl | (rw [if_neg (by omega)])
    refine wpAnyH_take (i := 9) (oi := { dst := some 133, op := Op.fieldAddr 67 (Operand.tmp 132) 1, type := 0, pos := "ostler.go:480", after := #[{ on := 8, ground := Ground.data }, { on := 0, ground := Ground.phase }, { on := 1, ground := Ground.phase }, { on := 2, ground := Ground.phase }, { on := 3, ground := Ground.phase }, { on := 4, ground := Ground.phase }, { on := 5, ground := Ground.phase }, { on := 6, ground := Ground.phase }, { on := 7, ground := Ground.phase }], guard := none }) (v := ?v29x9) rfl (by kernel_rfl) (by kernel_rfl) (by kernel_rfl) (fun _ _ _ h => h) (Or.inl ⟨by rfl, ?h29x9⟩) trivial ?r29x9
    case h29x9 =>
      intro w' hSw
      (try dsimp only at hSw)
      go_simp
      first | done | with_reducible rfl | rfl | (rw [if_neg (by omega)])
    refine wpAnyH_ready (rs := [10]) (by kernel_rfl) (by simp) (AllReadyH.cons rfl (fun K hK => ?_) AllReadyH.nil)
    go_simp
    go_wp2_with fail
    refine hK.out _ _ trivial (fun hHeld => ?_)
    clear hK K hHeld
    refine wpAnyH_done (by kernel_rfl) ?_ _
    refine NormalAtV.mk (FrV.mk (by kernel_rfl) ?_)
    exact ⟨g, cap, W2, rfl, HROW.out, HGR.out, HAT.out⟩
  case w2 =>
    go_simp
    go_wp2_with fail
    refine hK.out _ _ trivial (fun hHeld => ?_)
    clear hK K hHeld
    refine wpAnyH_ready (rs := [4, 6]) (by kernel_rfl) (by simp) (AllReadyH.cons rfl (fun K hK => ?w7) (AllReadyH.cons rfl (fun K hK => ?w8) AllReadyH.nil))
    case w7 =>
      go_simp
      go_wp2_with fail
      refine hK.out _ _ trivial (fun hHeld => ?_)
      clear hK K hHeld
      refine wpAnyH_ready (rs := [6]) (by kernel_rfl) (by simp) (AllReadyH.cons rfl (fun K hK => ?_) AllReadyH.nil)
      go_simp
      go_wp2_with fail
      refine hK.out _ _ trivial (fun hHeld => ?_)
      clear hK K hHeld
      refine wpAnyH_ready (rs := [7]) (by kernel_rfl) (by simp) (AllReadyH.cons rfl (fun K hK => ?_) AllReadyH.nil)
      rw [if_pos (by rfl)]
      refine wp_append_lies _ _ _ 65 rfl base 64 i0 _ 2 32 Tryz.underlying65 hi hz0 hz1 hz2 rfl (by decide) (Value.slice va vn vc) vn xs rfl (HOWN.out.alloc (.cells #[.int .u64 c.cp, .slice na nn nc] 64)).drew ⟨W.heap.size, 0, none⟩ 1 1 (gCells (c, .slice na nn nc)) rfl rfl (new_given W c _ _) (gCells_one c na nn nc) (by decide) (by have := HVN.out; unfold maxLen; omega) (by have := HVN.out; omega) (by have := HB.out; simp; omega) (W.alloc (.cells #[.int .u64 c.cp, .slice na nn nc] 64)).heap.size rfl ?_
      intro g cap W2 hrow hgr hat hlt
      have hgr := grown_drew hgr
      have hblk : W2.heap[m]? = W.heap[m]? := (hgr.block m (Nat.lt_of_lt_of_le HM.out (by simp)) (fun e => HNE.out e.symm)).trans (Below.heap_alloc _ _ _ HM.out)
      have y0 : W2.cell? ⟨m, k + 3, none⟩ = some (Value.slice va vn vc) := (World.cell?_of_block (a := ⟨m, k + 3, none⟩) hblk).trans h0
      have y1 : W2.frozen? ⟨m, k + 3, none⟩ = false := (World.frozen?_of_block (a := ⟨m, k + 3, none⟩) hblk).trans hf
      have HROW := hideIt hrow
      have HGR := hideIt hgr
      have HAT := hideIt hat
      clear hrow hgr hat hblk hlt
      refine hK.out _ _ trivial (fun hHeld => ?_)
      clear hK K hHeld
      refine wpAnyH_take (i := 8) (oi := { dst := some 132, op := Op.nilCheck (Operand.tmp 124), type := 0, pos := "ostler.go:480", after := #[{ on := 0, ground := Ground.data }, { on := 0, ground := Ground.phase }, { on := 1, ground := Ground.phase }, { on := 2, ground := Ground.phase }, { on := 3, ground := Ground.phase }, { on := 4, ground := Ground.phase }, { on := 5, ground := Ground.phase }, { on := 6, ground := Ground.phase }, { on := 7, ground := Ground.phase }], guard := none }) (v := ?v30x8) rfl (by kernel_rfl) (by kernel_rfl) (by kernel_rfl) (fun _ _ _ h => h) (Or.inl ⟨by rfl, ?h30x8⟩) trivial ?r30x8
      case h30x8 =>
        intro w' hSw
        (try dsimp only at hSw)
        go_simp
        first | done | with_reducible rfl | rfl | (rw [if_neg (by omega)])
      refine wpAnyH_take (i := 9) (oi := { dst := some 133, op := Op.fieldAddr 67 (Operand.tmp 132) 1, type := 0, pos := "ostler.go:480", after := #[{ on := 8, ground := Ground.data }, { on := 0, ground := Ground.phase }, { on := 1, ground := Ground.phase }, { on := 2, ground := Ground.phase }, { on := 3, ground := Ground.phase }, { on := 4, ground := Ground.phase }, { on := 5, ground := Ground.phase }, { on := 6, ground := Ground.phase }, { on := 7, ground := Ground.phase }], guard := none }) (v := ?v31x9) rfl (by kernel_rfl) (by kernel_rfl) (by kernel_rfl) (fun _ _ _ h => h) (Or.inl ⟨by rfl, ?h31x9⟩) trivial ?r31x9
      case h31x9 =>
        intro w' hSw
        (try dsimp only at hSw)
        go_simp
        first | done | with_reducible rfl | rfl | (rw [if_neg (by omega)])
      refine wpAnyH_ready (rs := [10]) (by kernel_rfl) (by simp) (AllReadyH.cons rfl (fun K hK => ?_) AllReadyH.nil)
      go_simp
      go_wp2_with fail
      refine hK.out _ _ trivial (fun hHeld => ?_)
      clear hK K hHeld
      refine wpAnyH_done (by kernel_rfl) ?_ _
      refine NormalAtV.mk (FrV.mk (by kernel_rfl) ?_)
      exact ⟨g, cap, W2, rfl, HROW.out, HGR.out, HAT.out⟩
    case w8 =>
      go_simp
      go_wp2_with fail
      refine hK.out _ _ trivial (fun hHeld => ?_)
      clear hK K hHeld
      have h0' := cell_allocV h0 (.cells #[.int .u64 c.cp, .slice na nn nc] 64)
      refine wpAnyH_ready (rs := [4]) (by kernel_rfl) (by simp) (AllReadyH.cons rfl (fun K hK => ?_) AllReadyH.nil)
      go_simp
      go_wp2_with fail
      refine hK.out _ _ trivial (fun hHeld => ?_)
      clear hK K hHeld
      refine wpAnyH_ready (rs := [7]) (by kernel_rfl) (by simp) (AllReadyH.cons rfl (fun K hK => ?_) AllReadyH.nil)
      rw [if_pos (by rfl)]
      refine wp_append_lies _ _ _ 65 rfl base 64 i0 _ 2 32 Tryz.underlying65 hi hz0 hz1 hz2 rfl (by decide) (Value.slice va vn vc) vn xs rfl (HOWN.out.alloc (.cells #[.int .u64 c.cp, .slice na nn nc] 64)).drew ⟨W.heap.size, 0, none⟩ 1 1 (gCells (c, .slice na nn nc)) rfl rfl (new_given W c _ _) (gCells_one c na nn nc) (by decide) (by have := HVN.out; unfold maxLen; omega) (by have := HVN.out; omega) (by have := HB.out; simp; omega) (W.alloc (.cells #[.int .u64 c.cp, .slice na nn nc] 64)).heap.size rfl ?_
      intro g cap W2 hrow hgr hat hlt
      have hgr := grown_drew hgr
      have hblk : W2.heap[m]? = W.heap[m]? := (hgr.block m (Nat.lt_of_lt_of_le HM.out (by simp)) (fun e => HNE.out e.symm)).trans (Below.heap_alloc _ _ _ HM.out)
      have y0 : W2.cell? ⟨m, k + 3, none⟩ = some (Value.slice va vn vc) := (World.cell?_of_block (a := ⟨m, k + 3, none⟩) hblk).trans h0
      have y1 : W2.frozen? ⟨m, k + 3, none⟩ = false := (World.frozen?_of_block (a := ⟨m, k + 3, none⟩) hblk).trans hf
      have HROW := hideIt hrow
      have HGR := hideIt hgr
      have HAT := hideIt hat
      clear hrow hgr hat hblk hlt
      refine hK.out _ _ trivial (fun hHeld => ?_)
      clear hK K hHeld
      refine wpAnyH_take (i := 8) (oi := { dst := some 132, op := Op.nilCheck (Operand.tmp 124), type := 0, pos := "ostler.go:480", after := #[{ on := 0, ground := Ground.data }, { on := 0, ground := Ground.phase }, { on := 1, ground := Ground.phase }, { on := 2, ground := Ground.phase }, { on := 3, ground := Ground.phase }, { on := 4, ground := Ground.phase }, { on := 5, ground := Ground.phase }, { on := 6, ground := Ground.phase }, { on := 7, ground := Ground.phase }], guard := none }) (v := ?v32x8) rfl (by kernel_rfl) (by kernel_rfl) (by kernel_rfl) (fun _ _ _ h => h) (Or.inl ⟨by rfl, ?h32x8⟩) trivial ?r32x8
      case h32x8 =>
        intro w' hSw
        (try dsimp only at hSw)
        go_simp
        first | done | with_reducible rfl | rfl | (rw [if_neg (by omega)])
      refine wpAnyH_take (i := 9) (oi := { dst := some 133, op := Op.fieldAddr 67 (Operand.tmp 132) 1, type := 0, pos := "ostler.go:480", after := #[{ on := 8, ground := Ground.data }, { on := 0, ground := Ground.phase }, { on := 1, ground := Ground.phase }, { on := 2, ground := Ground.phase }, { on := 3, ground := Ground.phase }, { on := 4, ground := Ground.phase }, { on := 5, ground := Ground.phase }, { on := 6, ground := Ground.phase }, { on := 7, ground := Ground.phase }], guard := none }) (v := ?v33x9) rfl (by kernel_rfl) (by kernel_rfl) (by kernel_rfl) (fun _ _ _ h => h) (Or.inl ⟨by rfl, ?h33x9⟩) trivial ?r33x9
      case h33x9 =>
        intro w' hSw
        (try dsimp only at hSw)
        go_simp
        first | done | with_reducible rfl | rfl | (rw [if_neg (by omega)])
      refine wpAnyH_ready (rs := [10]) (by kernel_rfl) (by simp) (AllReadyH.cons rfl (fun K hK => ?_) AllReadyH.nil)
      go_simp
      go_wp2_with fail
      refine hK.out _ _ trivial (fun hHeld => ?_)
      clear hK K hHeld
      refine wpAnyH_done (by kernel_rfl) ?_ _
      refine NormalAtV.mk (FrV.mk (by kernel_rfl) ?_)
      exact ⟨g, cap, W2, rfl, HROW.out, HGR.out, HAT.out⟩
end Go.Proofs.YtlljniaobbbjgaaGreatDoor

namespace Go.Proofs.YtlljniaobbbjgaaGreatDoor
open Go.RowKit Go.Shelf
open Qos (Nd Ct Pd nd ct pd)
open Sv (Gv Hd gv hd)
noncomputable def contOfR20 : Code := theRegion 20 ((Tryz.f49.body.map regionsOfR).getD [])
set_option maxRecDepth 100000 in
set_option maxHeartbeats 4000000 in
theorem contOfR20_in {c0 c1 c4 c7 c8 c9 c10 c11 c12 c13 c14 c15 c16 c17 c18 c19 c20 c21 c22 c23 c24 c25 c26 c27 c28 c29 c30 c31 c32 c33 c34 c35 c36 c37 c38 c39 c40 c41 c42 c43 c44 c45 c46 c47 c48 c49 c50 c51 c52 c53 c54 c55 c56 c57 c58 c59 c60 c61 c62 c63 c64 c65 c66 c67 c68 c69 c70 c71 c72 c73 c74 c75 c76 c77 c78 c79 c80 c81 c84 c85 c86 c87 c88 c89 c90 c91 c92 c93 c94 c95 c96 c97 c98 c99 c100 c101 c102 c103 c104 c105 c106 c107 c108 c109 c110 c111 c112 c113 c114 c115 c116 c117 c118 c119 c120 c121 c122 c123 c124 c125 c126 c127 c128 c129 c130 c131 c132 c133 c134 c135 c136 c137 c138 c139 c140 c141 c142 c143 c144 c145 c146 c147 c148 c149 c150 c151 c152 c153 c154 c155 c156 c157 d82 d83 : Value} {B nn nc en ec cp : Nat} {na ea : Option Addr} {x1 : ByteArray} {n2 n3 n4 n5 : Int} (W : World) (h0 : W.heap[B]? = some (.cells #[.string ⟨#[]⟩, .int .i64 0, .int .i64 0, .int .i64 0, .int .i64 0, .slice none 0 0] 56 (0, 0))) (h1 : W.heap[B + 1]? = some (.cells #[.int .u64 0, .slice none 0 0] 64 (0, 0))) (h2 : W.heap[B + 2]? = some (.cells #[.string x1, .int .i64 n2, .int .i64 n3, .int .i64 n4, .int .i64 n5, .slice na nn nc] 56 (0, 0))) (h3 : W.heap[B + 3]? = some (.cells #[.int .u64 (cp : Nat), .slice ea en ec] 64 (0, 0))) :
    Code.wp Tryz.prog contOfR20 (NormalAtV (FrV (fun F => { tmps := List.toArray (c0 :: c1 :: .pointer (some ⟨B, 0, none⟩) :: .pointer (some ⟨B + 1, 0, none⟩) :: .bool false :: .pointer (some ⟨B + 2, 0, none⟩) :: .pointer (some ⟨B + 3, 0, none⟩) :: c7 :: c8 :: c9 :: c10 :: c11 :: c12 :: c13 :: c14 :: c15 :: c16 :: c17 :: c18 :: c19 :: c20 :: c21 :: c22 :: c23 :: c24 :: c25 :: c26 :: c27 :: c28 :: c29 :: c30 :: c31 :: c32 :: c33 :: c34 :: c35 :: c36 :: c37 :: c38 :: c39 :: c40 :: c41 :: c42 :: c43 :: c44 :: c45 :: c46 :: c47 :: c48 :: c49 :: c50 :: c51 :: c52 :: c53 :: c54 :: c55 :: c56 :: c57 :: c58 :: c59 :: c60 :: c61 :: c62 :: c63 :: c64 :: c65 :: c66 :: c67 :: c68 :: c69 :: c70 :: c71 :: c72 :: c73 :: c74 :: c75 :: c76 :: c77 :: c78 :: c79 :: c80 :: c81 :: F 82 :: F 83 :: c84 :: c85 :: c86 :: c87 :: c88 :: c89 :: c90 :: c91 :: c92 :: c93 :: c94 :: c95 :: c96 :: c97 :: c98 :: c99 :: c100 :: c101 :: c102 :: c103 :: c104 :: c105 :: c106 :: c107 :: c108 :: c109 :: c110 :: c111 :: c112 :: c113 :: c114 :: c115 :: c116 :: c117 :: c118 :: c119 :: c120 :: c121 :: c122 :: c123 :: c124 :: c125 :: c126 :: c127 :: c128 :: c129 :: c130 :: c131 :: c132 :: c133 :: c134 :: c135 :: c136 :: c137 :: c138 :: c139 :: c140 :: c141 :: c142 :: c143 :: c144 :: c145 :: c146 :: c147 :: c148 :: c149 :: c150 :: c151 :: c152 :: c153 :: c154 :: c155 :: c156 :: c157 :: []), defers := [] }) (fun _ W' => W'.heap[B]? = some (.cells #[.string x1, .int .i64 n2, .int .i64 n3, .int .i64 n4, .int .i64 n5, .slice na nn nc] 56 (0, 0)) ∧ W'.heap[B + 1]? = some (.cells #[.int .u64 (cp : Nat), .slice ea en ec] 64 (0, 0)) ∧ Apart (fun j => j = B ∨ j = B + 1) W W')))
      { tmps := List.toArray (c0 :: c1 :: .pointer (some ⟨B, 0, none⟩) :: .pointer (some ⟨B + 1, 0, none⟩) :: c4 :: .pointer (some ⟨B + 2, 0, none⟩) :: .pointer (some ⟨B + 3, 0, none⟩) :: c7 :: c8 :: c9 :: c10 :: c11 :: c12 :: c13 :: c14 :: c15 :: c16 :: c17 :: c18 :: c19 :: c20 :: c21 :: c22 :: c23 :: c24 :: c25 :: c26 :: c27 :: c28 :: c29 :: c30 :: c31 :: c32 :: c33 :: c34 :: c35 :: c36 :: c37 :: c38 :: c39 :: c40 :: c41 :: c42 :: c43 :: c44 :: c45 :: c46 :: c47 :: c48 :: c49 :: c50 :: c51 :: c52 :: c53 :: c54 :: c55 :: c56 :: c57 :: c58 :: c59 :: c60 :: c61 :: c62 :: c63 :: c64 :: c65 :: c66 :: c67 :: c68 :: c69 :: c70 :: c71 :: c72 :: c73 :: c74 :: c75 :: c76 :: c77 :: c78 :: c79 :: c80 :: c81 :: d82 :: d83 :: c84 :: c85 :: c86 :: c87 :: c88 :: c89 :: c90 :: c91 :: c92 :: c93 :: c94 :: c95 :: c96 :: c97 :: c98 :: c99 :: c100 :: c101 :: c102 :: c103 :: c104 :: c105 :: c106 :: c107 :: c108 :: c109 :: c110 :: c111 :: c112 :: c113 :: c114 :: c115 :: c116 :: c117 :: c118 :: c119 :: c120 :: c121 :: c122 :: c123 :: c124 :: c125 :: c126 :: c127 :: c128 :: c129 :: c130 :: c131 :: c132 :: c133 :: c134 :: c135 :: c136 :: c137 :: c138 :: c139 :: c140 :: c141 :: c142 :: c143 :: c144 :: c145 :: c146 :: c147 :: c148 :: c149 :: c150 :: c151 :: c152 :: c153 :: c154 :: c155 :: c156 :: c157 :: []), defers := [] } W := by
  have HCC := hideIt (show W.drew.heap[B]? = some (.cells #[.string ⟨#[]⟩, .int .i64 0, .int .i64 0, .int .i64 0, .int .i64 0, .slice none 0 0] 56 (0, 0)) from h0)
  have HGG := hideIt (show W.drew.heap[B + 1]? = some (.cells #[.int .u64 0, .slice none 0 0] 64 (0, 0)) from h1)
  have HS := hideIt (show W.drew.heap[B + 2]? = some (.cells #[.string x1, .int .i64 n2, .int .i64 n3, .int .i64 n4, .int .i64 n5, .slice na nn nc] 56 (0, 0)) ∧ W.drew.heap[B + 3]? = some (.cells #[.int .u64 (cp : Nat), .slice ea en ec] 64 (0, 0)) from ⟨h2, h3⟩)
  clear h0 h1 h2 h3
  conv => enter [2]; unfold contOfR20; whnf
  refine wp_region_held_drew (S := (fun w' => w'.heap[B + 2]? = some (.cells #[.string x1, .int .i64 n2, .int .i64 n3, .int .i64 n4, .int .i64 n5, .slice na nn nc] 56 (0, 0)) ∧ w'.heap[B + 3]? = some (.cells #[.int .u64 (cp : Nat), .slice ea en ec] 64 (0, 0)))) (by kernel_rfl) HS.out (fun hHeld => ?_)
  refine wpAnyH_take (i := 0) (oi := { dst := some 82, op := Op.load 56 (Operand.tmp 5), type := 56, pos := "ostler.go:511", after := #[], guard := none }) (v := ?v1x0) rfl (by kernel_rfl) (by kernel_rfl) (by kernel_rfl) (fun _ _ _ h => h) (Or.inl ⟨by rfl, ?h1x0⟩) (by assumption) ?r1x0
  case h1x0 =>
    intro w' hSw
    (try dsimp only at hSw)
    have q0 := cell_of_heapV hSw.1 0
    have q1 := cell_of_heapV hSw.1 1
    have q2 := cell_of_heapV hSw.1 2
    have q3 := cell_of_heapV hSw.1 3
    have q4 := cell_of_heapV hSw.1 4
    have q5 := cell_of_heapV hSw.1 5
    simp only [List.getElem?_toArray, List.getElem?_cons_zero, List.getElem?_cons_succ] at q0 q1 q2 q3 q4 q5
    go_simp
    first | done | with_reducible rfl | rfl | (rw [if_neg (by omega)])
  (try simp only [Act.put, List.setIfInBounds_toArray, List.set_cons_zero, List.set_cons_succ])
  refine wpAnyH_take (i := 1) (oi := { dst := some 83, op := Op.load 64 (Operand.tmp 6), type := 64, pos := "ostler.go:511", after := #[{ on := 2, ground := Ground.gcOnly Departure.lateStores }], guard := none }) (v := ?v2x1) rfl (by kernel_rfl) (by kernel_rfl) (by kernel_rfl) (fun _ _ _ h => h) (Or.inl ⟨by rfl, ?h2x1⟩) (by assumption) ?r2x1
  case h2x1 =>
    intro w' hSw
    (try dsimp only at hSw)
    have q0 := cell_of_heapV hSw.2 0
    have q1 := cell_of_heapV hSw.2 1
    simp only [List.getElem?_toArray, List.getElem?_cons_zero, List.getElem?_cons_succ] at q0 q1
    go_simp
    first | done | with_reducible rfl | rfl | (rw [if_neg (by omega)])
  (try simp only [Act.put, List.setIfInBounds_toArray, List.set_cons_zero, List.set_cons_succ])
  have HS6 := hideIt (show (put6 W.drew B (.string x1) (.int .i64 n2) (.int .i64 n3) (.int .i64 n4) (.int .i64 n5) (.slice na nn nc)).heap[B + 2]? = some (.cells #[.string x1, .int .i64 n2, .int .i64 n3, .int .i64 n4, .int .i64 n5, .slice na nn nc] 56 (0, 0)) ∧ (put6 W.drew B (.string x1) (.int .i64 n2) (.int .i64 n3) (.int .i64 n4) (.int .i64 n5) (.slice na nn nc)).heap[B + 3]? = some (.cells #[.int .u64 (cp : Nat), .slice ea en ec] 64 (0, 0)) from ⟨(put6_other (by omega)).trans HS.out.1, (put6_other (by omega)).trans HS.out.2⟩)
  have HG6 := hideIt (show (put6 W.drew B (.string x1) (.int .i64 n2) (.int .i64 n3) (.int .i64 n4) (.int .i64 n5) (.slice na nn nc)).heap[B + 1]? = some (.cells #[.int .u64 0, .slice none 0 0] 64 (0, 0)) from (put6_other (by omega)).trans HGG.out)
  have HC6 := hideIt (show (put6 W.drew B (.string x1) (.int .i64 n2) (.int .i64 n3) (.int .i64 n4) (.int .i64 n5) (.slice na nn nc)).heap[B]? = some (.cells #[.string x1, .int .i64 n2, .int .i64 n3, .int .i64 n4, .int .i64 n5, .slice na nn nc] 56 (0, 0)) from put6_same HCC.out)
  have HAP6 := hideIt (show Apart (fun j => j = B) W.drew (put6 W.drew B (.string x1) (.int .i64 n2) (.int .i64 n3) (.int .i64 n4) (.int .i64 n5) (.slice na nn nc)) from put6_apart)
  refine wpAnyH_ready (rs := [2]) (by kernel_rfl) (by simp) (AllReadyH.cons rfl (fun K hK => ?_) AllReadyH.nil)
  rw [if_pos (by rfl)]
  refine wp_storeC HCC.out rfl rfl ?_
  refine hK.out _ _ HS6.out (fun hHeld => ?_)
  clear hK K
  generalize (put6 W.drew B (.string x1) (.int .i64 n2) (.int .i64 n3) (.int .i64 n4) (.int .i64 n5) (.slice na nn nc)) = P6 at *
  have HS8 := hideIt (show (put2 P6 (B + 1) (.int .u64 cp) (.slice ea en ec)).heap[B + 2]? = some (.cells #[.string x1, .int .i64 n2, .int .i64 n3, .int .i64 n4, .int .i64 n5, .slice na nn nc] 56 (0, 0)) ∧ (put2 P6 (B + 1) (.int .u64 cp) (.slice ea en ec)).heap[B + 3]? = some (.cells #[.int .u64 (cp : Nat), .slice ea en ec] 64 (0, 0)) from ⟨(put2_other (by omega)).trans HS6.out.1, (put2_other (by omega)).trans HS6.out.2⟩)
  have HG8 := hideIt (show (put2 P6 (B + 1) (.int .u64 cp) (.slice ea en ec)).heap[B + 1]? = some (.cells #[.int .u64 (cp : Nat), .slice ea en ec] 64 (0, 0)) from put2_same HG6.out)
  have HC8 := hideIt (show (put2 P6 (B + 1) (.int .u64 cp) (.slice ea en ec)).heap[B]? = some (.cells #[.string x1, .int .i64 n2, .int .i64 n3, .int .i64 n4, .int .i64 n5, .slice na nn nc] 56 (0, 0)) from (put2_other (by omega)).trans HC6.out)
  have HAP8 := hideIt (show Apart (fun j => j = B ∨ j = B + 1) W (put2 P6 (B + 1) (.int .u64 cp) (.slice ea en ec)) from (Apart.drew _ W).trans ((HAP6.out.wide fun _ => .inl).trans put2_apart))
  refine wpAnyH_ready (rs := [3]) (by kernel_rfl) (by simp) (AllReadyH.cons rfl (fun K hK => ?_) AllReadyH.nil)
  rw [if_pos (by rfl)]
  refine wp_storeG HG6.out rfl rfl ?_
  refine hK.out _ _ HS8.out (fun hHeld => ?_)
  clear hK K
  generalize (put2 P6 (B + 1) (.int .u64 cp) (.slice ea en ec)) = P8 at *
  refine wpAnyH_take (i := 4) (oi := { dst := some 4, op := Op.assign (Operand.const (Value.bool false)), type := 4, pos := "ostler.go:511", after := #[{ on := 3, ground := Ground.chain }, { on := 0, ground := Ground.phase }, { on := 1, ground := Ground.phase }, { on := 2, ground := Ground.phase }, { on := 3, ground := Ground.phase }], guard := none }) (v := ?v3x4) rfl (by kernel_rfl) (by kernel_rfl) (by kernel_rfl) (fun _ _ _ h => h) (Or.inl ⟨by rfl, ?h3x4⟩) (by assumption) ?r3x4
  case h3x4 =>
    intro w' hSw
    (try dsimp only at hSw)
    go_simp
    first | done | with_reducible rfl | rfl | (rw [if_neg (by omega)])
  (try simp only [Act.put, List.setIfInBounds_toArray, List.set_cons_zero, List.set_cons_succ])
  refine wpAnyH_done (by kernel_rfl) ?_ _
  exact NormalAtV.mk (FrV.mk (by kernel_rfl) ⟨HC8.out, HG8.out, HAP8.out⟩)
noncomputable def contOfR36 : Code := theRegion 36 ((Tryz.f49.body.map regionsOfR).getD [])
set_option maxRecDepth 100000 in
set_option maxHeartbeats 4000000 in
theorem contOfR36_in {c0 c1 c4 c7 c9 c10 c11 c12 c13 c14 c15 c16 c17 c18 c19 c20 c21 c22 c23 c24 c25 c26 c27 c28 c29 c30 c31 c32 c33 c34 c35 c36 c37 c38 c39 c40 c41 c42 c43 c44 c45 c46 c47 c48 c49 c50 c51 c52 c53 c54 c55 c56 c57 c58 c59 c60 c61 c62 c63 c64 c65 c66 c67 c68 c69 c70 c71 c72 c73 c74 c75 c76 c77 c78 c79 c80 c81 c82 c83 c84 c85 c86 c87 c88 c89 c90 c91 c92 c93 c94 c95 c96 c97 c98 c99 c100 c101 c102 c103 c104 c105 c106 c107 c108 c109 c110 c111 c112 c113 c114 c115 c116 c117 c118 c119 c120 c121 c122 c123 c124 c125 c126 c127 c128 c129 c130 c131 c132 c133 c134 c135 c136 c137 c138 c139 c140 c141 c142 c143 c144 c145 c146 c147 c148 c149 c150 c151 c152 c153 c154 d155 d156 d157 : Value} {B nn nc en ec cp : Nat} {na ea : Option Addr} {x1 : ByteArray} {n2 n3 n4 n5 : Int} {ok : Bool} (W : World) (h0 : W.heap[B]? = some (.cells #[.string ⟨#[]⟩, .int .i64 0, .int .i64 0, .int .i64 0, .int .i64 0, .slice none 0 0] 56 (0, 0))) (h1 : W.heap[B + 1]? = some (.cells #[.int .u64 0, .slice none 0 0] 64 (0, 0))) (h2 : W.heap[B + 2]? = some (.cells #[.string x1, .int .i64 n2, .int .i64 n3, .int .i64 n4, .int .i64 n5, .slice na nn nc] 56 (0, 0))) (h3 : W.heap[B + 3]? = some (.cells #[.int .u64 (cp : Nat), .slice ea en ec] 64 (0, 0))) :
    Code.wp Tryz.prog contOfR36 (NormalAtV (FrV (fun F => { tmps := List.toArray (c0 :: c1 :: .pointer (some ⟨B, 0, none⟩) :: .pointer (some ⟨B + 1, 0, none⟩) :: .bool ok :: .pointer (some ⟨B + 2, 0, none⟩) :: .pointer (some ⟨B + 3, 0, none⟩) :: c7 :: .bool ok :: c9 :: c10 :: c11 :: c12 :: c13 :: c14 :: c15 :: c16 :: c17 :: c18 :: c19 :: c20 :: c21 :: c22 :: c23 :: c24 :: c25 :: c26 :: c27 :: c28 :: c29 :: c30 :: c31 :: c32 :: c33 :: c34 :: c35 :: c36 :: c37 :: c38 :: c39 :: c40 :: c41 :: c42 :: c43 :: c44 :: c45 :: c46 :: c47 :: c48 :: c49 :: c50 :: c51 :: c52 :: c53 :: c54 :: c55 :: c56 :: c57 :: c58 :: c59 :: c60 :: c61 :: c62 :: c63 :: c64 :: c65 :: c66 :: c67 :: c68 :: c69 :: c70 :: c71 :: c72 :: c73 :: c74 :: c75 :: c76 :: c77 :: c78 :: c79 :: c80 :: c81 :: c82 :: c83 :: c84 :: c85 :: c86 :: c87 :: c88 :: c89 :: c90 :: c91 :: c92 :: c93 :: c94 :: c95 :: c96 :: c97 :: c98 :: c99 :: c100 :: c101 :: c102 :: c103 :: c104 :: c105 :: c106 :: c107 :: c108 :: c109 :: c110 :: c111 :: c112 :: c113 :: c114 :: c115 :: c116 :: c117 :: c118 :: c119 :: c120 :: c121 :: c122 :: c123 :: c124 :: c125 :: c126 :: c127 :: c128 :: c129 :: c130 :: c131 :: c132 :: c133 :: c134 :: c135 :: c136 :: c137 :: c138 :: c139 :: c140 :: c141 :: c142 :: c143 :: c144 :: c145 :: c146 :: c147 :: c148 :: c149 :: c150 :: c151 :: c152 :: c153 :: c154 :: F 155 :: F 156 :: F 157 :: []), defers := [] }) (fun _ W' => W'.heap[B]? = some (.cells #[.string x1, .int .i64 n2, .int .i64 n3, .int .i64 n4, .int .i64 n5, .slice na nn nc] 56 (0, 0)) ∧ W'.heap[B + 1]? = some (.cells #[.int .u64 (cp : Nat), .slice ea en ec] 64 (0, 0)) ∧ Apart (fun j => j = B ∨ j = B + 1) W W')))
      { tmps := List.toArray (c0 :: c1 :: .pointer (some ⟨B, 0, none⟩) :: .pointer (some ⟨B + 1, 0, none⟩) :: c4 :: .pointer (some ⟨B + 2, 0, none⟩) :: .pointer (some ⟨B + 3, 0, none⟩) :: c7 :: .bool ok :: c9 :: c10 :: c11 :: c12 :: c13 :: c14 :: c15 :: c16 :: c17 :: c18 :: c19 :: c20 :: c21 :: c22 :: c23 :: c24 :: c25 :: c26 :: c27 :: c28 :: c29 :: c30 :: c31 :: c32 :: c33 :: c34 :: c35 :: c36 :: c37 :: c38 :: c39 :: c40 :: c41 :: c42 :: c43 :: c44 :: c45 :: c46 :: c47 :: c48 :: c49 :: c50 :: c51 :: c52 :: c53 :: c54 :: c55 :: c56 :: c57 :: c58 :: c59 :: c60 :: c61 :: c62 :: c63 :: c64 :: c65 :: c66 :: c67 :: c68 :: c69 :: c70 :: c71 :: c72 :: c73 :: c74 :: c75 :: c76 :: c77 :: c78 :: c79 :: c80 :: c81 :: c82 :: c83 :: c84 :: c85 :: c86 :: c87 :: c88 :: c89 :: c90 :: c91 :: c92 :: c93 :: c94 :: c95 :: c96 :: c97 :: c98 :: c99 :: c100 :: c101 :: c102 :: c103 :: c104 :: c105 :: c106 :: c107 :: c108 :: c109 :: c110 :: c111 :: c112 :: c113 :: c114 :: c115 :: c116 :: c117 :: c118 :: c119 :: c120 :: c121 :: c122 :: c123 :: c124 :: c125 :: c126 :: c127 :: c128 :: c129 :: c130 :: c131 :: c132 :: c133 :: c134 :: c135 :: c136 :: c137 :: c138 :: c139 :: c140 :: c141 :: c142 :: c143 :: c144 :: c145 :: c146 :: c147 :: c148 :: c149 :: c150 :: c151 :: c152 :: c153 :: c154 :: d155 :: d156 :: d157 :: []), defers := [] } W := by
  have HCC := hideIt (show W.drew.heap[B]? = some (.cells #[.string ⟨#[]⟩, .int .i64 0, .int .i64 0, .int .i64 0, .int .i64 0, .slice none 0 0] 56 (0, 0)) from h0)
  have HGG := hideIt (show W.drew.heap[B + 1]? = some (.cells #[.int .u64 0, .slice none 0 0] 64 (0, 0)) from h1)
  have HS := hideIt (show W.drew.heap[B + 2]? = some (.cells #[.string x1, .int .i64 n2, .int .i64 n3, .int .i64 n4, .int .i64 n5, .slice na nn nc] 56 (0, 0)) ∧ W.drew.heap[B + 3]? = some (.cells #[.int .u64 (cp : Nat), .slice ea en ec] 64 (0, 0)) from ⟨h2, h3⟩)
  clear h0 h1 h2 h3
  conv => enter [2]; unfold contOfR36; whnf
  refine wp_region_held_drew (S := (fun w' => w'.heap[B + 2]? = some (.cells #[.string x1, .int .i64 n2, .int .i64 n3, .int .i64 n4, .int .i64 n5, .slice na nn nc] 56 (0, 0)) ∧ w'.heap[B + 3]? = some (.cells #[.int .u64 (cp : Nat), .slice ea en ec] 64 (0, 0)))) (by kernel_rfl) HS.out (fun hHeld => ?_)
  refine wpAnyH_take (i := 0) (oi := { dst := some 155, op := Op.load 56 (Operand.tmp 5), type := 56, pos := "ostler.go:531", after := #[], guard := none }) (v := ?v4x0) rfl (by kernel_rfl) (by kernel_rfl) (by kernel_rfl) (fun _ _ _ h => h) (Or.inl ⟨by rfl, ?h4x0⟩) (by assumption) ?r4x0
  case h4x0 =>
    intro w' hSw
    (try dsimp only at hSw)
    have q0 := cell_of_heapV hSw.1 0
    have q1 := cell_of_heapV hSw.1 1
    have q2 := cell_of_heapV hSw.1 2
    have q3 := cell_of_heapV hSw.1 3
    have q4 := cell_of_heapV hSw.1 4
    have q5 := cell_of_heapV hSw.1 5
    simp only [List.getElem?_toArray, List.getElem?_cons_zero, List.getElem?_cons_succ] at q0 q1 q2 q3 q4 q5
    go_simp
    first | done | with_reducible rfl | rfl | (rw [if_neg (by omega)])
  (try simp only [Act.put, List.setIfInBounds_toArray, List.set_cons_zero, List.set_cons_succ])
  refine wpAnyH_take (i := 1) (oi := { dst := some 156, op := Op.load 64 (Operand.tmp 6), type := 64, pos := "ostler.go:531", after := #[{ on := 3, ground := Ground.gcOnly Departure.lateStores }], guard := none }) (v := ?v5x1) rfl (by kernel_rfl) (by kernel_rfl) (by kernel_rfl) (fun _ _ _ h => h) (Or.inl ⟨by rfl, ?h5x1⟩) (by assumption) ?r5x1
  case h5x1 =>
    intro w' hSw
    (try dsimp only at hSw)
    have q0 := cell_of_heapV hSw.2 0
    have q1 := cell_of_heapV hSw.2 1
    simp only [List.getElem?_toArray, List.getElem?_cons_zero, List.getElem?_cons_succ] at q0 q1
    go_simp
    first | done | with_reducible rfl | rfl | (rw [if_neg (by omega)])
  (try simp only [Act.put, List.setIfInBounds_toArray, List.set_cons_zero, List.set_cons_succ])
  refine wpAnyH_take (i := 2) (oi := { dst := some 157, op := Op.move (Operand.tmp 8), type := 4, pos := "ostler.go:531", after := #[{ on := 4, ground := Ground.gcOnly Departure.lateStores }], guard := none }) (v := ?v6x2) rfl (by kernel_rfl) (by kernel_rfl) (by kernel_rfl) (fun _ _ _ h => h) (Or.inl ⟨by rfl, ?h6x2⟩) (by assumption) ?r6x2
  case h6x2 =>
    intro w' hSw
    (try dsimp only at hSw)
    go_simp
    first | done | with_reducible rfl | rfl | (rw [if_neg (by omega)])
  (try simp only [Act.put, List.setIfInBounds_toArray, List.set_cons_zero, List.set_cons_succ])
  have HS6 := hideIt (show (put6 W.drew B (.string x1) (.int .i64 n2) (.int .i64 n3) (.int .i64 n4) (.int .i64 n5) (.slice na nn nc)).heap[B + 2]? = some (.cells #[.string x1, .int .i64 n2, .int .i64 n3, .int .i64 n4, .int .i64 n5, .slice na nn nc] 56 (0, 0)) ∧ (put6 W.drew B (.string x1) (.int .i64 n2) (.int .i64 n3) (.int .i64 n4) (.int .i64 n5) (.slice na nn nc)).heap[B + 3]? = some (.cells #[.int .u64 (cp : Nat), .slice ea en ec] 64 (0, 0)) from ⟨(put6_other (by omega)).trans HS.out.1, (put6_other (by omega)).trans HS.out.2⟩)
  have HG6 := hideIt (show (put6 W.drew B (.string x1) (.int .i64 n2) (.int .i64 n3) (.int .i64 n4) (.int .i64 n5) (.slice na nn nc)).heap[B + 1]? = some (.cells #[.int .u64 0, .slice none 0 0] 64 (0, 0)) from (put6_other (by omega)).trans HGG.out)
  have HC6 := hideIt (show (put6 W.drew B (.string x1) (.int .i64 n2) (.int .i64 n3) (.int .i64 n4) (.int .i64 n5) (.slice na nn nc)).heap[B]? = some (.cells #[.string x1, .int .i64 n2, .int .i64 n3, .int .i64 n4, .int .i64 n5, .slice na nn nc] 56 (0, 0)) from put6_same HCC.out)
  have HAP6 := hideIt (show Apart (fun j => j = B) W.drew (put6 W.drew B (.string x1) (.int .i64 n2) (.int .i64 n3) (.int .i64 n4) (.int .i64 n5) (.slice na nn nc)) from put6_apart)
  refine wpAnyH_ready (rs := [3]) (by kernel_rfl) (by simp) (AllReadyH.cons rfl (fun K hK => ?_) AllReadyH.nil)
  rw [if_pos (by rfl)]
  refine wp_storeC HCC.out rfl rfl ?_
  refine hK.out _ _ HS6.out (fun hHeld => ?_)
  clear hK K
  generalize (put6 W.drew B (.string x1) (.int .i64 n2) (.int .i64 n3) (.int .i64 n4) (.int .i64 n5) (.slice na nn nc)) = P6 at *
  have HS8 := hideIt (show (put2 P6 (B + 1) (.int .u64 cp) (.slice ea en ec)).heap[B + 2]? = some (.cells #[.string x1, .int .i64 n2, .int .i64 n3, .int .i64 n4, .int .i64 n5, .slice na nn nc] 56 (0, 0)) ∧ (put2 P6 (B + 1) (.int .u64 cp) (.slice ea en ec)).heap[B + 3]? = some (.cells #[.int .u64 (cp : Nat), .slice ea en ec] 64 (0, 0)) from ⟨(put2_other (by omega)).trans HS6.out.1, (put2_other (by omega)).trans HS6.out.2⟩)
  have HG8 := hideIt (show (put2 P6 (B + 1) (.int .u64 cp) (.slice ea en ec)).heap[B + 1]? = some (.cells #[.int .u64 (cp : Nat), .slice ea en ec] 64 (0, 0)) from put2_same HG6.out)
  have HC8 := hideIt (show (put2 P6 (B + 1) (.int .u64 cp) (.slice ea en ec)).heap[B]? = some (.cells #[.string x1, .int .i64 n2, .int .i64 n3, .int .i64 n4, .int .i64 n5, .slice na nn nc] 56 (0, 0)) from (put2_other (by omega)).trans HC6.out)
  have HAP8 := hideIt (show Apart (fun j => j = B ∨ j = B + 1) W (put2 P6 (B + 1) (.int .u64 cp) (.slice ea en ec)) from (Apart.drew _ W).trans ((HAP6.out.wide fun _ => .inl).trans put2_apart))
  refine wpAnyH_ready (rs := [4]) (by kernel_rfl) (by simp) (AllReadyH.cons rfl (fun K hK => ?_) AllReadyH.nil)
  rw [if_pos (by rfl)]
  refine wp_storeG HG6.out rfl rfl ?_
  refine hK.out _ _ HS8.out (fun hHeld => ?_)
  clear hK K
  generalize (put2 P6 (B + 1) (.int .u64 cp) (.slice ea en ec)) = P8 at *
  refine wpAnyH_take (i := 5) (oi := { dst := some 4, op := Op.assign (Operand.tmp 157), type := 4, pos := "ostler.go:531", after := #[{ on := 2, ground := Ground.data }, { on := 4, ground := Ground.chain }, { on := 0, ground := Ground.phase }, { on := 1, ground := Ground.phase }, { on := 2, ground := Ground.phase }, { on := 3, ground := Ground.phase }, { on := 4, ground := Ground.phase }], guard := none }) (v := ?v7x5) rfl (by kernel_rfl) (by kernel_rfl) (by kernel_rfl) (fun _ _ _ h => h) (Or.inl ⟨by rfl, ?h7x5⟩) (by assumption) ?r7x5
  case h7x5 =>
    intro w' hSw
    (try dsimp only at hSw)
    go_simp
    first | done | with_reducible rfl | rfl | (rw [if_neg (by omega)])
  (try simp only [Act.put, List.setIfInBounds_toArray, List.set_cons_zero, List.set_cons_succ])
  refine wpAnyH_done (by kernel_rfl) ?_ _
  exact NormalAtV.mk (FrV.mk (by kernel_rfl) ⟨HC8.out, HG8.out, HAP8.out⟩)
end Go.Proofs.YtlljniaobbbjgaaGreatDoor

