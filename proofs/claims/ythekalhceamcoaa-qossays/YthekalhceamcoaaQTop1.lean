/- What 'TopClass' answers: true. -/
import Derived.Test.YthekalhceamcoaaQW6
import Derived.Test.YthekalhceamcoaaDLight
namespace Go.Proofs.Ythekalhceamcoaa
open Go.RowKit
open Qos (Nd Ct Pd nd0 ct0 pd0 nd ct pd silent certain classOf quiet sure sumM sumB Mild ownOf podF sumTo)
theorem NeedsAt.rows {w : World} {v : Value} {ds : List Nd} (h : NeedsAt w v ds) : RowsOf w v 2 pairP := by
  obtain ⟨ao, c, hv, hm, hr⟩ := h
  refine ⟨ao, _, c, hv, hm, fun h0 => ?_⟩
  obtain ⟨b, o, ha, hlt, hc⟩ := hr h0
  refine ⟨b, o, ha, hlt, fun k hk => ⟨[.string (nd ds k).kind, .int .i64 (nd ds k).many], rfl, fun j hj => ?_, ⟨_, _, rfl⟩⟩⟩
  match j, hj with
  | 0, _ => exact (hc k hk).1
  | 1, _ => exact (hc k hk).2
theorem ConsAt.rows {w : World} {v : Value} {cs : List Ct} (h : ConsAt w v cs) : RowsOf w v 6 (contP w) := by
  obtain ⟨ao, c, hv, hm, hr⟩ := h
  refine ⟨ao, _, c, hv, Nat.le_trans hm.1 hm.2, fun h0 => ?_⟩
  obtain ⟨b, o, dv, ha, hc⟩ := hr h0
  exact ⟨b, o, ha, hc.1, fun k hk => ⟨contCells (ct cs k) (dv k), rfl, (hc.2 k hk).1, ⟨_, _, _, _, _, _, rfl, (hc.2 k hk).2.rows⟩⟩⟩
theorem light_of {p : Pd} {cv : Value} {w : World} (h : ConsAt w cv p.cs) : Calls Try.prog 68 #[podV p cv] w fun e w' => Ans e ∧ Below w.heap.size w w' := lightPod_any p.nm p.pr cv w h.rows
def oneX : Pd := ⟨⟨#[97]⟩, 0, [⟨⟨#[120]⟩, 0, 0, 0, 0, []⟩]⟩
theorem oneX_class : classOf oneX.cs = 1 := by decide
theorem oneX_fault : podF oneX = 0 := by decide
theorem oneX_at (w : World) : ConsAt (w.alloc (.cells #[.string ⟨#[120]⟩, .int .i64 0, .int .i64 0, .int .i64 0, .int .i64 0, .slice none 0 0] 94)) (.slice (some ⟨w.heap.size, 0, none⟩) 1 1) oneX.cs := by
  refine ⟨_, 1, rfl, ⟨by decide, by decide⟩, fun _ => ⟨w.heap.size, 0, fun _ => .slice none 0 0, rfl, by simp, fun k hk => ?_⟩⟩
  have : k = 0 := by simp [oneX] at hk; omega
  subst this
  refine ⟨fun j hj => ?_, ⟨none, 0, rfl, by decide, fun h => by simp [oneX, ct] at h⟩⟩
  match j, hj with
  | 0, _ => simp [contCells, oneX, ct]
  | 1, _ => simp [contCells, oneX, ct]
  | 2, _ => simp [contCells, oneX, ct]
  | 3, _ => simp [contCells, oneX, ct]
  | 4, _ => simp [contCells, oneX, ct]
  | 5, _ => simp [contCells, oneX, ct]
theorem errV_nil : errV ((0 : Nat) : Int) = .nilIface := rfl
set_option maxRecDepth 100000 in
set_option maxHeartbeats 4000000 in
theorem topClass_any (p : Pd) (cv : Value) (w : World) (h : ConsAt w cv p.cs) : Calls Try.prog 9 #[podV p cv] w fun e w' => e = .returned (.bool true) ∧ Below w.heap.size w w' := by
  have hs := h.slice
  unfold podV
  have HB0 := hideIt ((Below.refl w.heap.size w).alloc (Nat.le_refl _) (.cells #[.string p.nm, .int .i64 p.pr, cv] 60))
  have HP := hideIt (PBoxAt.made w p cv)
  have HC := hideIt h
  clear h
  obtain ⟨pa, pn, pc, rfl⟩ := hs
  have hO := (oneX_at (w.alloc (.cells #[.string p.nm, .int .i64 p.pr, .slice pa pn pc] 60)))
  rw [show (w.alloc (.cells #[.string p.nm, .int .i64 p.pr, .slice pa pn pc] 60)).heap.size = w.heap.size + 1 by simp] at hO
  have hb1 := (Below.refl _ ((w.alloc (.cells #[.string p.nm, .int .i64 p.pr, .slice pa pn pc] 60)).alloc (.cells #[.string ⟨#[120]⟩, .int .i64 0, .int .i64 0, .int .i64 0, .int .i64 0, .slice none 0 0] 94))).alloc (Nat.le_refl _) (.cells #[.string ⟨#[97]⟩, .int .i64 0, .slice (some ⟨w.heap.size + 1, 0, none⟩) 1 1] 60)
  have HO1 := hideIt (hO.below hb1)
  have HP1 := hideIt ((HP.out.alloc (.cells #[.string ⟨#[120]⟩, .int .i64 0, .int .i64 0, .int .i64 0, .int .i64 0, .slice none 0 0] 94)).below hb1)
  have HB1 := hideIt ((HB0.out.alloc (by simp) (.cells #[.string ⟨#[120]⟩, .int .i64 0, .int .i64 0, .int .i64 0, .int .i64 0, .slice none 0 0] 94)).alloc (by simp; omega) (.cells #[.string ⟨#[97]⟩, .int .i64 0, .slice (some ⟨w.heap.size + 1, 0, none⟩) 1 1] 60))
  have HQ1 := PBoxAt.made ((w.alloc (.cells #[.string p.nm, .int .i64 p.pr, .slice pa pn pc] 60)).alloc (.cells #[.string ⟨#[120]⟩, .int .i64 0, .int .i64 0, .int .i64 0, .int .i64 0, .slice none 0 0] 94)) oneX (.slice (some ⟨w.heap.size + 1, 0, none⟩) 1 1)
  rw [show ((w.alloc (.cells #[.string p.nm, .int .i64 p.pr, .slice pa pn pc] 60)).alloc (.cells #[.string ⟨#[120]⟩, .int .i64 0, .int .i64 0, .int .i64 0, .int .i64 0, .slice none 0 0] 94)).heap.size = w.heap.size + 1 + 1 by simp] at HQ1
  have HQ1 := hideIt HQ1
  clear hO hb1 HP HB0
  go_enter Try.func9, Try.ntmps9
  go_wp2_with fail
  refine (class_any oneX _ _ HO1.out).mono ?_
  rintro e w2 ⟨rfl, hb2⟩
  have HO2 := hideIt (HO1.out.below hb2)
  have HP2 := hideIt (HP1.out.below hb2)
  have HQ2 := hideIt (HQ1.out.below hb2)
  have HB2 := hideIt (HB1.out.trans (hb2.mono HB1.out.size))
  clear hb2 HO1 HP1 HQ1 HB1
  rw [oneX_class]
  obtain ⟨q0, q1, q2, q3⟩ := HQ2.out
  go_wp2_with fail
  refine (check_any oneX _ _ HO2.out).mono ?_
  rintro e w3 ⟨rfl, hb3⟩
  have HP3 := hideIt (HP2.out.below hb3)
  have HB3 := hideIt (HB2.out.trans (hb3.mono HB2.out.size))
  clear hb3 HO2 HP2 HQ2 HB2 q0 q1 q2 q3
  rw [oneX_fault, errV_nil]
  obtain ⟨q0, q1, q2, q3⟩ := HP3.out
  go_wp2_with fail
  refine (light_of (HC.out.below HB3.out)).mono ?_
  rintro e w4 ⟨⟨bl, rfl⟩, hb4⟩
  have HP4 := hideIt (HP3.out.below hb4)
  have HB4 := hideIt (HB3.out.trans (hb4.mono HB3.out.size))
  clear hb4 HP3 HB3 q0 q1 q2 q3
  obtain ⟨q0, q1, q2, q3⟩ := HP4.out
  rcases two bl with e1 | e1
  · subst e1
    go_wp2_with fail
    refine (check_any p _ _ (HC.out.below HB4.out)).mono ?_
    rintro e w5 ⟨rfl, hb5⟩
    have HP5 := hideIt (HP4.out.below hb5)
    have HB5 := hideIt (HB4.out.trans (hb5.mono HB4.out.size))
    clear hb5 HP4 HB4 q0 q1 q2 q3
    by_cases hf : podF p = 0
    · rw [hf, errV_nil]
      have HMI := hideIt (Qos.pod_mild hf)
      obtain ⟨q0, q1, q2, q3⟩ := HP5.out
      clear hf
      go_wp2_with fail
      refine (class_any p _ _ (HC.out.below HB5.out)).mono ?_
      rintro e w6 ⟨rfl, hb6⟩
      have HP6 := hideIt (HP5.out.below hb6)
      have HB6 := hideIt (HB5.out.trans (hb6.mono HB5.out.size))
      clear hb6 HP5 HB5 q0 q1 q2 q3
      obtain ⟨q0, q1, q2, q3⟩ := HP6.out
      go_wp2_with fail
      refine (sum_any p _ _ (HC.out.below HB6.out) HMI.out).mono ?_
      rintro e w7 ⟨rfl, hb7⟩
      have HP7 := hideIt (HP6.out.below hb7)
      have HB7 := hideIt (HB6.out.trans (hb7.mono HB6.out.size))
      clear hb7 HP6 HB6 q0 q1 q2 q3
      have HS8 := hideIt (TwoAt.made w7 89 (sumM p.cs p.cs.length) (sumB p.cs p.cs.length))
      have HP8 := hideIt (HP7.out.alloc (.cells #[.int .i64 (sumM p.cs p.cs.length), .int .i64 (sumB p.cs p.cs.length)] 89))
      have HB8 := hideIt (HB7.out.alloc HB7.out.size (.cells #[.int .i64 (sumM p.cs p.cs.length), .int .i64 (sumB p.cs p.cs.length)] 89))
      obtain ⟨hpl, hpq⟩ : pn = p.cs.length ∧ True := by
        obtain ⟨_, _, hv, _⟩ := HC.out
        cases hv
        exact ⟨rfl, trivial⟩
      subst hpl
      have hlen := HMI.out.1
      go_wp2_with fail
      clear hpq
      go_loopw [7, 8] (fun ow i wr => ∃ k : Nat, k ≤ p.cs.length ∧ i = .int .i64 k ∧ ow = .int .i64 (sumTo (fun j => ownOf p.cs (ct p.cs j).am) k) ∧ Below w.heap.size w wr ∧ PBoxAt wr w.heap.size p (.slice pa p.cs.length pc) ∧ TwoAt wr w7.heap.size (sumM p.cs p.cs.length) (sumB p.cs p.cs.length)) (fun _ i _ => p.cs.length - (intOf i).toNat)
      case atStart => exact ⟨0, by omega, rfl, rfl, HB8.out, HP8.out, HS8.out⟩
      case round =>
        obtain ⟨k, hk, rfl, rfl, hB, hP, hS⟩ := hrel
        clear HB7 HP7 HB8 HP8 HS8
        by_cases hlt : k < p.cs.length
        · obtain ⟨ao, c, hv, hcap, hr⟩ := HC.out.below hB
          cases hv
          obtain ⟨b, o, dv, rfl, hin⟩ := hr (by omega)
          obtain ⟨c0, c1, c2, c3, c4, c5⟩ := hin.at hlt
          have hsl : ∃ a n e, dv k = .slice a n e := by
            obtain ⟨a, e, he, _⟩ := (hin.2 k hlt).2
            exact ⟨a, _, e, he⟩
          obtain ⟨da, dn, dc, hd⟩ := hsl
          rw [hd] at c5
          have hba := (Below.refl wr.heap.size wr).alloc (Nat.le_refl _) (.cells #[.string (ct p.cs k).nm, .int .i64 (ct p.cs k).am, .int .i64 (ct p.cs k).ab, .int .i64 (ct p.cs k).cm, .int .i64 (ct p.cs k).cb, .slice da dn dc] 94)
          have HBa := hideIt (hB.trans (hba.mono hB.size))
          have HPa := hideIt (hP.below hba)
          have HSa := hideIt (hS.below hba)
          have HXa := hideIt (BoxAt.made wr (ct p.cs k) (.slice da dn dc))
          have HMk := (HMI.out.2 k hlt).1
          have HOW := hideIt (own_any p (.slice (some ⟨b, o, none⟩) p.cs.length pc) (ct p.cs k) da dn dc _ (HC.out.below HBa.out) HMk.1 HMk.2)
          have hin' := Qos.own_in HMI.out hlt
          have HPOS := hideIt (Qos.own_pos (cs := p.cs) hlt)
          have HSTEP : Hid (sumTo (fun j => ownOf p.cs (ct p.cs j).am) (k + 1) = sumTo (fun j => ownOf p.cs (ct p.cs j).am) k + ownOf p.cs (ct p.cs k).am) := rfl
          have hpart := Qos.own_part HMI.out hk
          have HBk := hideIt hB
          obtain ⟨q0, q1, q2, q3⟩ := hP
          clear hin hr hd hba hB hS hcap
          generalize sumTo (fun j => ownOf p.cs (ct p.cs j).am) k = SO at *
          generalize ownOf p.cs (ct p.cs k).am = n at *
          generalize ct p.cs k = x at *
          obtain ⟨nm, am, ab, cm, cb, ds⟩ := x
          dsimp only at *
          clear HQ1
          have HW1 : wrap64 (SO + n) = SO + n := by unfold wrap64; omega
          by_cases hn : 0 < n
          · obtain ⟨hk3, rfl, rfl, rfl⟩ := HPOS.out hn
            have hk3' : (classOf p.cs != 3) = false := by rw [hk3]; rfl
            have HW2 : wrap64 (1000 * n) = 1000 * n := by unfold wrap64; omega
            clear hk3 HPOS
            go_wp2_with fail
            refine HOW.out.mono ?_
            rintro e w9 ⟨rfl, hb9⟩
            have HB9 := hideIt (HBa.out.trans (hb9.mono HBa.out.size))
            have HP9 := hideIt (HPa.out.below hb9)
            have HS9 := hideIt (HSa.out.below hb9)
            obtain ⟨x0, x1, x2, x3, x4, x5, x6⟩ := HXa.out.below hb9
            clear hb9 HBa HPa HSa HXa HOW
            go_wp2_with fail
            go_roundw
            case rel => exact ⟨k + 1, by omega, by go_num, by rw [HSTEP.out], HB9.out, HP9.out, HS9.out⟩
            case measure => simp [intOf]; omega
          · have hn0 : n = 0 := by omega
            subst hn0
            go_wp2_with fail
            refine HOW.out.mono ?_
            rintro e w9 ⟨rfl, hb9⟩
            have HB9 := hideIt (HBa.out.trans (hb9.mono HBa.out.size))
            have HP9 := hideIt (HPa.out.below hb9)
            have HS9 := hideIt (HSa.out.below hb9)
            obtain ⟨x0, x1, x2, x3, x4, x5, x6⟩ := HXa.out.below hb9
            clear hb9 HBa HPa HSa HXa HOW
            go_wp2_with fail
            go_roundw
            case rel => exact ⟨k + 1, by omega, by go_num, by rw [HSTEP.out]; simp, HB9.out, HP9.out, HS9.out⟩
            case measure => simp [intOf]; omega
        · have hke : k = p.cs.length := by omega
          have HBk := hideIt hB
          obtain ⟨q0, q1, q2, q3⟩ := hP
          obtain ⟨⟨s0, _⟩, ⟨s1, _⟩⟩ := hS
          have hpart := Qos.own_part HMI.out hk
          have hsum := hideIt (Qos.own_sum HMI.out)
          have hsin := Qos.sumM_in HMI.out (Nat.le_refl _)
          have hcl := Qos.class_in p.cs
          have hqs := hideIt (@Qos.quiet_sums p.cs)
          subst hke
          clear hB HQ1
          generalize hSO : sumTo (fun j => ownOf p.cs (ct p.cs j).am) p.cs.length = SO at *
          generalize sumM p.cs p.cs.length = M at *
          generalize sumB p.cs p.cs.length = N at *
          generalize classOf p.cs = K at *
          have HW2 : wrap64 (1000 * SO) = 1000 * SO := by unfold wrap64; omega
          have hfin : decide (1000 * SO ≤ M) = true := decide_eq_true hsum.out
          clear hsum hSO
          rcases hcl with rfl | rfl | rfl
          · obtain ⟨rfl, rfl⟩ := hqs.out rfl
            clear hqs
            go_wp2_with fail
            go_ret
            exact ⟨by simp_all, HBk.out⟩
          · clear hqs
            go_wp2_with fail
            go_ret
            exact ⟨by simp_all, HBk.out⟩
          · clear hqs
            go_wp2_with fail
            go_ret
            exact ⟨by simp_all, HBk.out⟩
    · rw [errQ_pos hf]
      go_wp2_with fail
      go_ret
      exact ⟨rfl, HB5.out⟩
  · subst e1
    go_wp2_with fail
    go_ret
    exact ⟨rfl, HB4.out⟩
end Go.Proofs.Ythekalhceamcoaa
