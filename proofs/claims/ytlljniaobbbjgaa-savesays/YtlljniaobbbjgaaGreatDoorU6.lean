/- VF1, VR3, VT2, VEnv, VQ1, VQ2 -/
import Derived.Test.YtlljniaobbbjgaaGreatDoorU5
import Derived.Test.YtlljniaobbbjgaaGreatDoorU4
import Derived.Deep.RegionHeld3
import Derived.Test.YtlljniaobbbjgaaGreatDoorCards
import Derived.Test.YtlljniaobbbjgaaGreatDoorTie
import Derived.ProofKit
import Derived.OpenShut
import Derived.ShutString
import Derived.ChangeOld
import Derived.Deep.DeepHandedRow
import Derived.Lib.LaidTab
import Derived.Stop.LaidErr
import Derived.Lib.ItoaNum
import Derived.Test.YtlljniaobbbjgaaGreatDoorU2
import Derived.Laws.OwnMore
namespace Go.Proofs.YtlljniaobbbjgaaGreatDoor
open Go.RowKit
open Qos (Nd Ct Pd nd ct pd podF leS)
open Sv (Gv Hd gv hd devF devF1 gsF behindF oneF heldF lowAt)
open Dvs (nameMay first)
theorem below_drewF (w : World) (n : Nat) : Below w.heap.size w (w.drewN n) := ⟨rfl, rfl, rfl, Nat.le_refl _, fun _ _ => rfl⟩
theorem below_drewF2 (w : World) (m n : Nat) : Below w.heap.size w ((w.drewN m).drewN n) := ⟨rfl, rfl, rfl, Nat.le_refl _, fun _ _ => rfl⟩
theorem devF1_bad {xs : List Int} {k : Nat} (h : xs.getD k 0 < 0 ∨ 15 < xs.getD k 0 ∨ (0 < k ∧ xs.getD k 0 ≤ xs.getD (k - 1) 0)) : devF1 xs k = 3 := by unfold devF1; rw [if_pos h]
theorem devF1_good {xs : List Int} {k : Nat} (h : ¬ (xs.getD k 0 < 0 ∨ 15 < xs.getD k 0 ∨ (0 < k ∧ xs.getD k 0 ≤ xs.getD (k - 1) 0))) : devF1 xs k = 0 := by unfold devF1; rw [if_neg h]
def PodFaultIs : Prop := ∀ (p : Pd) (cv : Value) (w : World), ConsAt w cv p.cs → Calls Tryz.prog 26 #[podV p cv] w fun e w' => e = .returned (.int .i64 (podF p : Nat)) ∧ Below w.heap.size w w'
set_option maxRecDepth 100000 in
set_option maxHeartbeats 4000000 in
theorem heldFault_of (HPF : PodFaultIs) (v : Value) (hs : List Hd) (w : World) (h : HldsAt w v hs) : Calls Tryz.prog 8 #[v] w fun e w' => e = .returned (.int .i64 (heldF hs : Nat)) ∧ Below w.heap.size w w' := by
  obtain ⟨ao, c, rfl, hm, hr⟩ := h
  have HR := hideIt hr
  clear hr
  unfold maxLen at hm
  by_cases hn : 12 < hs.length
  · have he := heldF_many hn
    have hd1 : decide ((12 : Int) < (hs.length : Int)) = true := decide_eq_true (by omega)
    go_enter Tryz.func8, Tryz.ntmps8
    go_wp2_with fail
    go_ret
    exact ⟨by rw [he]; rfl, Below.refl _ _⟩
  · rw [heldF_few hn]
    have hl : hs.length ≤ 12 := by omega
    have hd1 : decide ((12 : Int) < (hs.length : Int)) = false := decide_eq_false (by omega)
    go_enter Tryz.func8, Tryz.ntmps8
    go_wp2_with fail
    go_loopw [3] (fun i wr => ∃ k : Nat, k ≤ hs.length ∧ i = .int .i64 k ∧ Below w.heap.size w wr ∧ Hid (first (oneF hs) k = 0)) (fun i _ => hs.length - (intOf i).toNat)
    case atStart => exact ⟨0, by omega, rfl, Below.refl _ _, rfl⟩
    case round =>
      obtain ⟨k, hk, rfl, hB, HF⟩ := hrel
      by_cases hlt : k < hs.length
      · obtain ⟨b, o, cv, gvv, rfl, hin⟩ := HR.out (by omega)
        have hin := hin.below hB
        obtain ⟨d0, d1, d2, d3⟩ := hin.at hlt
        obtain ⟨_, hC, hG⟩ := hin.2 k hlt
        have HBL := hideIt hin.1
        have HIN := hideIt hin
        have HO := hideIt (Dvs.first_hit (f := oneF hs) (n := hs.length) HF.out · hlt)
        have HZ := hideIt (Dvs.first_zero (f := oneF hs) (k := k) HF.out)
        have HBW := hideIt ((Below.refl wr.heap.size wr).alloc (Nat.le_refl _) (.cells #[.string (hd hs k).pod.nm, .int .i64 (hd hs k).pod.pr, cv k, gvv k] 67))
        have HBa := hideIt (hB.alloc hB.size (.cells #[.string (hd hs k).pod.nm, .int .i64 (hd hs k).pod.pr, cv k, gvv k] 67))
        have HPK := hideIt (HPF (hd hs k).pod (cv k) _ (hC.below HBW.out))
        unfold podV at HPK
        have HGA := hideIt (hG.below HBW.out)
        obtain ⟨ca, cc, hs1⟩ := hC.sl
        obtain ⟨ga, gc, hs2⟩ := hG.sl
        have HONE : Hid (oneF hs k = behindF (hd hs k) (lowAt hs k)) := rfl
        have HLOW : Hid (lowAt hs k = (decide (0 < k) && leS (hd hs k).pod.nm (hd hs (k - 1)).pod.nm)) := rfl
        clear hC hG HF hB hin
        generalize oneF hs k = F at *
        generalize lowAt hs k = LB at *
        generalize cv k = cvk at *
        generalize gvv k = gvk at *
        subst hs1 hs2
        go_wp2_with fail
        refine HPK.out.mono ?_
        rintro e W1 ⟨rfl, hb1⟩
        have HBY := hideIt hb1
        have HB1 := hideIt (HBa.out.trans (hb1.mono HBa.out.size))
        have c0 : W1.cell? ⟨wr.heap.size, 0, none⟩ = some (.string (hd hs k).pod.nm) := (hb1.cell (p := ⟨wr.heap.size, 0, none⟩) (by simp)).trans (by simp)
        have c2 : W1.cell? ⟨wr.heap.size, 2, none⟩ = some (.slice ca (hd hs k).pod.cs.length cc) := (hb1.cell (p := ⟨wr.heap.size, 2, none⟩) (by simp)).trans (by simp)
        have c3 : W1.cell? ⟨wr.heap.size, 3, none⟩ = some (.slice ga (hd hs k).gs.length gc) := (hb1.cell (p := ⟨wr.heap.size, 3, none⟩) (by simp)).trans (by simp)
        have HLW : Hid (wr.heap.size < W1.heap.size) := Nat.lt_of_lt_of_le (by simp) hb1.size
        have HPV : Hid (0 < k → W1.cell? ⟨b, o + (k - 1) * 4, none⟩ = some (.string (hd hs (k - 1)).pod.nm)) := fun h0 => ((HBW.out.trans (hb1.mono HBW.out.size)).cell (p := ⟨b, o + (k - 1) * 4, none⟩) HBL.out).trans (HIN.out.at (k := k - 1) (by omega)).1
        clear hb1 HPK HIN d0 d1 d2 d3
        by_cases hp : podF (hd hs k).pod = 0
        · rw [hp]
          by_cases h0 : 0 < k
          · have z0 := HPV.out h0
            have wA : IntKind.i64.wrap ((k : Int) - 1) = (k : Int) - 1 := by rw [IntKind.wrap_i64]; omega
            have wB : wrap64 ((k : Int) - 1) = (k : Int) - 1 := by unfold wrap64; omega
            have i0 : (0 : Int) ≤ (k : Int) - 1 := by omega
            have i1 : (k : Int) - 1 < hs.length := by omega
            have i2 : ((k : Int) - 1).toNat = k - 1 := by omega
            have i3 : (0 : Int) < k := by omega
            have m2 : decide (0 < k) = true := decide_eq_true h0
            have m4 : decide ((0 : Int) < k) = true := decide_eq_true (by omega)
            have m3 : (1 : Int) ≤ k := by omega
            have m1 : 1 ≤ k := h0
            have HLE : Hid (LB = leS (hd hs k).pod.nm (hd hs (k - 1)).pod.nm) := by unfold Hid; rw [HLOW.out, m2]; rfl
            clear HPV HLOW m2
            rcases two (leS (hd hs k).pod.nm (hd hs (k - 1)).pod.nm) with hle | hle
            · have HV := hideIt (HONE.out.trans (behind_2 hp (.inl (HLE.out.trans hle))))
              have hle' : (Op.bytesLess (hd hs k).pod.nm.toList (hd hs (k - 1)).pod.nm.toList || (hd hs k).pod.nm.toList == (hd hs (k - 1)).pod.nm.toList) = true := hle
              have HW3 := hideIt (HO.out (by rw [HV.out]; decide))
              clear hle hp HO HZ HONE
              generalize (hd hs (k - 1)).pod.nm = zn at *
              go_wp2_with fail
              go_quiet (fail)
              go_wp2_with fail
              go_ret
              exact ⟨by rw [HW3.out, HV.out]; rfl, HB1.out.trans ((below_drewF W1 _).mono HB1.out.size)⟩
            · have hle' : (Op.bytesLess (hd hs k).pod.nm.toList (hd hs (k - 1)).pod.nm.toList || (hd hs k).pod.nm.toList == (hd hs (k - 1)).pod.nm.toList) = false := hle
              have HLF := hideIt (HLE.out.trans hle)
              clear hle HLE
              generalize (hd hs (k - 1)).pod.nm = zn at *
              by_cases hlg : (hd hs k).gs.length = (hd hs k).pod.cs.length
              · have HE := hideIt (HONE.out.trans (behind_3 hp (by rw [HLF.out]; simp [hlg])))
                have hl2 : ((hd hs k).gs.length : Int) = ((hd hs k).pod.cs.length : Int) := by omega
                clear hp hlg HONE HLF
                go_wp2_with fail
                go_quiet (fail)
                clear hl2
                have HBq := hideIt (HB1.out.trans ((below_drewF W1 nq).mono HB1.out.size))
                have HBp := hideIt (below_drewF W1 nq)
                generalize W1.drewN nq = W2 at *
                replace c3 := (HBp.out.cell (p := ⟨wr.heap.size, 3, none⟩) HLW.out).trans c3
                have HGB := hideIt (HGA.out.below ((HBY.out).trans (HBp.out.mono HBY.out.size)))
                have HLW2 := hideIt (Nat.lt_of_lt_of_le HLW.out HBp.out.size)
                generalize wr.heap.size = bx at *
                clear HBp
                obtain ⟨_, _, hgv, gm, hgr⟩ := HGB.out
                cases hgv
                have HGR := hideIt hgr
                unfold maxLen at gm
                clear hgr HGB HGA
                go_wp2_with fail
                go_loopw [6] (fun i wq => ∃ j : Nat, j ≤ (hd hs k).gs.length ∧ i = .int .i64 j ∧ Below W2.heap.size W2 wq ∧ Hid (first (fun k2 => devF (gv (hd hs k).gs k2).dv) j = 0)) (fun i _ => (hd hs k).gs.length - (intOf i).toNat)
                case atStart => exact ⟨0, by omega, rfl, Below.refl _ _, rfl⟩
                case round =>
                  obtain ⟨j, hj, rfl, hBj, HFj⟩ := hrel
                  have HBj := hideIt hBj
                  replace c3 := (hBj.cell (p := ⟨bx, 3, none⟩) HLW2.out).trans c3
                  clear hBj
                  by_cases hjl : j < (hd hs k).gs.length
                  · obtain ⟨gb, go, dv, rfl, hgin⟩ := HGR.out (by omega)
                    have hgin := hgin.below HBj.out
                    obtain ⟨g0, g1⟩ := hgin.at hjl
                    have hI := (hgin.2 j hjl).2
                    have HO2 : Hid (devF (gv (hd hs k).gs j).dv ≠ 0 → first (fun k2 => devF (gv (hd hs k).gs k2).dv) (hd hs k).gs.length = devF (gv (hd hs k).gs j).dv) := hideIt fun h => Dvs.first_hit (f := fun k2 => devF (gv (hd hs k).gs k2).dv) (n := (hd hs k).gs.length) HFj.out h hjl
                    have HZ2 : Hid (devF (gv (hd hs k).gs j).dv = 0 → first (fun k2 => devF (gv (hd hs k).gs k2).dv) (j + 1) = 0) := hideIt fun h => Dvs.first_zero (f := fun k2 => devF (gv (hd hs k).gs k2).dv) (k := j) HFj.out h
                    obtain ⟨ia, ic, hsl, im, hir⟩ := hI
                    have HIR := hideIt hir
                    unfold maxLen at im
                    clear hgin hir HFj HGR
                    generalize (gv (hd hs k).gs j).dv = xs at *
                    generalize (gv (hd hs k).gs j).cp = cp at *
                    generalize dv j = dj at *
                    subst hsl
                    by_cases hx16 : 16 < xs.length
                    · have hd16 : decide ((16 : Int) < (xs.length : Int)) = true := decide_eq_true (by omega)
                      have HV := hideIt (HO.out (by rw [HE.out, HO2.out (by rw [devF_many hx16]; decide), devF_many hx16]; decide))
                      have HV2 := hideIt (HO2.out (by rw [devF_many hx16]; decide))
                      have HV3 := hideIt (devF_many hx16)
                      clear HO HO2 HZ HZ2
                      go_wp2_with fail
                      go_ret
                      exact ⟨by rw [HV.out, HE.out, HV2.out, HV3.out]; rfl, HBq.out.trans (HBj.out.mono HBq.out.size)⟩
                    · have hd16 : decide ((16 : Int) < (xs.length : Int)) = false := decide_eq_false (by omega)
                      have HFEW := hideIt (devF_few hx16)
                      have hxl : xs.length ≤ 16 := by omega
                      go_wp2_with fail
                      generalize hwq : wr = W3 at *
                      clear hwq
                      go_loopw [8] (fun i wz => ∃ n m : Nat, n ≤ xs.length ∧ i = .int .i64 n ∧ wz = W3.drewN m ∧ Hid (first (devF1 xs) n = 0)) (fun i _ => xs.length - (intOf i).toNat)
                      case atStart => exact ⟨0, 0, by omega, rfl, rfl, rfl⟩
                      case round =>
                        obtain ⟨n, m, hnn, rfl, rfl, HFn⟩ := hrel
                        by_cases hnl : n < xs.length
                        · obtain ⟨ib, io, rfl, hib, hic⟩ := HIR.out (by omega)
                          have x0 := hic n hnl
                          have HBAD : Hid ((xs.getD n 0 < 0 ∨ 15 < xs.getD n 0 ∨ (0 < n ∧ xs.getD n 0 ≤ xs.getD (n - 1) 0)) → F = 3) := fun h => by
                            have h1 := Dvs.first_hit (f := devF1 xs) (n := xs.length) HFn.out (by rw [devF1_bad h]; decide) hnl
                            have h2 : devF xs = 3 := by rw [HFEW.out, h1, devF1_bad h]
                            rw [HE.out, HO2.out (by rw [h2]; decide), h2]
                          have HGD : Hid (¬ (xs.getD n 0 < 0 ∨ 15 < xs.getD n 0 ∨ (0 < n ∧ xs.getD n 0 ≤ xs.getD (n - 1) 0)) → first (devF1 xs) (n + 1) = 0) := fun h => Dvs.first_zero (f := devF1 xs) (k := n) HFn.out (devF1_good h)
                          have hxp : 0 < n → W3.cell? ⟨ib, io + (n - 1), none⟩ = some (.int .i64 (xs.getD (n - 1) 0)) := fun h => hic (n - 1) (by omega)
                          have HXP := hideIt hxp
                          clear hic hxp HFn
                          generalize xs.getD (n - 1) 0 = y at *
                          generalize xs.getD n 0 = x at *
                          have HRT := hideIt (HO.out)
                          by_cases a1 : x < 0
                          · have q1 : decide (x < 0) = true := decide_eq_true a1
                            have HV := hideIt (HBAD.out (.inl a1))
                            clear HBAD HGD HXP
                            go_wp2_with fail
                            go_quiet (fail)
                            go_wp2_with fail
                            go_ret
                            exact ⟨by rw [HRT.out (by rw [HV.out]; decide), HV.out]; rfl, (HBq.out.trans (HBj.out.mono HBq.out.size)).trans ((below_drewF2 W3 _ _).mono (Nat.le_trans HBq.out.size HBj.out.size))⟩
                          · have q1 : decide (x < 0) = false := decide_eq_false a1
                            by_cases a2 : 15 < x
                            · have q2 : decide (15 < x) = true := decide_eq_true a2
                              have HV := hideIt (HBAD.out (.inr (.inl a2)))
                              clear HBAD HGD HXP
                              go_wp2_with fail
                              go_quiet (fail)
                              go_wp2_with fail
                              go_ret
                              exact ⟨by rw [HRT.out (by rw [HV.out]; decide), HV.out]; rfl, (HBq.out.trans (HBj.out.mono HBq.out.size)).trans ((below_drewF2 W3 _ _).mono (Nat.le_trans HBq.out.size HBj.out.size))⟩
                            · have q2 : decide (15 < x) = false := decide_eq_false a2
                              by_cases h0 : 0 < n
                              · have x1 := HXP.out h0
                                have wA : IntKind.i64.wrap ((n : Int) - 1) = (n : Int) - 1 := by rw [IntKind.wrap_i64]; omega
                                have wB : wrap64 ((n : Int) - 1) = (n : Int) - 1 := by unfold wrap64; omega
                                have i0 : (0 : Int) ≤ (n : Int) - 1 := by omega
                                have i1 : (n : Int) - 1 < xs.length := by omega
                                have i2 : ((n : Int) - 1).toNat = n - 1 := by omega
                                have i3 : (0 : Int) < n := by omega
                                have m2 : decide (0 < n) = true := decide_eq_true h0
                                have m4 : decide ((0 : Int) < n) = true := decide_eq_true (by omega)
                                have m3 : (1 : Int) ≤ n := by omega
                                have m1 : 1 ≤ n := h0
                                by_cases a3 : x ≤ y
                                · have q3 : decide (x ≤ y) = true := decide_eq_true a3
                                  have HV := hideIt (HBAD.out (.inr (.inr ⟨h0, a3⟩)))
                                  clear HBAD HGD HXP
                                  go_wp2_with fail
                                  go_quiet (fail)
                                  go_wp2_with fail
                                  go_ret
                                  exact ⟨by rw [HRT.out (by rw [HV.out]; decide), HV.out]; rfl, (HBq.out.trans (HBj.out.mono HBq.out.size)).trans ((below_drewF2 W3 _ _).mono (Nat.le_trans HBq.out.size HBj.out.size))⟩
                                · have q3 : decide (x ≤ y) = false := decide_eq_false a3
                                  have HV := hideIt (HGD.out (by omega))
                                  clear HBAD HGD HXP
                                  go_wp2_with fail
                                  go_quiet (fail)
                                  go_wp2_with fail
                                  go_roundw
                                  case rel => exact ⟨n + 1, _, by omega, by go_num, rfl, HV⟩
                                  case measure => simp [intOf]; omega
                              · have hn0 : n = 0 := by omega
                                subst hn0
                                rw [Nat.add_zero] at x0
                                have HV := hideIt (HGD.out (by omega))
                                clear HBAD HGD HXP
                                go_wp2_with fail
                                go_quiet (fail)
                                go_wp2_with fail
                                go_roundw
                                case rel => exact ⟨0 + 1, _, by omega, by go_num, rfl, HV⟩
                                case measure => simp [intOf]; omega
                        · have hne : n = xs.length := by omega
                          subst hne
                          have HV := hideIt (HZ2.out (by rw [HFEW.out]; exact HFn.out))
                          clear HO2 HZ2 HIR
                          go_wp2_with fail
                          go_roundw
                          case rel => exact ⟨j + 1, by omega, by go_num, HBj.out.trans ((below_drewF W3 m).mono HBj.out.size), HV⟩
                          case measure => simp [intOf]; omega
                  · have hje : j = (hd hs k).gs.length := by omega
                    have HV := hideIt (HZ.out (by rw [HE.out, ← hje]; exact HFj.out))
                    clear HO HZ HFj
                    generalize (hd hs k).gs = gs at *
                    subst hje
                    go_wp2_with fail
                    go_roundw
                    case rel => exact ⟨k + 1, by omega, by go_num, HBq.out.trans (HBj.out.mono HBq.out.size), HV⟩
                    case measure => simp [intOf]; omega
              · have HV := hideIt (HONE.out.trans (behind_2 hp (.inr hlg)))
                have hl2 : (((hd hs k).gs.length : Int) == ((hd hs k).pod.cs.length : Int)) = false := by simp; omega
                have HW3 := hideIt (HO.out (by rw [HV.out]; decide))
                clear hp HO HZ HONE
                go_wp2_with fail
                go_quiet (fail)
                go_wp2_with fail
                go_ret
                exact ⟨by rw [HW3.out, HV.out]; rfl, HB1.out.trans ((below_drewF W1 _).mono HB1.out.size)⟩
          · have hk0 : k = 0 := by omega
            subst hk0
            have HLF : Hid (LB = false) := HLOW.out
            clear HPV HLOW h0
            by_cases hlg : (hd hs 0).gs.length = (hd hs 0).pod.cs.length
            · have HE := hideIt (HONE.out.trans (behind_3 hp (by rw [HLF.out]; simp [hlg])))
              have hl2 : ((hd hs 0).gs.length : Int) = ((hd hs 0).pod.cs.length : Int) := by omega
              clear hp hlg HONE HLF
              go_wp2_with fail
              go_quiet (fail)
              clear hl2
              have HBq := hideIt (HB1.out.trans ((below_drewF W1 nq).mono HB1.out.size))
              have HBp := hideIt (below_drewF W1 nq)
              generalize W1.drewN nq = W2 at *
              replace c3 := (HBp.out.cell (p := ⟨wr.heap.size, 3, none⟩) HLW.out).trans c3
              have HGB := hideIt (HGA.out.below ((HBY.out).trans (HBp.out.mono HBY.out.size)))
              have HLW2 := hideIt (Nat.lt_of_lt_of_le HLW.out HBp.out.size)
              generalize wr.heap.size = bx at *
              clear HBp
              obtain ⟨_, _, hgv, gm, hgr⟩ := HGB.out
              cases hgv
              have HGR := hideIt hgr
              unfold maxLen at gm
              clear hgr HGB HGA
              go_wp2_with fail
              go_loopw [6] (fun i wq => ∃ j : Nat, j ≤ (hd hs 0).gs.length ∧ i = .int .i64 j ∧ Below W2.heap.size W2 wq ∧ Hid (first (fun k2 => devF (gv (hd hs 0).gs k2).dv) j = 0)) (fun i _ => (hd hs 0).gs.length - (intOf i).toNat)
              case atStart => exact ⟨0, by omega, rfl, Below.refl _ _, rfl⟩
              case round =>
                obtain ⟨j, hj, rfl, hBj, HFj⟩ := hrel
                have HBj := hideIt hBj
                replace c3 := (hBj.cell (p := ⟨bx, 3, none⟩) HLW2.out).trans c3
                clear hBj
                by_cases hjl : j < (hd hs 0).gs.length
                · obtain ⟨gb, go, dv, rfl, hgin⟩ := HGR.out (by omega)
                  have hgin := hgin.below HBj.out
                  obtain ⟨g0, g1⟩ := hgin.at hjl
                  have hI := (hgin.2 j hjl).2
                  have HO2 : Hid (devF (gv (hd hs 0).gs j).dv ≠ 0 → first (fun k2 => devF (gv (hd hs 0).gs k2).dv) (hd hs 0).gs.length = devF (gv (hd hs 0).gs j).dv) := hideIt fun h => Dvs.first_hit (f := fun k2 => devF (gv (hd hs 0).gs k2).dv) (n := (hd hs 0).gs.length) HFj.out h hjl
                  have HZ2 : Hid (devF (gv (hd hs 0).gs j).dv = 0 → first (fun k2 => devF (gv (hd hs 0).gs k2).dv) (j + 1) = 0) := hideIt fun h => Dvs.first_zero (f := fun k2 => devF (gv (hd hs 0).gs k2).dv) (k := j) HFj.out h
                  obtain ⟨ia, ic, hsl, im, hir⟩ := hI
                  have HIR := hideIt hir
                  unfold maxLen at im
                  clear hgin hir HFj HGR
                  generalize (gv (hd hs 0).gs j).dv = xs at *
                  generalize (gv (hd hs 0).gs j).cp = cp at *
                  generalize dv j = dj at *
                  subst hsl
                  by_cases hx16 : 16 < xs.length
                  · have hd16 : decide ((16 : Int) < (xs.length : Int)) = true := decide_eq_true (by omega)
                    have HV := hideIt (HO.out (by rw [HE.out, HO2.out (by rw [devF_many hx16]; decide), devF_many hx16]; decide))
                    have HV2 := hideIt (HO2.out (by rw [devF_many hx16]; decide))
                    have HV3 := hideIt (devF_many hx16)
                    clear HO HO2 HZ HZ2
                    go_wp2_with fail
                    go_ret
                    exact ⟨by rw [HV.out, HE.out, HV2.out, HV3.out]; rfl, HBq.out.trans (HBj.out.mono HBq.out.size)⟩
                  · have hd16 : decide ((16 : Int) < (xs.length : Int)) = false := decide_eq_false (by omega)
                    have HFEW := hideIt (devF_few hx16)
                    have hxl : xs.length ≤ 16 := by omega
                    go_wp2_with fail
                    generalize hwq : wr = W3 at *
                    clear hwq
                    go_loopw [8] (fun i wz => ∃ n m : Nat, n ≤ xs.length ∧ i = .int .i64 n ∧ wz = W3.drewN m ∧ Hid (first (devF1 xs) n = 0)) (fun i _ => xs.length - (intOf i).toNat)
                    case atStart => exact ⟨0, 0, by omega, rfl, rfl, rfl⟩
                    case round =>
                      obtain ⟨n, m, hnn, rfl, rfl, HFn⟩ := hrel
                      by_cases hnl : n < xs.length
                      · obtain ⟨ib, io, rfl, hib, hic⟩ := HIR.out (by omega)
                        have x0 := hic n hnl
                        have HBAD : Hid ((xs.getD n 0 < 0 ∨ 15 < xs.getD n 0 ∨ (0 < n ∧ xs.getD n 0 ≤ xs.getD (n - 1) 0)) → F = 3) := fun h => by
                          have h1 := Dvs.first_hit (f := devF1 xs) (n := xs.length) HFn.out (by rw [devF1_bad h]; decide) hnl
                          have h2 : devF xs = 3 := by rw [HFEW.out, h1, devF1_bad h]
                          rw [HE.out, HO2.out (by rw [h2]; decide), h2]
                        have HGD : Hid (¬ (xs.getD n 0 < 0 ∨ 15 < xs.getD n 0 ∨ (0 < n ∧ xs.getD n 0 ≤ xs.getD (n - 1) 0)) → first (devF1 xs) (n + 1) = 0) := fun h => Dvs.first_zero (f := devF1 xs) (k := n) HFn.out (devF1_good h)
                        have hxp : 0 < n → W3.cell? ⟨ib, io + (n - 1), none⟩ = some (.int .i64 (xs.getD (n - 1) 0)) := fun h => hic (n - 1) (by omega)
                        have HXP := hideIt hxp
                        clear hic hxp HFn
                        generalize xs.getD (n - 1) 0 = y at *
                        generalize xs.getD n 0 = x at *
                        have HRT := hideIt (HO.out)
                        by_cases a1 : x < 0
                        · have q1 : decide (x < 0) = true := decide_eq_true a1
                          have HV := hideIt (HBAD.out (.inl a1))
                          clear HBAD HGD HXP
                          go_wp2_with fail
                          go_quiet (fail)
                          go_wp2_with fail
                          go_ret
                          exact ⟨by rw [HRT.out (by rw [HV.out]; decide), HV.out]; rfl, (HBq.out.trans (HBj.out.mono HBq.out.size)).trans ((below_drewF2 W3 _ _).mono (Nat.le_trans HBq.out.size HBj.out.size))⟩
                        · have q1 : decide (x < 0) = false := decide_eq_false a1
                          by_cases a2 : 15 < x
                          · have q2 : decide (15 < x) = true := decide_eq_true a2
                            have HV := hideIt (HBAD.out (.inr (.inl a2)))
                            clear HBAD HGD HXP
                            go_wp2_with fail
                            go_quiet (fail)
                            go_wp2_with fail
                            go_ret
                            exact ⟨by rw [HRT.out (by rw [HV.out]; decide), HV.out]; rfl, (HBq.out.trans (HBj.out.mono HBq.out.size)).trans ((below_drewF2 W3 _ _).mono (Nat.le_trans HBq.out.size HBj.out.size))⟩
                          · have q2 : decide (15 < x) = false := decide_eq_false a2
                            by_cases h0 : 0 < n
                            · have x1 := HXP.out h0
                              have wA : IntKind.i64.wrap ((n : Int) - 1) = (n : Int) - 1 := by rw [IntKind.wrap_i64]; omega
                              have wB : wrap64 ((n : Int) - 1) = (n : Int) - 1 := by unfold wrap64; omega
                              have i0 : (0 : Int) ≤ (n : Int) - 1 := by omega
                              have i1 : (n : Int) - 1 < xs.length := by omega
                              have i2 : ((n : Int) - 1).toNat = n - 1 := by omega
                              have i3 : (0 : Int) < n := by omega
                              have m2 : decide (0 < n) = true := decide_eq_true h0
                              have m4 : decide ((0 : Int) < n) = true := decide_eq_true (by omega)
                              have m3 : (1 : Int) ≤ n := by omega
                              have m1 : 1 ≤ n := h0
                              by_cases a3 : x ≤ y
                              · have q3 : decide (x ≤ y) = true := decide_eq_true a3
                                have HV := hideIt (HBAD.out (.inr (.inr ⟨h0, a3⟩)))
                                clear HBAD HGD HXP
                                go_wp2_with fail
                                go_quiet (fail)
                                go_wp2_with fail
                                go_ret
                                exact ⟨by rw [HRT.out (by rw [HV.out]; decide), HV.out]; rfl, (HBq.out.trans (HBj.out.mono HBq.out.size)).trans ((below_drewF2 W3 _ _).mono (Nat.le_trans HBq.out.size HBj.out.size))⟩
                              · have q3 : decide (x ≤ y) = false := decide_eq_false a3
                                have HV := hideIt (HGD.out (by omega))
                                clear HBAD HGD HXP
                                go_wp2_with fail
                                go_quiet (fail)
                                go_wp2_with fail
                                go_roundw
                                case rel => exact ⟨n + 1, _, by omega, by go_num, rfl, HV⟩
                                case measure => simp [intOf]; omega
                            · have hn0 : n = 0 := by omega
                              subst hn0
                              rw [Nat.add_zero] at x0
                              have HV := hideIt (HGD.out (by omega))
                              clear HBAD HGD HXP
                              go_wp2_with fail
                              go_quiet (fail)
                              go_wp2_with fail
                              go_roundw
                              case rel => exact ⟨0 + 1, _, by omega, by go_num, rfl, HV⟩
                              case measure => simp [intOf]; omega
                      · have hne : n = xs.length := by omega
                        subst hne
                        have HV := hideIt (HZ2.out (by rw [HFEW.out]; exact HFn.out))
                        clear HO2 HZ2 HIR
                        go_wp2_with fail
                        go_roundw
                        case rel => exact ⟨j + 1, by omega, by go_num, HBj.out.trans ((below_drewF W3 m).mono HBj.out.size), HV⟩
                        case measure => simp [intOf]; omega
                · have hje : j = (hd hs 0).gs.length := by omega
                  have HV := hideIt (HZ.out (by rw [HE.out, ← hje]; exact HFj.out))
                  clear HO HZ HFj
                  generalize (hd hs 0).gs = gs at *
                  subst hje
                  go_wp2_with fail
                  go_roundw
                  case rel => exact ⟨0 + 1, by omega, by go_num, HBq.out.trans (HBj.out.mono HBq.out.size), HV⟩
                  case measure => simp [intOf]; omega
            · have HV := hideIt (HONE.out.trans (behind_2 hp (.inr hlg)))
              have hl2 : (((hd hs 0).gs.length : Int) == ((hd hs 0).pod.cs.length : Int)) = false := by simp; omega
              have HW3 := hideIt (HO.out (by rw [HV.out]; decide))
              clear hp HO HZ HONE
              go_wp2_with fail
              go_quiet (fail)
              go_wp2_with fail
              go_ret
              exact ⟨by rw [HW3.out, HV.out]; rfl, HB1.out.trans ((below_drewF W1 _).mono HB1.out.size)⟩
        · have HV := hideIt (HONE.out.trans (behind_1 (b := LB) hp))
          have hpd : decide ((0 : Int) < ((podF (hd hs k).pod : Nat) : Int)) = true := decide_eq_true (by omega)
          have HW3 := hideIt (HO.out (by rw [HV.out]; exact hp))
          have hp0 : 0 < podF (hd hs k).pod := by omega
          have hp1 : ¬ (podF (hd hs k).pod = 0) := hp
          clear hp HO HZ HONE
          generalize podF (hd hs k).pod = PF at *
          go_wp2_with fail
          go_ret
          exact ⟨by rw [HW3.out, HV.out]; rfl, HB1.out⟩
      · have hke : k = hs.length := by omega
        subst hke
        have HBa := hideIt hB
        clear hB
        go_wp2_with fail
        go_ret
        exact ⟨by rw [HF.out]; rfl, HBa.out⟩
end Go.Proofs.YtlljniaobbbjgaaGreatDoor
namespace Go.Proofs.YtlljniaobbbjgaaGreatDoor
open Go.RowKit Go.Shelf
open Ost (splitC cut1)
open Qos (Nd nd)
open S1 (Mx)
attribute [local go_sem] Oper.semAt_some
def ndOf (x : List UInt8) : Nd := ⟨⟨(cut1 58 x).1.toArray⟩, nOf (cut1 58 x).2.1⟩
def gN (x : List UInt8) : Bool := gOf (cut1 58 x).2.1
theorem needS_n (x : List UInt8) : Sv.needS x = if gN x = true then some (ndOf x) else none := by
  unfold Sv.needS gN ndOf
  rw [numS_n]
  cases gOf (cut1 58 x).2.1 <;> rfl
def ndsTo (ps : List (List UInt8)) (k : Nat) : List Nd := (ps.take k).map ndOf
theorem ndsTo_next {ps : List (List UInt8)} {k : Nat} (h : k < ps.length) : ndsTo ps (k + 1) = ndsTo ps k ++ [ndOf ps[k]] := by
  unfold ndsTo
  rw [List.take_succ_eq_append_getElem h, List.map_append]; rfl
theorem ndsTo_len {ps : List (List UInt8)} {k : Nat} (h : k ≤ ps.length) : (ndsTo ps k).length = k := by unfold ndsTo; simp; omega
theorem allOfN_good {ps : List (List UInt8)} (h : ∀ x ∈ ps, gN x = true) : Sv.allOf Sv.needS ps = some (ps.map ndOf) := by
  induction ps with
  | nil => rfl
  | cons x r ih => rw [Sv.allOf, needS_n, if_pos (h x (by simp)), ih fun y hy => h y (by simp [hy])]; rfl
theorem allOfN_bad {ps : List (List UInt8)} {x : List UInt8} (hx : x ∈ ps) (h : gN x = false) : Sv.allOf Sv.needS ps = none := by
  induction ps with
  | nil => simp at hx
  | cons y r ih =>
    rw [Sv.allOf, needS_n]
    rcases List.mem_cons.1 hx with rfl | hx
    · rw [h]; rfl
    · cases gN y with
      | true => rw [if_pos rfl, ih hx]; rfl
      | false => rfl
def ndCells (d : Nd) : List Value := [.string d.kind, .int .i64 d.many]
def ndsV (l : List Nd) : List Value := l.flatMap ndCells
theorem ndsV_snoc (l : List Nd) (d : Nd) : ndsV (l ++ [d]) = ndsV l ++ ndCells d := by simp [ndsV]
theorem ndsV_at : ∀ (l : List Nd) (k : Nat), k < l.length → (ndsV l)[k * 2]? = some (.string (nd l k).kind) ∧ (ndsV l)[k * 2 + 1]? = some (.int .i64 (nd l k).many) := by
  intro l
  induction l with
  | nil => intro k hk; simp at hk
  | cons d r ih =>
    intro k hk
    cases k with
    | zero => exact ⟨rfl, rfl⟩
    | succ k =>
      have h := ih k (by simpa using hk)
      have e : ndsV (d :: r) = .string d.kind :: .int .i64 d.many :: ndsV r := rfl
      rw [e, show (k + 1) * 2 = k * 2 + 1 + 1 by omega, List.getElem?_cons_succ, List.getElem?_cons_succ, List.getElem?_cons_succ, List.getElem?_cons_succ]
      exact h
theorem needs_of_row {w : World} {base : Nat} {v : Value} {xs : List Nd} (h : w.ownsRow base 115 2 v xs.length (ndsV xs)) : NeedsAt w v xs := by
  obtain ⟨hl, h⟩ := h
  rcases h with ⟨rfl, h0⟩ | ⟨g, cap, cur, rfl, hb, hh, hn, hc, hs, ht⟩
  · exact ⟨none, 0, by rw [h0], by rw [h0]; unfold maxLen; omega, fun h => by omega⟩
  · refine ⟨_, cap, rfl, Nat.le_trans hn hc, fun _ => ⟨g, 0, rfl, (Array.getElem?_eq_some_iff.1 hh).1, fun k hk => ?_⟩⟩
    obtain ⟨h1, h2⟩ := ndsV_at xs k hk
    rw [← ht, List.getElem?_take, if_pos (by omega)] at h1 h2
    rw [Nat.zero_add]
    simp only [World.cell?, hh]
    exact ⟨by simpa using h1, by simpa using h2⟩
theorem needs_apart {K : Nat → Prop} {N : Nat} {A B : World} {v : Value} {xs : List Nd} (h : NeedsAt A v xs) (hv : ∃ a n c, v = .slice a n c ∧ ∀ x, a = some x → N ≤ x.block) (hab : Apart K A B) (hK : ∀ j, K j → j < N) : NeedsAt B v xs := by
  obtain ⟨ao, c, rfl, hc, hr⟩ := h
  obtain ⟨_, _, _, e, hx⟩ := hv
  cases e
  refine ⟨ao, c, rfl, hc, fun h0 => ?_⟩
  obtain ⟨b, o, ha, hlt, hcs⟩ := hr h0
  have hb := hx _ ha
  have hblk := hab.block b hlt (fun e => by have := hK b e; simp at hb; omega)
  exact ⟨b, o, ha, Nat.lt_of_lt_of_le hlt hab.size, fun k hk => ⟨(World.cell?_of_block (a := ⟨b, o + k * 2, none⟩) hblk).trans (hcs k hk).1, (World.cell?_of_block (a := ⟨b, o + k * 2 + 1, none⟩) hblk).trans (hcs k hk).2⟩⟩
/-- What reading a list of needs leaves. -/
def ReadsNeeds (w : World) (l : List UInt8) (e : Ending) (w' : World) : Prop :=
  ∃ v, e = .returned (.tuple #[v, .bool (Sv.listOf Sv.needS l).isSome]) ∧ (∀ xs, Sv.listOf Sv.needS l = some xs → NeedsAt w' v xs) ∧ (∃ a n c, v = .slice a n c ∧ ∀ x, a = some x → w.heap.size ≤ x.block) ∧ Below w.heap.size w w'
theorem infoNeedV : (Tryz.prog.info? 115).map (fun i => (i.zero, i.size, i.bytes)) = some (some (.agg #[.string ByteArray.empty, .int .i64 0]), 2, 24) := by kernel_rfl
theorem new_need (w : World) (d : Nd) (t : TypeId) : ∀ j u, (ndCells d)[j]? = some u → (w.alloc (.cells #[.string d.kind, .int .i64 d.many] t)).cell? ((⟨w.heap.size, 0, none⟩ : Addr).add j) = some u := by
  intro j u hu
  rw [Addr.add_lit, Nat.zero_add]
  match j, hu with
  | 0, hu => simp [ndCells] at hu; subst hu; simp
  | 1, hu => simp [ndCells] at hu; subst hu; simp
  | j + 2, hu => simp [ndCells] at hu
theorem ndCells_one (d : Nd) : ∀ u ∈ ndCells d, u.oneCell' = true := by
  intro u hu
  simp [ndCells] at hu
  rcases hu with rfl | rfl <;> rfl
/-- Where the reading of needs stands. -/
structure RInvN (w A : World) (ps : List (List UInt8)) (k : Nat) (W : World) : Prop where
  le : k ≤ ps.length
  b0 : Boxed W w.heap.size 154 (.func (.func 95) #[] #[])
  b1 : Boxed W (w.heap.size + 1) 54 (.slice none 0 0)
  b2 : Boxed W (w.heap.size + 1 + 1) 4 (.bool false)
  row : ∃ v, Boxed W (w.heap.size + 1 + 1 + 1) 54 v ∧ W.ownsRow (A.heap.size + 2) 115 2 v (ndsTo ps k).length (ndsV (ndsTo ps k))
  below : Below w.heap.size w W
  good : ∀ x ∈ ps.take k, gN x = true
theorem RInvN.apart {w A : World} {ps : List (List UInt8)} {k : Nat} {B C : World} (h : RInvN w A ps k B) (hA : A.heap.size = w.heap.size + 1 + 1 + 1 + 1 + 3) (hab : Apart (fun j => KSp (w.heap.size + 1 + 1 + 1 + 1) j ∨ j = A.heap.size + 1) B C) : RInvN w A ps k C := by
  obtain ⟨h1, h2, h3, h4, ⟨v, h5, h6⟩, h7, h8⟩ := h
  exact ⟨h1, hab.boxed h2 (by unfold KSp; omega), hab.boxed h3 (by unfold KSp; omega), hab.boxed h4 (by unfold KSp; omega), ⟨v, hab.boxed h5 (by unfold KSp; omega), hab.row h6 (fun j hj => by unfold KSp at hj; omega)⟩, hab.below h7 (Nat.le_refl _) (fun j hj => by unfold KSp at hj; omega), h8⟩
set_option maxRecDepth 100000 in
set_option maxHeartbeats 4000000 in
theorem readNeeds_any (s : ByteArray) (w : World) (hs : s.size ≤ 100000) (hm : Mx w) :
    Calls Tryz.prog 94 #[.string s, .func (.func 95) #[] #[]] w (ReadsNeeds w s.data.toList) := by
  have hq := dash_eq s
  obtain ⟨i0, hi, hz0, hz1, hz2⟩ := info_parts infoNeedV
  have hb3 := ((((Below.refl w.heap.size w).alloc (Nat.le_refl _) (.cells #[.func (.func 95) #[] #[]] 154)).alloc (by simp) (.cells #[.slice none 0 0] 54)).alloc (by simp; omega) (.cells #[.bool false] 4))
  by_cases h : s.data.toList = [45]
  · rw [decide_eq_true h] at hq
    have HL : Hid (Sv.listOf Sv.needS s.data.toList = some []) := by unfold Hid Sv.listOf; rw [if_pos h]
    clear hb3
    have hb := ((((Below.refl w.heap.size w).alloc (Nat.le_refl _) (.cells #[.func (.func 95) #[] #[]] 154)).alloc (by simp) (.cells #[.slice none 0 0] 54)).alloc (by simp; omega) (.cells #[.bool true] 4))
    have HB := hideIt hb
    clear hb
    go_enter Tryz.func94, Tryz.ntmps94
    go_wp2_with fail
    (try simp only [Exit.inBlock, Exit.then])
    refine bodyPost_ret (v := .tuple #[.slice none 0 0, .bool true]) ?_ rfl ⟨.slice none 0 0, by rw [HL.out]; rfl, fun xs hx => ?_, ⟨_, _, _, rfl, fun x hx => by cases hx⟩, HB.out⟩
    · rw [results_cc rfl]
      go_simp
    · rw [HL.out] at hx
      cases hx
      exact ⟨none, 0, rfl, by simp, fun h => by simp at h⟩
  · rw [decide_eq_false h] at hq
    have HB3 := hideIt hb3
    clear hb3
    have x3 := ((Boxed.new w 154 (.func (.func 95) #[] #[])).alloc (.cells #[.slice none 0 0] 54)).alloc (.cells #[.bool false] 4) |>.alloc (.cells #[.slice none 0 0] 54)
    have x4 := ((Boxed.new (w.alloc (.cells #[.func (.func 95) #[] #[]] 154)) 54 (.slice none 0 0)).alloc (.cells #[.bool false] 4)).alloc (.cells #[.slice none 0 0] 54)
    have x5 := (Boxed.new ((w.alloc (.cells #[.func (.func 95) #[] #[]] 154)).alloc (.cells #[.slice none 0 0] 54)) 4 (.bool false)).alloc (.cells #[.slice none 0 0] 54)
    have x6 := Boxed.new (((w.alloc (.cells #[.func (.func 95) #[] #[]] 154)).alloc (.cells #[.slice none 0 0] 54)).alloc (.cells #[.bool false] 4)) 54 (.slice none 0 0)
    simp only [World.size_alloc] at x4 x5 x6
    have HB4 := hideIt (HB3.out.alloc (by simp; omega) (.cells #[.slice none 0 0] 54))
    have hsz : ((((w.alloc (.cells #[.func (.func 95) #[] #[]] 154)).alloc (.cells #[.slice none 0 0] 54)).alloc (.cells #[.bool false] 4)).alloc (.cells #[.slice none 0 0] 54)).heap.size = w.heap.size + 1 + 1 + 1 + 1 := by simp
    have X3 := hideIt x3
    have X4 := hideIt x4
    have X5 := hideIt x5
    have X6 := hideIt x6
    clear x3 x4 x5 x6 HB3
    refine (callsIn_wide (n := 3)).1 ?_
    refine callsIn_of_wp_marks Tryz.func94 rfl trivial ?_ rfl
    simp only [Tryz.ntmps94, List.size_toArray, List.length_cons, List.length_nil, Nat.reduceAdd, Nat.reduceSub, Array.replicate_succ, Array.replicate_zero, List.push_toArray, List.append_toArray, List.nil_append, List.cons_append]
    gi_wp2_with fail
    generalize (((w.alloc (.cells #[.func (.func 95) #[] #[]] 154)).alloc (.cells #[.slice none 0 0] 54)).alloc (.cells #[.bool false] 4)).alloc (.cells #[.slice none 0 0] 54) = V at *
    refine ⟨trivial, (callsIn_wide.2 (splitSeq_new s 44 V)).mono ?_⟩
    rintro e A ⟨rfl, hspb, hbA, hszA⟩
    have HBA := hideIt (HB4.out.trans (hbA.mono HB4.out.size))
    have XA3 := hideIt (show Boxed A _ _ _ from (hbA.block _ X3.out.lt).trans X3.out)
    have XA4 := hideIt (show Boxed A _ _ _ from (hbA.block _ X4.out.lt).trans X4.out)
    have XA5 := hideIt (show Boxed A _ _ _ from (hbA.block _ X5.out.lt).trans X5.out)
    have XA6 := hideIt (show Boxed A _ _ _ from (hbA.block _ X6.out.lt).trans X6.out)
    have hseq := splitSeq_iter 2 (by omega) V.heap.size 44 s.data.toList A hspb (by simp; omega)
    rw [hsz] at hszA hseq ⊢
    clear hbA X3 X4 X5 X6 HB4 hspb hsz
    gi_wp2_with fail
    have HL : Hid (Sv.listOf Sv.needS s.data.toList = Sv.allOf Sv.needS (splitC 44 s.data.toList)) := by unfold Hid Sv.listOf; rw [if_neg h]
    have HSP := hideIt (S1.splitC_mem 44 s.data.toList)
    have HSL := hideIt (S1.splitC_len 44 s.data.toList)
    have hdl : s.data.toList.length = s.size := by simp
    generalize hgl : s.data.toList = sl at *
    generalize hps : splitC 44 sl = ps at *
    have HTS : Hid (∀ k, (hk : k < ps.length) → ∃ hk' : k < (spTs 44 sl).length, (spTs 44 sl)[k] = #[Value.string ⟨(ps.getD k []).toArray⟩]) := fun k hk => by
      subst hps
      exact ⟨by rw [spTs_len]; exact hk, by rw [spTs_at _ _ _ hk]; simp [hk]⟩
    have HTL : Hid ((spTs 44 sl).length = ps.length) := by unfold Hid; rw [spTs_len, hps]
    have HTZ : Hid (∀ x ∈ spTs 44 sl, x.size = 1) := by
      intro x hx
      obtain ⟨y, _, rfl⟩ := List.mem_map.1 hx
      rfl
    have hb9 := HBA.out.size
    clear hps h hq
    refine wpIn_rangeW rfl (by omega) (gf := 145) rfl trivial (enters_of Tryz.func145 (by kernel_rfl) rfl) (K := KSp (w.heap.size + 1 + 1 + 1 + 1)) (ts := spTs 44 sl) (fun j hj => by unfold KSp at hj; omega) hseq HTZ.out
      (fun k W => RInvN w A ps k W) (fun c W => c = .ret ∧ Boxed W (w.heap.size + 1) 54 (.slice none 0 0) ∧ Boxed W (w.heap.size + 1 + 1) 4 (.bool false) ∧ Below w.heap.size w W ∧ Sv.listOf Sv.needS sl = none)
      (fun k B C hi hab => hi.apart hszA hab) (fun c B C hx hab => ⟨hx.1, hab.boxed hx.2.1 (by unfold KSp; omega), hab.boxed hx.2.2.1 (by unfold KSp; omega), hab.below hx.2.2.2.1 (Nat.le_refl _) (fun j hj => by unfold KSp at hj; omega), hx.2.2.2.2⟩)
      ⟨Nat.zero_le _, XA3.out, XA4.out, XA5.out, ⟨_, XA6.out, World.ownsRow_nil _ _ _ _⟩, HBA.out, by simp⟩
      (fun k => { tmps := #[Value.string s, Value.func (Fn.func 95) #[] #[], undef, Value.pointer (some ⟨w.heap.size, 0, none⟩), Value.pointer (some ⟨w.heap.size + 1, 0, none⟩), Value.pointer (some ⟨w.heap.size + 1 + 1, 0, none⟩), Value.pointer (some ⟨w.heap.size + 1 + 1 + 1, 0, none⟩), Value.string ⟨(ps.getD k []).toArray⟩, undef, undef, Value.string s, Value.bool false, Value.string s, Value.func (Fn.func 145) #[] #[Value.pointer (some ⟨w.heap.size + 1 + 1 + 1 + 1 + 1, 0, none⟩), Value.pointer (some ⟨w.heap.size + 1 + 1 + 1 + 1, 0, none⟩), Value.pointer (some ⟨w.heap.size + 1 + 1 + 1 + 1 + 2, 0, none⟩)], Value.string ⟨(ps.getD k []).toArray⟩, undef, undef, undef, undef, undef, undef, undef, undef, undef, undef, undef, undef, undef], defers := [] }) ?assign ?body ?done ?stop
    case assign =>
      intro l k hk W R hR
      rw [HTL.out] at hk
      obtain ⟨hk', e⟩ := HTS.out k hk
      rw [e]
      clear e
      generalize ps.getD k [] = x at *
      gi_wp2_with fail
      exact hR
    case body =>
      intro l k W hk hWs hI
      rw [HTL.out] at hk
      obtain ⟨h1, hb0, hb1, hb2, ⟨v, hb3, hrow⟩, hbel, hgood⟩ := hI
      have hxm : ps.getD k [] ∈ ps := by simp [hk]
      have hxl := HSP.out _ hxm
      have HTK : Hid (ps.take (k + 1) = ps.take k ++ [ps.getD k []]) := by unfold Hid; rw [List.take_succ_eq_append_getElem hk]; simp [hk]
      have HNX : Hid (ndsTo ps (k + 1) = ndsTo ps k ++ [ndOf (ps.getD k [])]) := by unfold Hid; rw [ndsTo_next hk]; simp [hk]
      have HNL := hideIt (ndsTo_len h1)
      have hsl := HSL.out
      have HBAD : Hid (gN (ps.getD k []) = false → Sv.listOf Sv.needS sl = none) := fun hg => by rw [HL.out]; exact allOfN_bad hxm hg
      generalize ps.getD k [] = x at *
      have hN0 := readNeed_any ⟨x.toArray⟩ W (by show x.length < _; omega) (hm.below hbel)
      rw [show (ByteArray.mk x.toArray).data.toList = x by simp] at hN0
      have HN : Hid (Calls Tryz.prog 95 #[.string ⟨x.toArray⟩] W fun e w' => e = .returned (.tuple #[.agg #[.string (ndOf x).kind, .int .i64 (ndOf x).many], .bool (gN x)]) ∧ Below W.heap.size W w') := hN0
      clear hN0
      have c0 := hb0.cell
      have HB1 := hideIt hb1
      have HB2 := hideIt hb2
      have HB3 := hideIt hb3
      have HB0 := hideIt hb0
      have HROW := hideIt hrow
      have HBEL := hideIt hbel
      have HGOOD := hideIt hgood
      generalize ndOf x = nx at *
      clear hgood hbel hseq HTS HTZ HSP hxm
      rcases two (gN x) with hg | hg
      · rw [hg] at HN
        have hlen : (ndsTo ps k).length + 1 ≤ 200000 := by rw [HNL.out]; omega
        obtain ⟨va, vc, hv⟩ := own_slice hrow
        generalize ndsTo ps k = ns at *
        subst hv
        gi_wp2_with fail
        refine ⟨trivial, (CallsIn.inRound l (callsIn_wide.2 HN.out)).mono ?_⟩
        rintro e w1 ⟨rfl, hbw⟩
        have hapw : Apart (fun _ => False) W (w1.alloc (.cells #[.string nx.kind, .int .i64 nx.many] 115)) := (Apart.of_below hbw).trans (Apart.alloc _ _ _)
        have hr1 := hapw.row hrow (fun _ h => h.elim)
        have hb31 := hapw.boxed hb3 id
        have c3 := hb31.cell
        have hs1 : A.heap.size + 1 < (w1.alloc (.cells #[.string nx.kind, .int .i64 nx.many] 115)).heap.size := Nat.lt_of_lt_of_le hWs hapw.size
        have hx0 : (w1.alloc (.cells #[.string nx.kind, .int .i64 nx.many] 115)).cell? ⟨w1.heap.size, 0, none⟩ = some (.string nx.kind) := by simp
        have hx1 : (w1.alloc (.cells #[.string nx.kind, .int .i64 nx.many] 115)).cell? ⟨w1.heap.size, 1, none⟩ = some (.int .i64 nx.many) := by simp
        clear hbw c0 hb0 hb1 hb2 hb3 hrow
        generalize hV2 : w1.alloc (.cells #[.string nx.kind, .int .i64 nx.many] 115) = V2 at *
        gi_wp2_with (gi_at_builtin; refine wpListIn_append_own_at _ rfl _ _ 54 rfl (A.heap.size + 2) 115 i0 _ 2 24 Tryz.underlying54 hi hz0 hz1 hz2 rfl (by decide) _ _ _ rfl (hr1.alloc _) ⟨_, 0, none⟩ 1 1 (ndCells nx) rfl rfl (new_need _ _ _) (ndCells_one nx) (by unfold maxLen; omega) (by omega) (by simp; omega) ?_; intro v' W2 hown' hgrow' _ _; obtain ⟨na, nc, rfl⟩ := own_slice hown'; have hg2 : (V2.alloc (.cells #[.string nx.kind, .int .i64 nx.many] 115)).grownBy W2 (Value.slice va ns.length vc).ownBlock := hgrow'; clear hgrow'; have hap := (hapw.wide (K' := fun j => A.heap.size + 2 ≤ j) fun _ h => h.elim).trans (row_apart hr1 hg2); have hbx2 := hap.boxed HB3.out (by omega); have c3' := hbx2.cell; have f3' := hbx2.frozen)
        have hab : Apart (fun j => A.heap.size + 2 ≤ j ∨ j = w.heap.size + 1 + 1 + 1) W (W2.setCell ⟨w.heap.size + 1 + 1 + 1, 0, none⟩ (.slice na (ns.length + 1) nc)) := (hap.wide fun _ => .inl).trans (Apart.setCell (.inr rfl) _ _ _)
        refine ⟨fun j hj => hab.block j (by unfold KSp at hj; omega) (by unfold KSp at hj; omega), by omega, hab.boxed HB0.out (by omega), hab.boxed HB1.out (by omega), hab.boxed HB2.out (by omega), ⟨_, hbx2.set _, ?_⟩, hab.below HBEL.out (Nat.le_refl _) (fun j hj => by omega), ?_⟩
        · rw [HNX.out, ndsV_snoc, List.length_append]
          exact (Apart.setCell (K := fun j => j = w.heap.size + 1 + 1 + 1) rfl W2 0 _).row hown' (fun j hj => by omega)
        · rw [HTK.out]
          intro y hy
          rcases List.mem_append.1 hy with hy | hy
          · exact HGOOD.out y hy
          · rw [List.mem_singleton] at hy; rw [hy]; exact hg
      · rw [hg] at HN
        have HNO := hideIt (HBAD.out hg)
        gi_wp2_with fail
        refine ⟨trivial, (CallsIn.inRound l (callsIn_wide.2 HN.out)).mono ?_⟩
        rintro e w1 ⟨rfl, hbw⟩
        have hapw : Apart (fun _ => False) W (w1.alloc (.cells #[.string nx.kind, .int .i64 nx.many] 115)) := (Apart.of_below hbw).trans (Apart.alloc _ _ _)
        have d1 := hapw.boxed hb1 id
        have d2 := hapw.boxed hb2 id
        have f1 := d1.frozen
        have f2 := d2.frozen
        have c1 := d1.cell
        have c2 := d2.cell
        clear hbw c0 hb0 hb1 hb2 hb3 hrow
        generalize hV2 : w1.alloc (.cells #[.string nx.kind, .int .i64 nx.many] 115) = V2 at *
        gi_wp2_with fail
        have hab : Apart (fun j => j = w.heap.size + 1 ∨ j = w.heap.size + 1 + 1) W ((V2.setCell ⟨w.heap.size + 1, 0, none⟩ (.slice none 0 0)).setCell ⟨w.heap.size + 1 + 1, 0, none⟩ (.bool false)) := ((hapw.wide fun _ h => h.elim).trans (Apart.setCell (.inl rfl) _ _ _)).trans (Apart.setCell (.inr rfl) _ _ _)
        exact ⟨fun j hj => hab.block j (by unfold KSp at hj; omega) (by unfold KSp at hj; omega), rfl, (Apart.setCell (K := fun j => j = w.heap.size + 1 + 1) rfl _ 0 _).boxed (d1.set _) (by omega), ((Apart.setCell (K := fun j => j = w.heap.size + 1) rfl _ 0 _).boxed d2 (by omega)).set _, hab.below HBEL.out (Nat.le_refl _) (fun j hj => by omega), HNO.out⟩
    case done =>
      intro W hI hD
      rw [HTL.out] at hI
      obtain ⟨_, hb0, hb1, hb2, ⟨v, hb3, hrow⟩, hbel, hgood⟩ := hI
      have HS : Hid (Sv.listOf Sv.needS sl = some (ndsTo ps ps.length)) := by
        unfold Hid
        rw [List.take_length] at hgood
        rw [HL.out, allOfN_good hgood, ndsTo, List.take_length]
      have HROW := hideIt hrow
      have c3 := hb3.cell
      have c1 := hb1.cell
      have c2 := hb2.cell
      have f1 := hb1.frozen
      have f2 := hb2.frozen
      have HBEL := hideIt hbel
      have HB1 := hideIt hb1
      have HB2 := hideIt hb2
      obtain ⟨va, vc, rfl⟩ := own_slice hrow
      clear hgood hbel hrow hseq HTS HTZ HSP
      generalize ndsTo ps ps.length = ns at *
      gi_wp2_with fail
      have hab : Apart (fun j => j = w.heap.size + 1 ∨ j = w.heap.size + 1 + 1) W ((W.setCell ⟨w.heap.size + 1, 0, none⟩ (.slice va ns.length vc)).setCell ⟨w.heap.size + 1 + 1, 0, none⟩ (.bool true)) := (Apart.setCell (.inl rfl) _ _ _).trans (Apart.setCell (.inr rfl) _ _ _)
      have b1 := (Apart.setCell (K := fun j => j = w.heap.size + 1 + 1) rfl _ 0 (.bool true)).boxed (HB1.out.set (.slice va ns.length vc)) (by omega)
      have b2 := ((Apart.setCell (K := fun j => j = w.heap.size + 1) rfl W 0 (.slice va ns.length vc)).boxed HB2.out (by omega)).set (.bool true)
      have hD5 := (hab.block A.heap.size (Array.getElem?_eq_some_iff.1 hD).1 (by omega)).trans hD
      generalize (W.setCell ⟨w.heap.size + 1, 0, none⟩ (.slice va ns.length vc)).setCell ⟨w.heap.size + 1 + 1, 0, none⟩ (.bool true) = W5 at *
      have hput : Apart (fun j => j = A.heap.size) W5 (W5.putObj A.heap.size (.deferred none)) := Apart.putObj (K := fun j => j = A.heap.size) rfl _ _
      have e1 := (hput.boxed b1 (by omega)).cell
      have e2 := (hput.boxed b2 (by omega)).cell
      have HR5 := hideIt (hput.row (hab.row HROW.out (fun j hj => by omega)) (fun j hj => by omega))
      have HB5 := hideIt (hput.below (hab.below HBEL.out (Nat.le_refl _) (fun j hj => by omega)) (Nat.le_refl _) (fun j hj => by omega))
      refine ⟨by simp, .inl ⟨_, _, rfl, run_takeDeferred hD5, ?_⟩⟩
      refine ⟨.tuple #[.slice va ns.length vc, .bool true], ?_, .slice va ns.length vc, by rw [HS.out]; rfl, fun xs hx => ?_, ⟨_, _, _, rfl, fun x hx => Nat.le_trans (by omega) (row_base HR5.out x hx)⟩, HB5.out⟩
      · generalize W5.putObj A.heap.size (Obj.deferred none) = W6 at *
        rw [results_cc rfl]
        go_simp
      · rw [HS.out] at hx
        cases hx
        exact needs_of_row HR5.out
    case stop =>
      rintro c W ⟨rfl, h4, h5, hb, hn⟩ hD
      have c1 := h4.cell
      have c2 := h5.cell
      have HN := hideIt hn
      have HB := hideIt hb
      clear hn hb hseq HTS HTZ HSP
      gi_wp2_with fail
      have hput : Apart (fun j => j = A.heap.size) W (W.putObj A.heap.size (.deferred none)) := Apart.putObj (K := fun j => j = A.heap.size) rfl _ _
      have e1 := (hput.boxed h4 (by omega)).cell
      have e2 := (hput.boxed h5 (by omega)).cell
      have HB5 := hideIt (hput.below HB.out (Nat.le_refl _) (fun j hj => by omega))
      refine ⟨by simp, .inl ⟨_, _, rfl, run_takeDeferred hD, ?_⟩⟩
      refine ⟨.tuple #[.slice none 0 0, .bool false], ?_, .slice none 0 0, by rw [HN.out]; rfl, fun xs hx => ?_, ⟨_, _, _, rfl, fun x hx => by cases hx⟩, HB5.out⟩
      · generalize W.putObj A.heap.size (Obj.deferred none) = W6 at *
        rw [results_cc rfl]
        go_simp
      · rw [HN.out] at hx; cases hx
end Go.Proofs.YtlljniaobbbjgaaGreatDoor
namespace Go.Proofs.YtlljniaobbbjgaaGreatDoor
open Go.RowKit
open Qos (Nd Ct Pd nd ct pd)
open Sv (Gv Hd gv hd needTxt needsTxt devsTxt setTxt contWs givenWs lineTxt OkN OkC OkG)
open S1 (Tab strs strs_snoc strs_oneCell ownsRow_cells infoStr itoa_any)
theorem cell_allocV {w : World} {a : Addr} {v : Value} (h : w.cell? a = some v) (o : Obj) : (w.alloc o).cell? a = some v :=
  (((Below.refl w.heap.size w).alloc (Nat.le_refl _) o).cell (World.block_lt_of_cell? w _ h)).trans h
theorem below_drewV {B : Nat} {a w : World} (h : Below B a w) : Below B a w.drew := ⟨h.os, h.tape, h.output, h.size, h.block⟩
/-- The table of powers, wherever memory grew since. -/
def TabUp (w : World) : Prop := Tab w ∧ 1 < w.heap.size
theorem TabUp.below {w w' : World} (h : TabUp w) (hb : Below w.heap.size w w') : TabUp w' := ⟨h.1.below hb h.2, Nat.lt_of_lt_of_le h.2 hb.size⟩
theorem itoaV (x : Int) (w : World) (h0 : 0 ≤ x) (h1 : x ≤ 1125899906842624) (ht : TabUp w) : Calls Tryz.prog 56 #[.int .i64 x] w fun e w' => e = .returned (.string ⟨(Sv.dec x).toArray⟩) ∧ Below w.heap.size w w' := itoa_any x w h0 (by omega) ht.1
set_option maxRecDepth 100000 in
set_option maxHeartbeats 2000000 in
theorem needWord_any (d : Nd) (w : World) (h : OkN d) (ht : TabUp w) : Calls Tryz.prog 79 #[.agg #[.string d.kind, .int .i64 d.many]] w fun e w' => e = .returned (.string ⟨(needTxt d).toArray⟩) ∧ Below w.heap.size w w' := by
  have h1 := (Sv.name_size h.1).2
  have h2 := Sv.dec_le d.many (by have := h.2.2; omega)
  have hk : ByteArray.mk d.kind.data.toList.toArray = d.kind := by simp
  have ea := strcat d.kind.data.toList [58]
  have eb := strcat (d.kind.data.toList ++ [58]) (Sv.dec d.many)
  have HE : Hid (needTxt d = d.kind.data.toList ++ [58] ++ Sv.dec d.many) := rfl
  have hm0 := h.2.1
  have hm1 := h.2.2
  have hks : d.kind.size ≤ 8 := Nat.le_trans (Nat.le_of_eq (by simp)) h1
  rw [hk] at ea
  clear hk
  have HT := hideIt ht
  have HB0 := hideIt (below_drewV ((Below.refl w.heap.size w).alloc (Nat.le_refl _) (.cells #[.string d.kind, .int .i64 d.many] 115)))
  generalize needTxt d = S at *
  generalize d.many = m at *
  generalize d.kind = kd at *
  have q1 : ¬ 9223372036854775807 < kd.size + 1 := by omega
  have q2 : ¬ 9223372036854775807 < kd.size + 1 + (Sv.dec m).length := by omega
  clear h ht
  go_enter Tryz.func79, Tryz.ntmps79
  go_wp2_with fail
  have HS0 := hideIt (show w.heap.size < (w.alloc (.cells #[.string kd, .int .i64 m] 115)).drew.heap.size ∧ (w.alloc (.cells #[.string kd, .int .i64 m] 115)).drew.cell? ⟨w.heap.size, 0, none⟩ = some (.string kd) ∧ (w.alloc (.cells #[.string kd, .int .i64 m] 115)).drew.cell? ⟨w.heap.size, 1, none⟩ = some (.int .i64 m) from ⟨by simp, by simp, by simp⟩)
  refine wp_region_held_drew (S := (fun w' => w'.cell? ⟨w.heap.size, 0, none⟩ = some (.string kd) ∧ w'.cell? ⟨w.heap.size, 1, none⟩ = some (.int .i64 m))) (by kernel_rfl) HS0.out.2 (fun hHeld => ?_)
  refine wpAnyH_take (i := 0) (oi := { dst := some 3, op := Op.fieldAddr 115 (Operand.tmp 1) 0, type := 0, pos := "text.go:57", after := #[], guard := none }) (v := ?v1x0) rfl (by kernel_rfl) (by kernel_rfl) (by kernel_rfl) (fun _ _ _ h => h) (Or.inl ⟨by rfl, ?h1x0⟩) (by assumption) ?r1x0
  case h1x0 =>
    intro w' hSw
    (try dsimp only at hSw)
    go_simp
    first | done | with_reducible rfl | rfl
  (try simp only [Act.put, List.setIfInBounds_toArray, List.set_cons_zero, List.set_cons_succ])
  refine wpAnyH_take (i := 1) (oi := { dst := some 4, op := Op.load 9 (Operand.tmp 3), type := 9, pos := "text.go:57", after := #[{ on := 0, ground := Ground.data }], guard := none }) (v := ?v2x1) rfl (by kernel_rfl) (by kernel_rfl) (by kernel_rfl) (fun _ _ _ h => h) (Or.inl ⟨by rfl, ?h2x1⟩) (by assumption) ?r2x1
  case h2x1 =>
    intro w' hSw
    (try dsimp only at hSw)
    go_simp
    first | done | with_reducible rfl | rfl
  (try simp only [Act.put, List.setIfInBounds_toArray, List.set_cons_zero, List.set_cons_succ])
  refine wpAnyH_take (i := 2) (oi := { dst := some 5, op := Op.binOp BinOp.add 9 (Operand.tmp 4) (Operand.const (Value.string { data := #[58] })) 9, type := 9, pos := "text.go:57", after := #[{ on := 1, ground := Ground.data }], guard := none }) (v := ?v3x2) rfl (by kernel_rfl) (by kernel_rfl) (by kernel_rfl) (fun _ _ _ h => h) (Or.inl ⟨by rfl, ?h3x2⟩) (by assumption) ?r3x2
  case h3x2 =>
    intro w' hSw
    (try dsimp only at hSw)
    go_simp
    first | done | with_reducible rfl | rfl
  (try simp only [Act.put, List.setIfInBounds_toArray, List.set_cons_zero, List.set_cons_succ])
  refine wpAnyH_take (i := 3) (oi := { dst := some 6, op := Op.fieldAddr 115 (Operand.tmp 1) 1, type := 0, pos := "text.go:57", after := #[], guard := none }) (v := ?v4x3) rfl (by kernel_rfl) (by kernel_rfl) (by kernel_rfl) (fun _ _ _ h => h) (Or.inl ⟨by rfl, ?h4x3⟩) (by assumption) ?r4x3
  case h4x3 =>
    intro w' hSw
    (try dsimp only at hSw)
    go_simp
    first | done | with_reducible rfl | rfl
  (try simp only [Act.put, List.setIfInBounds_toArray, List.set_cons_zero, List.set_cons_succ])
  refine wpAnyH_take (i := 4) (oi := { dst := some 7, op := Op.load 3 (Operand.tmp 6), type := 3, pos := "text.go:57", after := #[{ on := 3, ground := Ground.data }], guard := none }) (v := ?v5x4) rfl (by kernel_rfl) (by kernel_rfl) (by kernel_rfl) (fun _ _ _ h => h) (Or.inl ⟨by rfl, ?h5x4⟩) (by assumption) ?r5x4
  case h5x4 =>
    intro w' hSw
    (try dsimp only at hSw)
    go_simp
    first | done | with_reducible rfl | rfl
  (try simp only [Act.put, List.setIfInBounds_toArray, List.set_cons_zero, List.set_cons_succ])
  refine wpAnyH_ready (rs := [5]) (by kernel_rfl) (by simp) (AllReadyH.cons rfl (fun K hK => ?_) AllReadyH.nil)
  go_simp
  go_wp2_with fail
  refine (itoaV m _ (by omega) (by omega) (HT.out.below HB0.out)).mono ?_
  rintro e V1 ⟨rfl, hb⟩
  have HBV1 := hideIt (HB0.out.trans (hb.mono HB0.out.size))
  have HSV1 := hideIt (show w.heap.size < V1.heap.size ∧ (fun w' => w'.cell? ⟨w.heap.size, 0, none⟩ = some (.string kd) ∧ w'.cell? ⟨w.heap.size, 1, none⟩ = some (.int .i64 m)) V1 from ⟨Nat.lt_of_lt_of_le HS0.out.1 hb.size, (hb.cell (p := ⟨w.heap.size, 0, none⟩) HS0.out.1).trans HS0.out.2.1, (hb.cell (p := ⟨w.heap.size, 1, none⟩) HS0.out.1).trans HS0.out.2.2⟩)
  clear hb
  go_wp2_with fail
  refine hK.out _ _ HSV1.out.2 (fun hHeld => ?_)
  clear hK K
  refine wpAnyH_take (i := 6) (oi := { dst := some 9, op := Op.binOp BinOp.add 9 (Operand.tmp 5) (Operand.tmp 8) 9, type := 9, pos := "text.go:57", after := #[{ on := 2, ground := Ground.data }, { on := 5, ground := Ground.data }], guard := none }) (v := ?v6x6) rfl (by kernel_rfl) (by kernel_rfl) (by kernel_rfl) (fun _ _ _ h => h) (Or.inl ⟨by rfl, ?h6x6⟩) (by assumption) ?r6x6
  case h6x6 =>
    intro w' hSw
    (try dsimp only at hSw)
    go_simp
    first | done | with_reducible rfl | rfl
  (try simp only [Act.put, List.setIfInBounds_toArray, List.set_cons_zero, List.set_cons_succ])
  refine wpAnyH_take (i := 7) (oi := { dst := some 2, op := Op.assign (Operand.tmp 9), type := 9, pos := "text.go:57", after := #[{ on := 6, ground := Ground.data }, { on := 5, ground := Ground.chain }, { on := 0, ground := Ground.phase }, { on := 1, ground := Ground.phase }, { on := 2, ground := Ground.phase }, { on := 3, ground := Ground.phase }, { on := 4, ground := Ground.phase }, { on := 5, ground := Ground.phase }, { on := 6, ground := Ground.phase }], guard := none }) (v := ?v7x7) rfl (by kernel_rfl) (by kernel_rfl) (by kernel_rfl) (fun _ _ _ h => h) (Or.inl ⟨by rfl, ?h7x7⟩) (by assumption) ?r7x7
  case h7x7 =>
    intro w' hSw
    (try dsimp only at hSw)
    go_simp
    first | done | with_reducible rfl | rfl
  (try simp only [Act.put, List.setIfInBounds_toArray, List.set_cons_zero, List.set_cons_succ])
  refine wpAnyH_done (by kernel_rfl) ?_ _
  go_wp2_with fail
  go_ret
  exact ⟨by rw [HE.out, List.append_assoc]; rfl, HBV1.out⟩
def needsW (xs : List Nd) (k : Nat) : List (List UInt8) := (xs.take k).map needTxt
theorem needsW_next {xs : List Nd} {k : Nat} (h : k < xs.length) : needsW xs (k + 1) = needsW xs k ++ [needTxt (nd xs k)] := by
  unfold needsW
  rw [List.take_succ_eq_append_getElem h, List.map_append]; simp [nd, h]
theorem needsW_len {xs : List Nd} {k : Nat} (h : k ≤ xs.length) : (needsW xs k).length = k := by
  unfold needsW; simp; omega
theorem needsW_all (xs : List Nd) : needsW xs xs.length = xs.map needTxt := by unfold needsW; rw [List.take_length]
set_option maxRecDepth 100000 in
set_option maxHeartbeats 2000000 in
theorem listNeeds_any (v : Value) (xs : List Nd) (w : World) (h : NeedsAt w v xs) (hx : ∀ x ∈ xs, OkN x) (hl : xs.length ≤ 3) (ht : TabUp w) :
    Calls Tryz.prog 78 #[v, .func (.func 79) #[] #[]] w fun e w' => e = .returned (.string ⟨(needsTxt xs).toArray⟩) ∧ Below w.heap.size w w' := by
  obtain ⟨i0, hi, hz0, hz1, hz2⟩ := info_parts infoStr
  obtain ⟨ao, c, rfl, hm, hr⟩ := h
  have HR := hideIt hr
  have HT := hideIt ht
  have HX := hideIt hx
  clear hr ht hx
  unfold maxLen at hm
  have HJ : Hid (∀ (v : Value) (w1 : World), w1.ownsRow w.heap.size 9 1 v (needsW xs xs.length).length (strs (needsW xs xs.length)) → Calls Tryz.prog 76 #[v, .string ⟨#[44]⟩] w1 fun e w' => e = .returned (.string ⟨(Lib.join (needsW xs xs.length) [44]).toArray⟩) ∧ Below w1.heap.size w1 w') := by
    intro v w1 h
    refine join_any 44 v _ w1 _ h (by rw [needsW_len (Nat.le_refl _)]; omega) ?_
    refine Nat.le_trans (Sv.join_le 44 29 _ fun x hx => ?_) (by rw [needsW_len (Nat.le_refl _)]; omega)
    rw [needsW_all] at hx
    obtain ⟨d, hd, rfl⟩ := List.mem_map.1 hx
    exact Sv.needTxt_le (HX.out d hd)
  have HD : Hid (Sv.orNo (Lib.join (needsW xs xs.length) [44]) = needsTxt xs) := by unfold Hid needsTxt; rw [needsW_all]
  go_enter Tryz.func78, Tryz.ntmps78
  go_wp2_with fail
  go_loopw [5, 10] (fun r i wr => ∃ k : Nat, k ≤ xs.length ∧ i = .int .i64 k ∧ wr.ownsRow w.heap.size 9 1 r (needsW xs k).length (strs (needsW xs k)) ∧ Below w.heap.size w wr) (fun _ i _ => xs.length - (intOf i).toNat)
  case atStart => exact ⟨0, by omega, rfl, World.ownsRow_nil _ _ _ _, Below.refl _ _⟩
  case round =>
    obtain ⟨k, hk, rfl, hrow, hB⟩ := hrel
    by_cases hlt : k < xs.length
    · obtain ⟨b, o, rfl, hb, hc⟩ := HR.out (by omega)
      obtain ⟨d0, d1⟩ := hc k hlt
      have c0 := (hB.cell (p := ⟨b, o + k * 2, none⟩) hb).trans d0
      have c1 := (hB.cell (p := ⟨b, o + k * 2 + 1, none⟩) hb).trans d1
      have HS := hideIt (needsW_next hlt)
      have hle := needsW_len hk
      have hxk := HX.out (nd xs k) (by simp [nd, hlt])
      have hsz := hB.size
      have HBa := hideIt (hB.alloc hB.size (.cells #[.string (nd xs k).kind, .int .i64 (nd xs k).many] 115))
      have HI := hideIt (needWord_any (nd xs k) _ hxk (HT.out.below HBa.out))
      have hrowa := hrow.alloc (.cells #[.string (nd xs k).kind, .int .i64 (nd xs k).many] 115)
      clear hc d0 d1 hxk
      generalize needTxt (nd xs k) = T at *
      generalize (nd xs k).kind = kd at *
      generalize (nd xs k).many = m at *
      go_wp2_with fail
      refine HI.out.mono ?_
      rintro e w1 ⟨rfl, hb1⟩
      have HB1 := hideIt (HBa.out.trans (hb1.mono HBa.out.size))
      have hrow1 := row_belowV hrowa hb1
      have hsz1 := HB1.out.size
      clear hb1
      go_wp2_with (at_builtin; refine wpList_append_own _ rfl _ _ 41 rfl w.heap.size 9 i0 (.string ⟨#[]⟩) 1 16 Tryz.underlying41 hi hz0 hz1 hz2 rfl (by decide) _ _ _ rfl (hrow1.alloc _) ⟨_, 0, none⟩ 1 1 [.string ⟨T.toArray⟩] rfl rfl (cell_one_new _ _ _) (strs_oneCell [T]) (by unfold maxLen; omega) (by omega) (by simp; omega) ?_; intro v' w2 hown' hgrow' _)
      go_roundw
      case rel =>
        refine ⟨k + 1, by omega, by go_num, ?_, ?_⟩
        · rw [HS.out, strs_snoc, List.length_append]; exact hown'
        · exact (HB1.out.alloc HB1.out.size _).grown hgrow' (by simp; omega) (fun j hj => (hrow1.lt j hj).1)
      case measure => simp [intOf]; omega
    · have hke : k = xs.length := by omega
      subst hke
      go_wp2_with fail
      refine (HJ.out _ _ hrow).mono ?_
      rintro e w1 ⟨rfl, hb1⟩
      have hB1 := hB.trans (hb1.mono hB.size)
      go_wp2_with fail
      refine (orNothing_any _ _).mono ?_
      rintro e w2 ⟨rfl, rfl⟩
      go_wp2_with fail
      go_ret
      exact ⟨by rw [← HD.out]; rfl, hB1⟩
/-- Words in memory of the call's own. -/
def WordsAt (base : Nat) (w : World) (v : Value) (ws : List (List UInt8)) : Prop := w.ownsRow base 9 1 v ws.length (strs ws)
theorem words_made (ws : List (List UInt8)) (w : World) (base : Nat) (hb : base ≤ w.heap.size) (hl : ws.length ≤ 1000) : WordsAt base (w.alloc (.cells (strs ws).toArray 9)) (.slice (some ⟨w.heap.size, 0, none⟩) ws.length ws.length) ws := by
  have h := World.ownsRow_made (base := base) (e := 9) (size := 1) w (strs ws).toArray ws.length hb (by unfold maxLen; omega) (by simp [strs])
  refine ⟨by simp [strs], .inr ⟨w.heap.size, ws.length, _, rfl, hb, heap_alloc_new w _, Nat.le_refl _, by unfold maxLen; omega, by simp [strs], ?_⟩⟩
  rw [Nat.mul_one, List.take_of_length_le (by simp [strs])]
set_option maxRecDepth 100000 in
set_option maxHeartbeats 2000000 in
theorem givenWords_any (g : Gv) (dv : Value) (w : World) (hd : IntsOf w dv g.dv) (hg : OkG g) (ht : TabUp w) :
    Calls Tryz.prog 30 #[.agg #[.int .u64 g.cp, dv]] w fun e w' => ∃ v, e = .returned v ∧ WordsAt w.heap.size w' v (givenWs g) ∧ Below w.heap.size w w' := by
  have HT := hideIt ht
  have HB0 := hideIt (below_drewV ((Below.refl w.heap.size w).alloc (Nat.le_refl _) (.cells #[.int .u64 g.cp, dv] 64)))
  have HD := hideIt (fun W (hb : Below w.heap.size w W) => listInts_any dv g.dv W (hd.below hb) hg.2.2 hg.2.1 (HT.out.below hb).1 (HT.out.below hb).2)
  have HX := hideIt (fun W => S1.text_any g.cp W hg.1)
  have HE : Hid (givenWs g = [Sv.orNo (Ost.txt g.cp), devsTxt g.dv]) := rfl
  obtain ⟨da, dc, rfl⟩ := hd.slice
  clear hd hg ht
  generalize devsTxt g.dv = D at *
  generalize g.dv.length = dn at *
  generalize Ost.txt g.cp = X at *
  generalize givenWs g = GW at *
  generalize g.cp = cp at *
  go_enter Tryz.func30, Tryz.ntmps30
  go_wp2_with fail
  have HS0 := hideIt (show w.heap.size < (w.alloc (.cells #[.int .u64 cp, .slice da dn dc] 64)).drew.heap.size ∧ (w.alloc (.cells #[.int .u64 cp, .slice da dn dc] 64)).drew.cell? ⟨w.heap.size, 0, none⟩ = some (.int .u64 cp) ∧ (w.alloc (.cells #[.int .u64 cp, .slice da dn dc] 64)).drew.cell? ⟨w.heap.size, 1, none⟩ = some (.slice da dn dc) from ⟨by simp, by simp, by simp⟩)
  refine wp_region_held_drew (S := (fun w' => w'.cell? ⟨w.heap.size, 0, none⟩ = some (.int .u64 cp) ∧ w'.cell? ⟨w.heap.size, 1, none⟩ = some (.slice da dn dc))) (by kernel_rfl) HS0.out.2 (fun hHeld => ?_)
  refine wpAnyH_take (i := 0) (oi := { dst := some 3, op := Op.fieldAddr 64 (Operand.tmp 1) 0, type := 0, pos := "text.go:63", after := #[], guard := none }) (v := ?v8x0) rfl (by kernel_rfl) (by kernel_rfl) (by kernel_rfl) (fun _ _ _ h => h) (Or.inl ⟨by rfl, ?h8x0⟩) (by assumption) ?r8x0
  case h8x0 =>
    intro w' hSw
    (try dsimp only at hSw)
    go_simp
    first | done | with_reducible rfl | rfl
  (try simp only [Act.put, List.setIfInBounds_toArray, List.set_cons_zero, List.set_cons_succ])
  refine wpAnyH_take (i := 1) (oi := { dst := some 4, op := Op.load 61 (Operand.tmp 3), type := 61, pos := "text.go:63", after := #[{ on := 0, ground := Ground.data }], guard := none }) (v := ?v9x1) rfl (by kernel_rfl) (by kernel_rfl) (by kernel_rfl) (fun _ _ _ h => h) (Or.inl ⟨by rfl, ?h9x1⟩) (by assumption) ?r9x1
  case h9x1 =>
    intro w' hSw
    (try dsimp only at hSw)
    go_simp
    first | done | with_reducible rfl | rfl
  (try simp only [Act.put, List.setIfInBounds_toArray, List.set_cons_zero, List.set_cons_succ])
  refine wpAnyH_take (i := 4) (oi := { dst := some 7, op := Op.fieldAddr 64 (Operand.tmp 1) 1, type := 0, pos := "text.go:63", after := #[], guard := none }) (v := ?v10x4) rfl (by kernel_rfl) (by kernel_rfl) (by kernel_rfl) (fun _ _ _ h => h) (Or.inl ⟨by rfl, ?h10x4⟩) (by assumption) ?r10x4
  case h10x4 =>
    intro w' hSw
    (try dsimp only at hSw)
    go_simp
    first | done | with_reducible rfl | rfl
  (try simp only [Act.put, List.setIfInBounds_toArray, List.set_cons_zero, List.set_cons_succ])
  refine wpAnyH_take (i := 5) (oi := { dst := some 8, op := Op.load 62 (Operand.tmp 7), type := 62, pos := "text.go:63", after := #[{ on := 4, ground := Ground.data }], guard := none }) (v := ?v11x5) rfl (by kernel_rfl) (by kernel_rfl) (by kernel_rfl) (fun _ _ _ h => h) (Or.inl ⟨by rfl, ?h11x5⟩) (by assumption) ?r11x5
  case h11x5 =>
    intro w' hSw
    (try dsimp only at hSw)
    go_simp
    first | done | with_reducible rfl | rfl
  (try simp only [Act.put, List.setIfInBounds_toArray, List.set_cons_zero, List.set_cons_succ])
  refine wpAnyH_ready (rs := [2]) (by kernel_rfl) (by simp) (AllReadyH.cons rfl (fun K hK => ?_) AllReadyH.nil)
  go_simp
  go_wp2_with fail
  refine (HX.out _).mono ?_
  rintro e V1 ⟨rfl, hb⟩
  have HBV1 := hideIt (HB0.out.trans (hb.mono HB0.out.size))
  have HSV1 := hideIt (show w.heap.size < V1.heap.size ∧ (fun w' => w'.cell? ⟨w.heap.size, 0, none⟩ = some (.int .u64 cp) ∧ w'.cell? ⟨w.heap.size, 1, none⟩ = some (.slice da dn dc)) V1 from ⟨Nat.lt_of_lt_of_le HS0.out.1 hb.size, (hb.cell (p := ⟨w.heap.size, 0, none⟩) HS0.out.1).trans HS0.out.2.1, (hb.cell (p := ⟨w.heap.size, 1, none⟩) HS0.out.1).trans HS0.out.2.2⟩)
  clear hb
  go_wp2_with fail
  refine hK.out _ _ HSV1.out.2 (fun hHeld => ?_)
  clear hK K
  refine wpAnyH_ready (rs := [3]) (by kernel_rfl) (by simp) (AllReadyH.cons rfl (fun K hK => ?_) AllReadyH.nil)
  go_simp
  go_wp2_with fail
  refine (orNothing_any _ _).mono ?_
  rintro e V2 ⟨rfl, hVe⟩
  subst hVe
  have HBV2 := HBV1
  have HSV2 := HSV1
  go_wp2_with fail
  refine hK.out _ _ HSV2.out.2 (fun hHeld => ?_)
  clear hK K
  refine wpAnyH_ready (rs := [6]) (by kernel_rfl) (by simp) (AllReadyH.cons rfl (fun K hK => ?_) AllReadyH.nil)
  go_simp
  go_wp2_with fail
  refine (HD.out _ HBV2.out).mono ?_
  rintro e V3 ⟨rfl, hb⟩
  have HBV3 := hideIt (HBV2.out.trans (hb.mono HBV2.out.size))
  have HSV3 := hideIt (show w.heap.size < V3.heap.size ∧ (fun w' => w'.cell? ⟨w.heap.size, 0, none⟩ = some (.int .u64 cp) ∧ w'.cell? ⟨w.heap.size, 1, none⟩ = some (.slice da dn dc)) V3 from ⟨Nat.lt_of_lt_of_le HSV2.out.1 hb.size, (hb.cell (p := ⟨w.heap.size, 0, none⟩) HSV2.out.1).trans HSV2.out.2.1, (hb.cell (p := ⟨w.heap.size, 1, none⟩) HSV2.out.1).trans HSV2.out.2.2⟩)
  clear hb
  go_wp2_with fail
  refine hK.out _ _ HSV3.out.2 (fun hHeld => ?_)
  clear hK K
  refine wpAnyH_ready (rs := [7]) (by kernel_rfl) (by simp) (AllReadyH.cons rfl (fun K hK => ?_) AllReadyH.nil)
  go_simp
  go_wp2_with fail
  have HBV4 := hideIt (HBV3.out.alloc HBV3.out.size (.cells #[.string ⟨(Sv.orNo X).toArray⟩, .string ⟨D.toArray⟩] 9))
  have HSV4 := hideIt (show w.heap.size < (V3.alloc (.cells #[.string ⟨(Sv.orNo X).toArray⟩, .string ⟨D.toArray⟩] 9)).heap.size ∧ (fun w' => w'.cell? ⟨w.heap.size, 0, none⟩ = some (.int .u64 cp) ∧ w'.cell? ⟨w.heap.size, 1, none⟩ = some (.slice da dn dc)) (V3.alloc (.cells #[.string ⟨(Sv.orNo X).toArray⟩, .string ⟨D.toArray⟩] 9)) from ⟨Nat.lt_of_lt_of_le HSV3.out.1 (by simp), cell_allocV HSV3.out.2.1 (.cells #[.string ⟨(Sv.orNo X).toArray⟩, .string ⟨D.toArray⟩] 9), cell_allocV HSV3.out.2.2 (.cells #[.string ⟨(Sv.orNo X).toArray⟩, .string ⟨D.toArray⟩] 9)⟩)
  refine hK.out _ _ HSV4.out.2 (fun hHeld => ?_)
  clear hK K
  refine wpAnyH_take (i := 8) (oi := { dst := some 2, op := Op.assign (Operand.tmp 10), type := 41, pos := "text.go:63", after := #[{ on := 7, ground := Ground.data }, { on := 6, ground := Ground.chain }, { on := 0, ground := Ground.phase }, { on := 1, ground := Ground.phase }, { on := 2, ground := Ground.phase }, { on := 3, ground := Ground.phase }, { on := 4, ground := Ground.phase }, { on := 5, ground := Ground.phase }, { on := 6, ground := Ground.phase }, { on := 7, ground := Ground.phase }], guard := none }) (v := ?v12x8) rfl (by kernel_rfl) (by kernel_rfl) (by kernel_rfl) (fun _ _ _ h => h) (Or.inl ⟨by rfl, ?h12x8⟩) (by assumption) ?r12x8
  case h12x8 =>
    intro w' hSw
    (try dsimp only at hSw)
    go_simp
    first | done | with_reducible rfl | rfl
  (try simp only [Act.put, List.setIfInBounds_toArray, List.set_cons_zero, List.set_cons_succ])
  refine wpAnyH_done (by kernel_rfl) ?_ _
  go_wp2_with fail
  go_ret
  refine ⟨_, rfl, ?_, HBV4.out⟩
  rw [HE.out]
  exact words_made [Sv.orNo X, D] V3 w.heap.size HBV3.out.size (by simp)
end Go.Proofs.YtlljniaobbbjgaaGreatDoor
namespace Go.Proofs.YtlljniaobbbjgaaGreatDoor
open Go.ChangeShapes Go.WideShapes Go.ChangeAt Go.RowKit
open S1 (Tab Mx gTab)
theorem ownV : ownKnob Tryz.prog.godebug = none := by kernel_rfl
theorem laidOutV : laidOutB Tryz.prog = true := by kernel_rfl
theorem gTabTypeV : (Tryz.prog.globals[1]?).map (·.type) = some 184 := by kernel_rfl
theorem cells20V : Tryz.prog.cellsOf 184 = 20 := by kernel_rfl
theorem cells64V : Tryz.prog.cellsOf 60 = 1 := by kernel_rfl
theorem powDataV : (Rows.laid_internal_strconv_uint64pow10 : DataW Unit) = Lib.tabData .u64 Lib.pow10Tab := by kernel_rfl
def tab32 : Array Value := #[.int .u8 0, .int .u8 1, .int .u8 28, .int .u8 2, .int .u8 29, .int .u8 14, .int .u8 24, .int .u8 3, .int .u8 30, .int .u8 22, .int .u8 20, .int .u8 15, .int .u8 25, .int .u8 17, .int .u8 4, .int .u8 8, .int .u8 31, .int .u8 27, .int .u8 13, .int .u8 23, .int .u8 21, .int .u8 19, .int .u8 16, .int .u8 7, .int .u8 26, .int .u8 12, .int .u8 18, .int .u8 6, .int .u8 11, .int .u8 5, .int .u8 10, .int .u8 9]
def tab64 : Array Value := #[.int .u8 0, .int .u8 1, .int .u8 56, .int .u8 2, .int .u8 57, .int .u8 49, .int .u8 28, .int .u8 3, .int .u8 61, .int .u8 58, .int .u8 42, .int .u8 50, .int .u8 38, .int .u8 29, .int .u8 17, .int .u8 4, .int .u8 62, .int .u8 47, .int .u8 59, .int .u8 36, .int .u8 45, .int .u8 43, .int .u8 51, .int .u8 22, .int .u8 53, .int .u8 39, .int .u8 33, .int .u8 30, .int .u8 24, .int .u8 18, .int .u8 12, .int .u8 5, .int .u8 63, .int .u8 55, .int .u8 48, .int .u8 27, .int .u8 60, .int .u8 41, .int .u8 37, .int .u8 16, .int .u8 46, .int .u8 35, .int .u8 44, .int .u8 21, .int .u8 52, .int .u8 32, .int .u8 23, .int .u8 11, .int .u8 54, .int .u8 26, .int .u8 40, .int .u8 15, .int .u8 34, .int .u8 20, .int .u8 31, .int .u8 10, .int .u8 25, .int .u8 14, .int .u8 19, .int .u8 9, .int .u8 13, .int .u8 8, .int .u8 7, .int .u8 6]
def tabAccept : Array Value := #[.int .u8 128, .int .u8 191, .int .u8 160, .int .u8 191, .int .u8 128, .int .u8 159, .int .u8 144, .int .u8 191, .int .u8 128, .int .u8 143, .int .u8 0, .int .u8 0, .int .u8 0, .int .u8 0, .int .u8 0, .int .u8 0, .int .u8 0, .int .u8 0, .int .u8 0, .int .u8 0, .int .u8 0, .int .u8 0, .int .u8 0, .int .u8 0, .int .u8 0, .int .u8 0, .int .u8 0, .int .u8 0, .int .u8 0, .int .u8 0, .int .u8 0, .int .u8 0]
theorem mxV {W : World} (hsh : W.ShapedOpen Tryz.prog) : Mx W := Tryz.laysM219.s1_3 W hsh
theorem tabUpV {W : World} {rest : List (String × DataW Unit)} (h : laidMet Tryz.prog (("math/bits.deBruijn32tab", Rows.laid_math_bits_deBruijn32tab) :: ("math/bits.deBruijn64tab", Rows.laid_math_bits_deBruijn64tab) :: ("internal/strconv.uint64pow10", Rows.laid_internal_strconv_uint64pow10) :: rest) W) : TabUp W := by
  have h2 := laidMet.tail (laidMet.tail h)
  rw [powDataV] at h2
  have ht : Tab W := Lib.tabIs_of_head gTab gTabTypeV Tryz.underlying184 Tryz.underlying60 cells64V cells20V h2
  exact ⟨ht, World.block_lt_of_cell? W ⟨1, 0, none⟩ (ht.cell gTab 0 (by decide))⟩
/-- A world for the witness: the tables hold what their initialisers lay. -/
noncomputable def setWorld (os : Os) : World :=
  { World.holding Tryz.prog os ⟨#[], #[], []⟩ with heap := ((((((World.holding Tryz.prog os ⟨#[], #[], []⟩).heap.modify 1 fun
      | .cells _ t frozen => .cells (Lib.pow10Tab.map (Value.int .u64)).toArray t frozen
      | o => o).modify 2 fun
      | .cells _ t frozen => .cells tab32 t frozen
      | o => o).modify 3 fun
      | .cells _ t frozen => .cells tab64 t frozen
      | o => o).modify 5 fun
      | .cells _ t frozen => .cells tabAccept t frozen
      | o => o).modify 4 fun
      | .cells _ t frozen => .cells (Go.Pinned.utf8FirstZ.map fun (n : Nat) => Value.int .u8 (n : Int)).toArray t frozen
      | o => o) }
end Go.Proofs.YtlljniaobbbjgaaGreatDoor
namespace Go.Proofs.YtlljniaobbbjgaaGreatDoor
open Go.RowKit
open Qos (Nd Ct Pd nd ct pd)
open Sv (Gv Hd gv hd)
theorem flat_at {α : Type} (f : α → List Value) (n : Nat) (hf : ∀ x, (f x).length = n) : ∀ (l : List α) (k j : Nat) (hk : k < l.length), j < n → (l.flatMap f)[k * n + j]? = (f l[k])[j]? := by
  intro l
  induction l with
  | nil => intro k j hk; simp at hk
  | cons x r ih =>
    intro k j hk hj
    cases k with
    | zero =>
      rw [List.flatMap_cons, Nat.zero_mul, Nat.zero_add, List.getElem?_append_left (by rw [hf]; exact hj)]
      rfl
    | succ k =>
      rw [List.flatMap_cons, List.getElem?_append_right (by rw [hf, Nat.add_mul]; omega), hf, show (k + 1) * n + j - n = k * n + j by rw [Nat.add_mul]; omega, ih k j (by simpa using hk) hj]
      rfl
theorem row_form {W : World} {base : Nat} {e : TypeId} {size : Nat} {v : Value} {n : Nat} {xs : List Value} (h : W.ownsRow base e size v n xs) (h0 : 0 < n) : ∃ g cap, v = .slice (some ⟨g, 0, none⟩) n cap ∧ n ≤ cap ∧ cap ≤ maxLen ∧ g < W.heap.size ∧ base ≤ g ∧ ∀ i, i < n * size → W.cell? ⟨g, i, none⟩ = xs[i]? := by
  obtain ⟨hl, h⟩ := h
  rcases h with ⟨_, h1⟩ | ⟨g, cap, cur, rfl, hb, hh, hn, hc, hs, ht⟩
  · omega
  · refine ⟨g, cap, rfl, hn, hc, (Array.getElem?_eq_some_iff.1 hh).1, hb, fun i hi => ?_⟩
    rw [← ht, List.getElem?_take, if_pos hi]
    simp only [World.cell?, hh]
    simp
theorem row_cap {W : World} {base : Nat} {e : TypeId} {size : Nat} {v : Value} {n : Nat} {xs : List Value} (h : W.ownsRow base e size v n xs) : ∃ ao c, v = .slice ao n c ∧ n ≤ c ∧ c ≤ maxLen := by
  rcases h.2 with ⟨rfl, rfl⟩ | ⟨g, cap, cur, rfl, hb, hh, hn, hc, _⟩
  · exact ⟨none, 0, rfl, Nat.le_refl _, by unfold maxLen; omega⟩
  · exact ⟨_, cap, rfl, hn, hc⟩
/-- Lists that are read, in blocks that Q names. -/
def NeedsQ (W : World) (Q : Nat → Prop) (v : Value) (ds : List Nd) : Prop :=
  ∃ ao c, v = .slice ao ds.length c ∧ ds.length ≤ maxLen ∧ (0 < ds.length → ∃ b o, ao = some ⟨b, o, none⟩ ∧ Q b ∧ b < W.heap.size ∧ ∀ k, k < ds.length → W.cell? ⟨b, o + k * 2, none⟩ = some (.string (nd ds k).kind) ∧ W.cell? ⟨b, o + k * 2 + 1, none⟩ = some (.int .i64 (nd ds k).many))
def IntsQ (W : World) (Q : Nat → Prop) (v : Value) (xs : List Int) : Prop :=
  ∃ ao c, v = .slice ao xs.length c ∧ (xs.length ≤ c ∧ c ≤ maxLen) ∧ (0 < xs.length → ∃ b o, ao = some ⟨b, o, none⟩ ∧ Q b ∧ b < W.heap.size ∧ ∀ k, k < xs.length → W.cell? ⟨b, o + k, none⟩ = some (.int .i64 (xs.getD k 0)))
theorem NeedsQ.plain {W : World} {Q : Nat → Prop} {v : Value} {ds : List Nd} (h : NeedsQ W Q v ds) : NeedsAt W v ds := by
  obtain ⟨ao, c, hv, hc, hr⟩ := h
  refine ⟨ao, c, hv, hc, fun h0 => ?_⟩
  obtain ⟨b, o, ha, _, hlt, hcs⟩ := hr h0
  exact ⟨b, o, ha, hlt, hcs⟩
theorem IntsQ.plain {W : World} {Q : Nat → Prop} {v : Value} {xs : List Int} (h : IntsQ W Q v xs) : IntsOf W v xs := by
  obtain ⟨ao, c, hv, hc, hr⟩ := h
  refine ⟨ao, c, hv, hc, fun h0 => ?_⟩
  obtain ⟨b, o, ha, _, hlt, hcs⟩ := hr h0
  exact ⟨b, o, ha, hlt, hcs⟩
theorem NeedsQ.of {W : World} {Q : Nat → Prop} {N : Nat} {v : Value} {ds : List Nd} (h : NeedsAt W v ds) (hv : ∃ a n c, v = .slice a n c ∧ ∀ x : Addr, a = some x → N ≤ x.block) (hQ : ∀ b, N ≤ b → b < W.heap.size → Q b) : NeedsQ W Q v ds := by
  obtain ⟨ao, c, rfl, hc, hr⟩ := h
  obtain ⟨_, _, _, e, hx⟩ := hv
  cases e
  refine ⟨ao, c, rfl, hc, fun h0 => ?_⟩
  obtain ⟨b, o, ha, hlt, hcs⟩ := hr h0
  exact ⟨b, o, ha, hQ b (hx _ ha) hlt, hlt, hcs⟩
theorem IntsQ.of {W : World} {Q : Nat → Prop} {N : Nat} {v : Value} {xs : List Int} (h : IntsOf W v xs) (hv : ∃ a n c, v = .slice a n c ∧ ∀ x : Addr, a = some x → N ≤ x.block) (hQ : ∀ b, N ≤ b → b < W.heap.size → Q b) : IntsQ W Q v xs := by
  obtain ⟨ao, c, rfl, hc, hr⟩ := h
  obtain ⟨_, _, _, e, hx⟩ := hv
  cases e
  refine ⟨ao, c, rfl, hc, fun h0 => ?_⟩
  obtain ⟨b, o, ha, hlt, hcs⟩ := hr h0
  exact ⟨b, o, ha, hQ b (hx _ ha) hlt, hlt, hcs⟩
theorem NeedsQ.apart {K Q Q' : Nat → Prop} {A B : World} {v : Value} {ds : List Nd} (h : NeedsQ A Q v ds) (hab : Apart K A B) (hK : ∀ j, Q j → ¬ K j) (hQ : ∀ j, j < A.heap.size → Q j → Q' j) : NeedsQ B Q' v ds := by
  obtain ⟨ao, c, hv, hc, hr⟩ := h
  refine ⟨ao, c, hv, hc, fun h0 => ?_⟩
  obtain ⟨b, o, ha, hb, hlt, hcs⟩ := hr h0
  have hblk := hab.block b hlt (hK b hb)
  exact ⟨b, o, ha, hQ b hlt hb, Nat.lt_of_lt_of_le hlt hab.size, fun k hk => ⟨(World.cell?_of_block (a := ⟨b, o + k * 2, none⟩) hblk).trans (hcs k hk).1, (World.cell?_of_block (a := ⟨b, o + k * 2 + 1, none⟩) hblk).trans (hcs k hk).2⟩⟩
theorem IntsQ.apart {K Q Q' : Nat → Prop} {A B : World} {v : Value} {xs : List Int} (h : IntsQ A Q v xs) (hab : Apart K A B) (hK : ∀ j, Q j → ¬ K j) (hQ : ∀ j, j < A.heap.size → Q j → Q' j) : IntsQ B Q' v xs := by
  obtain ⟨ao, c, hv, hc, hr⟩ := h
  refine ⟨ao, c, hv, hc, fun h0 => ?_⟩
  obtain ⟨b, o, ha, hb, hlt, hcs⟩ := hr h0
  have hblk := hab.block b hlt (hK b hb)
  exact ⟨b, o, ha, hQ b hlt hb, Nat.lt_of_lt_of_le hlt hab.size, fun k hk => (World.cell?_of_block (a := ⟨b, o + k, none⟩) hblk).trans (hcs k hk)⟩
/-- Rows of containers, of what they were given, of what is held: by their elements and the slices in them. -/
def cCells (p : Ct × Value) : List Value := contCells p.1 p.2
def gCells (p : Gv × Value) : List Value := [.int .u64 p.1.cp, p.2]
def rowC (l : List (Ct × Value)) : List Value := l.flatMap cCells
def rowG (l : List (Gv × Value)) : List Value := l.flatMap gCells
/-- One that is held, as it is read: its containers and what they were given, with the slices. -/
structure Hp where
  nm : ByteArray
  pr : Int
  cl : List (Ct × Value)
  gl : List (Gv × Value)
  cv : Value
  gv : Value
def Hp.hd (p : Hp) : Hd := ⟨⟨p.nm, p.pr, p.cl.map Prod.fst⟩, p.gl.map Prod.fst⟩
def hCells (p : Hp) : List Value := [.string p.nm, .int .i64 p.pr, p.cv, p.gv]
def rowH (l : List Hp) : List Value := l.flatMap hCells
theorem rowC_snoc (l : List (Ct × Value)) (p : Ct × Value) : rowC (l ++ [p]) = rowC l ++ cCells p := by simp [rowC]
theorem rowG_snoc (l : List (Gv × Value)) (p : Gv × Value) : rowG (l ++ [p]) = rowG l ++ gCells p := by simp [rowG]
theorem rowH_snoc (l : List Hp) (p : Hp) : rowH (l ++ [p]) = rowH l ++ hCells p := by simp [rowH]
/-- A block that is no row's that is written still. -/
def Free (base : Nat) (v : Value) (la : Hp) (j : Nat) : Prop := base ≤ j ∧ v.ownBlock ≠ some j ∧ la.cv.ownBlock ≠ some j ∧ la.gv.ownBlock ≠ some j
theorem row_kept {K : Nat → Prop} {A B : World} {base : Nat} {e : TypeId} {size : Nat} {v : Value} {n : Nat} {xs : List Value} (hr : A.ownsRow base e size v n xs) (h : Apart K A B) (hK : ∀ j, v.ownBlock = some j → ¬ K j) : B.ownsRow base e size v n xs := by
  obtain ⟨h1, h2⟩ := hr
  refine ⟨h1, h2.imp id ?_⟩
  rintro ⟨g, cap, cur, rfl, hg, hh, r⟩
  exact ⟨g, cap, cur, rfl, hg, (h.block g (Array.getElem?_eq_some_iff.1 hh).1 (hK g rfl)).trans hh, r⟩
/-- The rows of one, in blocks that Q names. -/
structure OneQ (W : World) (base : Nat) (Q : Nat → Prop) (p : Hp) : Prop where
  rc : W.ownsRow base 56 6 p.cv p.cl.length (rowC p.cl)
  rg : W.ownsRow base 64 2 p.gv p.gl.length (rowG p.gl)
  nc : ∀ x ∈ p.cl, NeedsQ W Q x.2 x.1.ds
  ng : ∀ x ∈ p.gl, IntsQ W Q x.2 x.1.dv ∧ x.1.cp < 18446744073709551616
theorem OneQ.apart {W W' : World} {base : Nat} {Q Q' K : Nat → Prop} {p : Hp} (h : OneQ W base Q p) (hab : Apart K W W') (hK : ∀ j, Q j → ¬ K j) (hQ : ∀ j, j < W.heap.size → Q j → Q' j)
    (hc : ∀ j, p.cv.ownBlock = some j → ¬ K j) (hg : ∀ j, p.gv.ownBlock = some j → ¬ K j) : OneQ W' base Q' p :=
  ⟨row_kept h.rc hab hc, row_kept h.rg hab hg, fun x hx => (h.nc x hx).apart hab hK hQ, fun x hx => ⟨(h.ng x hx).1.apart hab hK hQ, (h.ng x hx).2⟩⟩
theorem cons_at {W : World} {base : Nat} {Q : Nat → Prop} {p : Hp} (h : OneQ W base Q p) : ConsAt W p.cv (p.cl.map Prod.fst) := by
  obtain ⟨ao, c, hv, h1, h2⟩ := row_cap h.rc
  refine ⟨ao, c, by rw [List.length_map]; exact hv, ⟨by rw [List.length_map]; exact h1, h2⟩, fun h0 => ?_⟩
  rw [List.length_map] at h0
  obtain ⟨g, cap, hv2, _, _, hlt, _, hcell⟩ := row_form h.rc h0
  rw [hv] at hv2
  cases hv2
  refine ⟨g, 0, fun k => (p.cl.getD k default).2, rfl, hlt, fun k hk => ?_⟩
  rw [List.length_map] at hk
  have e1 : ct (p.cl.map Prod.fst) k = p.cl[k].1 := by simp [ct, hk]
  have e2 : (p.cl.getD k default).2 = p.cl[k].2 := by simp [hk]
  rw [e1]
  dsimp only
  rw [e2]
  refine ⟨fun j hj => ?_, (h.nc _ (List.getElem_mem hk)).plain⟩
  rw [Nat.zero_add, hcell _ (by omega)]
  exact flat_at cCells 6 (fun x => rfl) p.cl k j hk hj
theorem givs_at {W : World} {base : Nat} {Q : Nat → Prop} {p : Hp} (h : OneQ W base Q p) : GivsAt W p.gv (p.gl.map Prod.fst) := by
  obtain ⟨ao, c, hv, h1, h2⟩ := row_cap h.rg
  refine ⟨ao, c, by rw [List.length_map]; exact hv, ⟨by rw [List.length_map]; exact h1, h2⟩, fun h0 => ?_⟩
  rw [List.length_map] at h0
  obtain ⟨g, cap, hv2, _, _, hlt, _, hcell⟩ := row_form h.rg h0
  rw [hv] at hv2
  cases hv2
  refine ⟨g, 0, fun k => (p.gl.getD k default).2, rfl, hlt, fun k hk => ?_⟩
  rw [List.length_map] at hk
  have e1 : gv (p.gl.map Prod.fst) k = p.gl[k].1 := by simp [gv, hk]
  have e2 : (p.gl.getD k default).2 = p.gl[k].2 := by simp [hk]
  rw [e1]
  dsimp only
  rw [e2]
  have hm := h.ng _ (List.getElem_mem hk)
  refine ⟨⟨?_, ?_, hm.2⟩, hm.1.plain⟩
  · have := hcell (k * 2 + 0) (by omega)
    rw [Nat.zero_add]
    rw [Nat.add_zero] at this
    rw [this]
    exact flat_at gCells 2 (fun x => rfl) p.gl k 0 hk (by omega)
  · rw [Nat.zero_add, hcell (k * 2 + 1) (by omega)]
    exact flat_at gCells 2 (fun x => rfl) p.gl k 1 hk (by omega)
/-- What is held so far: a row of those ahead and the last one; each has rows of its own, no two in one block. -/
structure HeldQ (W : World) (base : Nat) (v : Value) (el : List Hp) (la : Hp) : Prop where
  row : W.ownsRow base 67 4 v (el.length + 1) (rowH (el ++ [la]))
  hel : ∀ p ∈ el, OneQ W base (Free base v la) p ∧ (∀ j, p.cv.ownBlock = some j → Free base v la j) ∧ (∀ j, p.gv.ownBlock = some j → Free base v la j)
  hla : OneQ W base (Free base v la) la
  vc : ∀ j, la.cv.ownBlock = some j → v.ownBlock ≠ some j
  vg : ∀ j, la.gv.ownBlock = some j → v.ownBlock ≠ some j
  cg : ∀ j, la.cv.ownBlock = some j → la.gv.ownBlock ≠ some j
theorem HeldQ.plain {W : World} {base : Nat} {v : Value} {el : List Hp} {la : Hp} (h : HeldQ W base v el la) : HldsAt W v ((el ++ [la]).map Hp.hd) := by
  obtain ⟨ao, c, hv, h1, h2⟩ := row_cap h.row
  have hlen : ((el ++ [la]).map Hp.hd).length = el.length + 1 := by simp
  refine ⟨ao, c, by rw [hlen]; exact hv, ⟨by rw [hlen]; exact h1, h2⟩, fun _ => ?_⟩
  obtain ⟨g, cap, hv2, _, _, hlt, _, hcell⟩ := row_form h.row (by omega)
  rw [hv] at hv2
  cases hv2
  refine ⟨g, 0, fun k => ((el ++ [la]).getD k la).cv, fun k => ((el ++ [la]).getD k la).gv, rfl, hlt, fun k hk => ?_⟩
  have hk2 : k < (el ++ [la]).length := by simpa using hk
  have e1 : hd ((el ++ [la]).map Hp.hd) k = (el ++ [la])[k].hd := by simp only [hd, List.getD_eq_getElem?_getD, List.getElem?_map, List.getElem?_eq_getElem hk2]; rfl
  have e2 : (el ++ [la]).getD k la = (el ++ [la])[k] := by rw [List.getD_eq_getElem?_getD, List.getElem?_eq_getElem hk2]; rfl
  rw [e1]
  dsimp only
  rw [e2]
  have hone : OneQ W base (Free base v la) (el ++ [la])[k] := by
    rcases List.mem_append.1 (List.getElem_mem hk2) with hm | hm
    · exact (h.hel _ hm).1
    · rw [List.mem_singleton.1 hm]; exact h.hla
  have hk3 : k < el.length + 1 := by rw [hlen] at hk; exact hk
  have cell : ∀ j, j < 4 → W.cell? ⟨g, 0 + k * 4 + j, none⟩ = (hCells (el ++ [la])[k])[j]? := fun j hj => by
    rw [Nat.zero_add, hcell _ (by omega)]
    exact flat_at hCells 4 (fun x => rfl) _ k j hk2 hj
  exact ⟨⟨cell 0 (by omega), cell 1 (by omega), cell 2 (by omega), cell 3 (by omega)⟩, cons_at hone, givs_at hone⟩
end Go.Proofs.YtlljniaobbbjgaaGreatDoor
namespace Go.Proofs.YtlljniaobbbjgaaGreatDoor
open Go.RowKit
open Qos (Nd Ct Pd nd ct pd)
open Sv (Gv Hd gv hd)
theorem grown_apart {W W2 : World} {o : Obj} {r : Option Nat} (hg : (W.alloc o).grownBy W2 r) : Apart (fun j => r = some j) W W2 :=
  (Apart.alloc _ W o).trans ⟨hg.os, hg.tape, hg.output, hg.size, fun j hj hn => hg.block j hj fun e => hn e.symm⟩
theorem nil_own : Value.ownBlock (.slice none 0 0) = none := rfl
theorem heldQ_pod {W W2 : World} {base : Nat} {v v' : Value} {el : List Hp} {la : Hp} {nm : ByteArray} {pr : Int} {o : Obj} (h : HeldQ W base v el la) (hg : (W.alloc o).grownBy W2 v.ownBlock)
    (hr : W2.ownsRow base 67 4 v' (el.length + 1 + 1) (rowH (el ++ [la]) ++ hCells ⟨nm, pr, [], [], .slice none 0 0, .slice none 0 0⟩)) (hat : v'.ownBlock = v.ownBlock ∨ v'.ownBlock = some (W.alloc o).heap.size) :
    HeldQ W2 base v' (el ++ [la]) ⟨nm, pr, [], [], .slice none 0 0, .slice none 0 0⟩ := by
  have hap := grown_apart hg
  have hsz : (W.alloc o).heap.size = W.heap.size + 1 := by simp
  have hfree : ∀ j, j < W.heap.size → base ≤ j → v.ownBlock ≠ some j → Free base v' ⟨nm, pr, [], [], .slice none 0 0, .slice none 0 0⟩ j := fun j hj hb hv => by
    refine ⟨hb, fun e => ?_, by simp [nil_own], by simp [nil_own]⟩
    rcases hat with e2 | e2
    · exact hv (by rw [← e2]; exact e)
    · rw [e2] at e; injection e with e; omega
  have hone : ∀ p, OneQ W base (Free base v la) p → (∀ j, p.cv.ownBlock = some j → v.ownBlock ≠ some j) → (∀ j, p.gv.ownBlock = some j → v.ownBlock ≠ some j) →
      OneQ W2 base (Free base v' ⟨nm, pr, [], [], .slice none 0 0, .slice none 0 0⟩) p ∧ (∀ j, p.cv.ownBlock = some j → Free base v' ⟨nm, pr, [], [], .slice none 0 0, .slice none 0 0⟩ j) ∧ (∀ j, p.gv.ownBlock = some j → Free base v' ⟨nm, pr, [], [], .slice none 0 0, .slice none 0 0⟩ j) := fun p hp h1 h2 =>
    ⟨hp.apart hap (fun j hj => hj.2.1) (fun j hj hf => hfree j hj hf.1 hf.2.1) h1 h2, fun j hj => hfree j (hp.rc.lt j hj).2 (hp.rc.lt j hj).1 (h1 j hj), fun j hj => hfree j (hp.rg.lt j hj).2 (hp.rg.lt j hj).1 (h2 j hj)⟩
  refine ⟨?_, fun p hp => ?_, ⟨World.ownsRow_nil _ _ _ _, World.ownsRow_nil _ _ _ _, by simp, by simp⟩, by simp [nil_own], by simp [nil_own], by simp [nil_own]⟩
  · rw [rowH_snoc, List.length_append]; exact hr
  · rcases List.mem_append.1 hp with hp | hp
    · obtain ⟨h1, h2, h3⟩ := h.hel p hp
      exact hone p h1 (fun j hj => (h2 j hj).2.1) (fun j hj => (h3 j hj).2.1)
    · rw [List.mem_singleton.1 hp]
      exact hone la h.hla h.vc h.vg
theorem heldQ_first {W2 : World} {base : Nat} {v' : Value} {nm : ByteArray} {pr : Int} (hr : W2.ownsRow base 67 4 v' 1 (hCells ⟨nm, pr, [], [], .slice none 0 0, .slice none 0 0⟩)) :
    HeldQ W2 base v' [] ⟨nm, pr, [], [], .slice none 0 0, .slice none 0 0⟩ :=
  ⟨by simpa [rowH] using hr, by simp, ⟨World.ownsRow_nil _ _ _ _, World.ownsRow_nil _ _ _ _, by simp, by simp⟩, by simp [nil_own], by simp [nil_own], by simp [nil_own]⟩
theorem set_flat {el : List Hp} {la la' : Hp} {j : Nat} (hj : j < 4) {u : Value} (hs : (hCells la).set j u = hCells la') : (rowH (el ++ [la])).set (el.length * 4 + j) u = rowH (el ++ [la']) := by
  have hl : (rowH el).length = el.length * 4 := by
    induction el with
    | nil => rfl
    | cons x r ih => rw [rowH, List.flatMap_cons, List.length_append, ← rowH, ih]; simp [hCells]; omega
  rw [rowH_snoc, rowH_snoc, List.set_append_right _ _ (by omega), hl, show el.length * 4 + j - el.length * 4 = j by omega, hs]
theorem heldQ_cont {W W2 : World} {base m cap : Nat} {v u nv : Value} {el : List Hp} {la : Hp} {c : Ct} {o : Obj} (hv : v = .slice (some ⟨m, 0, none⟩) (el.length + 1) cap) (h : HeldQ W base v el la) (hn : NeedsQ W (Free base v la) nv c.ds) (hg : (W.alloc o).grownBy W2 la.cv.ownBlock)
    (hr : W2.ownsRow base 56 6 u (la.cl.length + 1) (rowC la.cl ++ cCells (c, nv))) (hat : u.ownBlock = la.cv.ownBlock ∨ u.ownBlock = some (W.alloc o).heap.size) :
    HeldQ (W2.setCell ⟨m, el.length * 4 + 2, none⟩ u) base v el { la with cl := la.cl ++ [(c, nv)], cv := u } := by
  have hsz : (W.alloc o).heap.size = W.heap.size + 1 := by simp
  have hvm : v.ownBlock = some m := by rw [hv]; rfl
  have hmlt : m < W.heap.size := (h.row.lt m hvm).2
  have hap : Apart (fun j => la.cv.ownBlock = some j ∨ j = m) W (W2.setCell ⟨m, el.length * 4 + 2, none⟩ u) := ((grown_apart hg).wide fun _ => .inl).trans (Apart.setCell (.inr rfl) _ _ _)
  have hKf : ∀ j, Free base v la j → ¬ (la.cv.ownBlock = some j ∨ j = m) := fun j hf hk => by
    rcases hk with hk | rfl
    · exact hf.2.2.1 hk
    · exact hf.2.1 hvm
  have hQ : ∀ j, j < W.heap.size → Free base v la j → Free base v { la with cl := la.cl ++ [(c, nv)], cv := u } j := fun j hj hf => by
    have hu : u.ownBlock ≠ some j := fun e => by
      rcases hat with e2 | e2
      · exact hf.2.2.1 (by rw [← e2]; exact e)
      · rw [e2] at e; injection e with e; omega
    exact ⟨hf.1, hf.2.1, hu, hf.2.2.2⟩
  have hone : ∀ p, OneQ W base (Free base v la) p → (∀ j, p.cv.ownBlock = some j → Free base v la j) → (∀ j, p.gv.ownBlock = some j → Free base v la j) →
      OneQ (W2.setCell ⟨m, el.length * 4 + 2, none⟩ u) base (Free base v { la with cl := la.cl ++ [(c, nv)], cv := u }) p ∧ (∀ j, p.cv.ownBlock = some j → Free base v { la with cl := la.cl ++ [(c, nv)], cv := u } j) ∧ (∀ j, p.gv.ownBlock = some j → Free base v { la with cl := la.cl ++ [(c, nv)], cv := u } j) := fun p hp h1 h2 =>
    ⟨hp.apart hap hKf hQ (fun j hj => hKf j (h1 j hj)) (fun j hj => hKf j (h2 j hj)), fun j hj => hQ j (hp.rc.lt j hj).2 (h1 j hj), fun j hj => hQ j (hp.rg.lt j hj).2 (h2 j hj)⟩
  have hum : u.ownBlock ≠ some m := fun e => by
    rcases hat with e2 | e2
    · exact h.vc m (by rw [← e2]; exact e) hvm
    · rw [e2] at e; injection e with e; omega
  have hrow2 : W2.ownsRow base 67 4 v (el.length + 1) (rowH (el ++ [la])) := row_kept h.row (grown_apart hg) (fun j hj hk => h.vc j hk hj)
  subst hv
  refine ⟨?_, fun p hp => hone p (h.hel p hp).1 (h.hel p hp).2.1 (h.hel p hp).2.2, ⟨?_, ?_, ?_, ?_⟩, ?_, ?_, ?_⟩
  · rw [← set_flat (la := la) (j := 2) (by omega) (by rfl)]
    exact (hrow2.stored _ _).1
  · show World.ownsRow _ base 56 6 u (la.cl ++ [(c, nv)]).length (rowC (la.cl ++ [(c, nv)]))
    rw [rowC_snoc, List.length_append]
    exact row_kept hr (Apart.setCell (K := fun j => j = m) rfl W2 _ _) (fun j hj hk => by subst hk; exact hum hj)
  · exact row_kept h.hla.rg hap (fun j hj hk => by
      rcases hk with hk | rfl
      · exact h.cg j hk hj
      · exact h.vg j hj hvm)
  · intro x hx
    rcases List.mem_append.1 hx with hx | hx
    · exact (h.hla.nc x hx).apart hap hKf hQ
    · rw [List.mem_singleton.1 hx]; exact hn.apart hap hKf hQ
  · exact fun x hx => ⟨(h.hla.ng x hx).1.apart hap hKf hQ, (h.hla.ng x hx).2⟩
  · intro j hj e
    exact hum (by rw [show (some m : Option Nat) = some j from e]; exact hj)
  · exact fun j hj e => h.vg j hj e
  · intro j hj e
    rcases hat with e2 | e2
    · exact h.cg j (by rw [← e2]; exact hj) e
    · have := (h.hla.rg.lt j e).2
      rw [e2] at hj; injection hj with hj; omega
theorem heldQ_given {W W2 : World} {base m cap : Nat} {v u nv : Value} {el : List Hp} {la : Hp} {c : Gv} {o : Obj} (hv : v = .slice (some ⟨m, 0, none⟩) (el.length + 1) cap) (h : HeldQ W base v el la) (hn : IntsQ W (Free base v la) nv c.dv) (hcp : c.cp < 18446744073709551616) (hg : (W.alloc o).grownBy W2 la.gv.ownBlock)
    (hr : W2.ownsRow base 64 2 u (la.gl.length + 1) (rowG la.gl ++ gCells (c, nv))) (hat : u.ownBlock = la.gv.ownBlock ∨ u.ownBlock = some (W.alloc o).heap.size) :
    HeldQ (W2.setCell ⟨m, el.length * 4 + 3, none⟩ u) base v el { la with gl := la.gl ++ [(c, nv)], gv := u } := by
  have hsz : (W.alloc o).heap.size = W.heap.size + 1 := by simp
  have hvm : v.ownBlock = some m := by rw [hv]; rfl
  have hmlt : m < W.heap.size := (h.row.lt m hvm).2
  have hap : Apart (fun j => la.gv.ownBlock = some j ∨ j = m) W (W2.setCell ⟨m, el.length * 4 + 3, none⟩ u) := ((grown_apart hg).wide fun _ => .inl).trans (Apart.setCell (.inr rfl) _ _ _)
  have hKf : ∀ j, Free base v la j → ¬ (la.gv.ownBlock = some j ∨ j = m) := fun j hf hk => by
    rcases hk with hk | rfl
    · exact hf.2.2.2 hk
    · exact hf.2.1 hvm
  have hQ : ∀ j, j < W.heap.size → Free base v la j → Free base v { la with gl := la.gl ++ [(c, nv)], gv := u } j := fun j hj hf => by
    have hu : u.ownBlock ≠ some j := fun e => by
      rcases hat with e2 | e2
      · exact hf.2.2.2 (by rw [← e2]; exact e)
      · rw [e2] at e; injection e with e; omega
    exact ⟨hf.1, hf.2.1, hf.2.2.1, hu⟩
  have hone : ∀ p, OneQ W base (Free base v la) p → (∀ j, p.cv.ownBlock = some j → Free base v la j) → (∀ j, p.gv.ownBlock = some j → Free base v la j) →
      OneQ (W2.setCell ⟨m, el.length * 4 + 3, none⟩ u) base (Free base v { la with gl := la.gl ++ [(c, nv)], gv := u }) p ∧ (∀ j, p.cv.ownBlock = some j → Free base v { la with gl := la.gl ++ [(c, nv)], gv := u } j) ∧ (∀ j, p.gv.ownBlock = some j → Free base v { la with gl := la.gl ++ [(c, nv)], gv := u } j) := fun p hp h1 h2 =>
    ⟨hp.apart hap hKf hQ (fun j hj => hKf j (h1 j hj)) (fun j hj => hKf j (h2 j hj)), fun j hj => hQ j (hp.rc.lt j hj).2 (h1 j hj), fun j hj => hQ j (hp.rg.lt j hj).2 (h2 j hj)⟩
  have hum : u.ownBlock ≠ some m := fun e => by
    rcases hat with e2 | e2
    · exact h.vg m (by rw [← e2]; exact e) hvm
    · rw [e2] at e; injection e with e; omega
  have hrow2 : W2.ownsRow base 67 4 v (el.length + 1) (rowH (el ++ [la])) := row_kept h.row (grown_apart hg) (fun j hj hk => h.vg j hk hj)
  subst hv
  refine ⟨?_, fun p hp => hone p (h.hel p hp).1 (h.hel p hp).2.1 (h.hel p hp).2.2, ⟨?_, ?_, ?_, ?_⟩, ?_, ?_, ?_⟩
  · rw [← set_flat (la := la) (j := 3) (by omega) (by rfl)]
    exact (hrow2.stored _ _).1
  · exact row_kept h.hla.rc hap (fun j hj hk => by
      rcases hk with hk | rfl
      · exact h.cg j hj hk
      · exact h.vc j hj hvm)
  · show World.ownsRow _ base 64 2 u (la.gl ++ [(c, nv)]).length (rowG (la.gl ++ [(c, nv)]))
    rw [rowG_snoc, List.length_append]
    exact row_kept hr (Apart.setCell (K := fun j => j = m) rfl W2 _ _) (fun j hj hk => by subst hk; exact hum hj)
  · exact fun x hx => (h.hla.nc x hx).apart hap hKf hQ
  · intro x hx
    rcases List.mem_append.1 hx with hx | hx
    · exact ⟨(h.hla.ng x hx).1.apart hap hKf hQ, (h.hla.ng x hx).2⟩
    · rw [List.mem_singleton.1 hx]; exact ⟨hn.apart hap hKf hQ, hcp⟩
  · exact fun j hj e => h.vc j hj e
  · intro j hj e
    exact hum (by rw [show (some m : Option Nat) = some j from e]; exact hj)
  · intro j hj e
    rcases hat with e2 | e2
    · exact h.cg j hj (by rw [← e2]; exact e)
    · have := (h.hla.rc.lt j hj).2
      have e3 : some j = some (W.alloc o).heap.size := by rw [← e2]; exact e.symm
      injection e3 with e3; omega
end Go.Proofs.YtlljniaobbbjgaaGreatDoor
