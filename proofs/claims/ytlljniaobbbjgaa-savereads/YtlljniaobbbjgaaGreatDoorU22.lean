/- VE2 -/
import Derived.Test.YtlljniaobbbjgaaGreatDoorU4
namespace Go.Proofs.YtlljniaobbbjgaaGreatDoor
open Go.RowKit Go.Shelf
open Qos (Nd Ct Pd nd ct pd)
theorem below_drewNE2 (w : World) (m n : Nat) : Below w.heap.size w ((w.drewN m).drewN n) := ⟨rfl, rfl, rfl, Nat.le_refl _, fun _ _ => rfl⟩
theorem NeedsAt.parts {w : World} {v : Value} {ds : List Nd} (h : NeedsAt w v ds) : ∃ ao c, v = .slice ao ds.length c ∧ ds.length ≤ maxLen ∧ ∀ k, k < ds.length → ∃ b o, ao = some ⟨b, o, none⟩ ∧ b < w.heap.size ∧ w.cell? ⟨b, o + k * 2, none⟩ = some (.string (nd ds k).kind) ∧ w.cell? ⟨b, o + k * 2 + 1, none⟩ = some (.int .i64 (nd ds k).many) := by
  obtain ⟨ao, c, rfl, hm, hr⟩ := h
  refine ⟨ao, c, rfl, hm, fun k hk => ?_⟩
  obtain ⟨b, o, ha, hlt, hc⟩ := hr (by omega)
  exact ⟨b, o, ha, hlt, (hc k hk).1, (hc k hk).2⟩
set_option maxRecDepth 100000 in
set_option maxHeartbeats 4000000 in
theorem samePod_any (p q : Pd) (cv dv : Value) (w : World) (h1 : ConsAt w cv p.cs) (h2 : ConsAt w dv q.cs) :
    Calls Tryz.prog 45 #[podV p cv, podV q dv] w (AnsIf (p = q) w) := by
  unfold podV
  obtain ⟨a1, c1, rfl, m1, h1⟩ := h1
  obtain ⟨a2, c2, rfl, m2, h2⟩ := h2
  unfold maxLen at m1 m2
  have H1 := hideIt h1
  have H2 := hideIt h2
  clear h1 h2
  have k1 : Hid (p = q → p.nm = q.nm) := fun e => by rw [e]
  have k2 : Hid (p = q → p.pr = q.pr) := fun e => by rw [e]
  have k3 : Hid (p = q → p.cs = q.cs) := fun e => by rw [e]
  generalize (p = q) = PQ at *
  obtain ⟨pn, pp, pcs⟩ := p
  obtain ⟨qn, qp, qcs⟩ := q
  dsimp only at m1 m2 H1 H2 k1 k2 k3 ⊢
  by_cases e1 : pn = qn
  · subst e1
    by_cases e2 : pp = qp
    · subst e2
      have HB0 := hideIt (((Below.refl w.heap.size w).alloc (Nat.le_refl _) (.cells #[.string pn, .int .i64 pp, .slice a1 pcs.length c1] 59)).alloc (by simp) (.cells #[.string pn, .int .i64 pp, .slice a2 qcs.length c2] 59))
      by_cases e3 : pcs.length = qcs.length
      · rw [← e3] at HB0 ⊢
        have E3 := hideIt e3
        clear e3
        go_enter Tryz.func45, Tryz.ntmps45
        have p2 : ((w.alloc (.cells #[.string pn, .int .i64 pp, .slice a1 pcs.length c1] 59)).alloc (.cells #[.string pn, .int .i64 pp, .slice a2 pcs.length c2] 59)).cell? ⟨w.heap.size, 2, none⟩ = some (.slice a1 pcs.length c1) := by simp
        have q2 : ((w.alloc (.cells #[.string pn, .int .i64 pp, .slice a1 pcs.length c1] 59)).alloc (.cells #[.string pn, .int .i64 pp, .slice a2 pcs.length c2] 59)).cell? ⟨w.heap.size + 1, 2, none⟩ = some (.slice a2 pcs.length c2) := by simp
        have hs0 : ((w.alloc (.cells #[.string pn, .int .i64 pp, .slice a1 pcs.length c1] 59)).alloc (.cells #[.string pn, .int .i64 pp, .slice a2 pcs.length c2] 59)).heap.size = w.heap.size + 1 + 1 := by simp
        go_wp2_with fail
        generalize ((w.alloc (.cells #[.string pn, .int .i64 pp, .slice a1 pcs.length c1] 59)).alloc (.cells #[.string pn, .int .i64 pp, .slice a2 pcs.length c2] 59)) = W0 at *
        go_loopw [5] (fun i wr => ∃ k : Nat, k ≤ pcs.length ∧ i = .int .i64 k ∧ Below W0.heap.size W0 wr) (fun i _ => pcs.length - (intOf i).toNat)
        case atStart => exact ⟨0, by omega, rfl, Below.refl _ _⟩
        case round =>
          obtain ⟨k, hk, rfl, hb⟩ := hrel
          have r2 := (hb.cell (p := ⟨w.heap.size, 2, none⟩) (by show w.heap.size < W0.heap.size; omega)).trans p2
          have s2 := (hb.cell (p := ⟨w.heap.size + 1, 2, none⟩) (by show w.heap.size + 1 < W0.heap.size; omega)).trans q2
          have HB1 := hideIt (HB0.out.trans (hb.mono HB0.out.size))
          have HBk := hideIt hb
          clear hb
          by_cases hlt : k < pcs.length
          · obtain ⟨b1, o1, dv1, rfl, hc1⟩ := H1.out (by omega)
            obtain ⟨b2, o2, dv2, rfl, hc2⟩ := H2.out (by rw [← E3.out]; omega)
            have hk2 : k < qcs.length := by rw [← E3.out]; exact hlt
            obtain ⟨x0, x1, x2, x3, x4, x5⟩ := (hc1.below HB1.out).at hlt
            obtain ⟨y0, y1, y2, y3, y4, y5⟩ := (hc2.below HB1.out).at hk2
            obtain ⟨na, nc, hn1, nm1, hN1⟩ := ((hc1.below HB1.out).2 k hlt).2.parts
            obtain ⟨ma, mc, hn2, nm2, hN2⟩ := ((hc2.below HB1.out).2 k hk2).2.parts
            rw [hn1] at x5
            rw [hn2] at y5
            have HBL2 := hideIt (hc2.below HB1.out).1
            have HN1 := hideIt hN1
            have HN2 := hideIt hN2
            have HK : Hid (PQ → ct pcs k = ct qcs k) := fun e => by rw [k3.out e]
            clear hc1 hc2 hN1 hN2 hn1 hn2 p2 q2
            unfold maxLen at nm1 nm2
            generalize ct pcs k = c at *
            generalize ct qcs k = d at *
            obtain ⟨cn, cam, cab, ccm, ccb, cds⟩ := c
            obtain ⟨dn, dam, dab, dcm, dcb, dds⟩ := d
            dsimp only at x0 x1 x2 x3 x4 x5 y0 y1 y2 y3 y4 y5 nm1 nm2 HN1 HN2
            have j1 : Hid (PQ → cn = dn) := fun e => by have h := HK.out e; injection h with h _
            have j2 : Hid (PQ → cam = dam) := fun e => by have h := HK.out e; injection h with _ h
            have j3 : Hid (PQ → cab = dab) := fun e => by have h := HK.out e; injection h with _ _ h
            have j4 : Hid (PQ → ccm = dcm) := fun e => by have h := HK.out e; injection h with _ _ _ h
            have j5 : Hid (PQ → ccb = dcb) := fun e => by have h := HK.out e; injection h with _ _ _ _ h
            have j6 : Hid (PQ → cds = dds) := fun e => by have h := HK.out e; injection h
            have HBx := hideIt (((Below.refl wr.heap.size wr).alloc (Nat.le_refl _) (.cells #[.string cn, .int .i64 cam, .int .i64 cab, .int .i64 ccm, .int .i64 ccb, .slice na cds.length nc] 56)).alloc (by simp) (.cells #[.string dn, .int .i64 dam, .int .i64 dab, .int .i64 dcm, .int .i64 dcb, .slice ma dds.length mc] 56))
            clear HK
            have hwz : w.heap.size + 1 < wr.heap.size := Nat.lt_of_lt_of_le (by omega) HBk.out.size
            have hb2l := HBL2.out
            have hX := (Below.refl wr.heap.size wr).alloc (Nat.le_refl _) (.cells #[.string cn, .int .i64 cam, .int .i64 cab, .int .i64 ccm, .int .i64 ccb, .slice na cds.length nc] 56)
            have s2 := (hX.cell (p := ⟨w.heap.size + 1, 2, none⟩) hwz).trans s2
            have y0 := (hX.cell (p := ⟨b2, o2 + k * 6, none⟩) hb2l).trans y0
            have y1 := (hX.cell (p := ⟨b2, o2 + k * 6 + 1, none⟩) hb2l).trans y1
            have y2 := (hX.cell (p := ⟨b2, o2 + k * 6 + 2, none⟩) hb2l).trans y2
            have y3 := (hX.cell (p := ⟨b2, o2 + k * 6 + 3, none⟩) hb2l).trans y3
            have y4 := (hX.cell (p := ⟨b2, o2 + k * 6 + 4, none⟩) hb2l).trans y4
            have y5 := (hX.cell (p := ⟨b2, o2 + k * 6 + 5, none⟩) hb2l).trans y5
            clear hX hb2l
            by_cases f0 : cn = dn
            · subst f0
              by_cases f1 : cam = dam
              · subst f1
                by_cases f2 : cab = dab
                · subst f2
                  by_cases f3 : ccm = dcm
                  · subst f3
                    by_cases f4 : ccb = dcb
                    · subst f4
                      by_cases f6 : cds.length = dds.length
                      · rw [← f6] at y5 HBx HN2
                        have F6 := hideIt f6
                        clear f6
                        have z5 : ((wr.alloc (.cells #[.string cn, .int .i64 cam, .int .i64 cab, .int .i64 ccm, .int .i64 ccb, .slice na cds.length nc] 56)).alloc (.cells #[.string cn, .int .i64 cam, .int .i64 cab, .int .i64 ccm, .int .i64 ccb, .slice ma cds.length mc] 56)).cell? ⟨wr.heap.size, 5, none⟩ = some (.slice na cds.length nc) := by simp
                        have z6 : ((wr.alloc (.cells #[.string cn, .int .i64 cam, .int .i64 cab, .int .i64 ccm, .int .i64 ccb, .slice na cds.length nc] 56)).alloc (.cells #[.string cn, .int .i64 cam, .int .i64 cab, .int .i64 ccm, .int .i64 ccb, .slice ma cds.length mc] 56)).cell? ⟨wr.heap.size + 1, 5, none⟩ = some (.slice ma cds.length mc) := by simp
                        go_wp2_with fail
                        generalize ((wr.alloc (.cells #[.string cn, .int .i64 cam, .int .i64 cab, .int .i64 ccm, .int .i64 ccb, .slice na cds.length nc] 56)).alloc (.cells #[.string cn, .int .i64 cam, .int .i64 cab, .int .i64 ccm, .int .i64 ccb, .slice ma cds.length mc] 56)) = W5 at *
                        clear x0 x1 x2 x3 x4 x5 y0 y1 y2 y3 y4 y5
                        have HB5 := hideIt (HBk.out.trans (HBx.out.mono HBk.out.size))
                        go_loopw [8] (fun i wr2 => ∃ j m : Nat, j ≤ cds.length ∧ i = .int .i64 j ∧ wr2 = W5.drewN m) (fun i _ => cds.length - (intOf i).toNat)
                        case atStart => exact ⟨0, 0, by omega, rfl, rfl⟩
                        case round =>
                          obtain ⟨j, m, hj, rfl, rfl⟩ := hrel
                          by_cases hjl : j < cds.length
                          · obtain ⟨u1, v1, rfl, ul1, t1, t2⟩ := HN1.out j hjl
                            obtain ⟨u2, v2, rfl, ul2, t3, t4⟩ := HN2.out j hjl
                            have t1 := (HBx.out.cell (p := ⟨u1, v1 + j * 2, none⟩) ul1).trans t1
                            have t2 := (HBx.out.cell (p := ⟨u1, v1 + j * 2 + 1, none⟩) ul1).trans t2
                            have t3 := (HBx.out.cell (p := ⟨u2, v2 + j * 2, none⟩) ul2).trans t3
                            have t4 := (HBx.out.cell (p := ⟨u2, v2 + j * 2 + 1, none⟩) ul2).trans t4
                            have l1 : Hid (PQ → (nd cds j).kind = (nd dds j).kind) := fun e => by rw [j6.out e]
                            have l2 : Hid (PQ → (nd cds j).many = (nd dds j).many) := fun e => by rw [j6.out e]
                            generalize (nd cds j).kind = ki at *
                            generalize (nd dds j).kind = kj at *
                            generalize (nd cds j).many = mi at *
                            generalize (nd dds j).many = mj at *
                            by_cases g1 : ki = kj
                            · subst g1
                              by_cases g2 : mi = mj
                              · subst g2
                                go_wp2_with fail
                                go_quiet (fail)
                                go_wp2_with fail
                                go_roundw
                                case rel => exact ⟨j + 1, _, by omega, by go_num, rfl⟩
                                case measure => simp [intOf]; omega
                              · have G2 := hideIt g2
                                have g2' : (mi == mj) = false := by simpa using g2
                                clear g2
                                go_wp2_with fail
                                go_quiet (fail)
                                go_wp2_with fail
                                go_ret
                                exact ⟨_, rfl, fun e => absurd (l2.out e) G2.out, (HB0.out.trans (HB5.out.mono HB0.out.size)).trans ((below_drewNE2 _ _ _).mono (Nat.le_trans HB0.out.size HB5.out.size))⟩
                            · have G1 := hideIt g1
                              have g1' : (ki.toList == kj.toList) = false := by rw [beq_eq_false_iff_ne]; intro h; exact g1 (ByteArray.ext (by rw [ByteArray.toList_eq, ByteArray.toList_eq] at h; exact Array.toList_inj.1 h))
                              clear g1
                              go_wp2_with fail
                              go_quiet (fail)
                              go_wp2_with fail
                              go_ret
                              exact ⟨_, rfl, fun e => absurd (l1.out e) G1.out, (HB0.out.trans (HB5.out.mono HB0.out.size)).trans ((below_drewNE2 _ _ _).mono (Nat.le_trans HB0.out.size HB5.out.size))⟩
                          · have hje : j = cds.length := by omega
                            subst hje
                            go_wp2_with fail
                            go_roundw
                            case rel => exact ⟨k + 1, by omega, by go_num, HB5.out.trans ((below_drewNE _ _).mono HB5.out.size)⟩
                            case measure => simp [intOf]; omega
                      · have f6' : ((cds.length : Int) == (dds.length : Int)) = false := by simp; omega
                        have F6 := hideIt f6
                        clear f6
                        go_wp2_with fail
                        go_ret
                        exact ⟨_, rfl, fun e => absurd (congrArg List.length (j6.out e)) F6.out, HB1.out.trans (HBx.out.mono HB1.out.size)⟩
                    · have F4 := hideIt f4
                      have f4' : (ccb == dcb) = false := by simpa using F4.out
                      clear f4
                      go_wp2_with fail
                      go_ret
                      exact ⟨_, rfl, fun e => absurd (j5.out e) F4.out, HB1.out.trans (HBx.out.mono HB1.out.size)⟩
                  · have F3 := hideIt f3
                    have f3' : (ccm == dcm) = false := by simpa using F3.out
                    clear f3
                    go_wp2_with fail
                    go_ret
                    exact ⟨_, rfl, fun e => absurd (j4.out e) F3.out, HB1.out.trans (HBx.out.mono HB1.out.size)⟩
                · have F2 := hideIt f2
                  have f2' : (cab == dab) = false := by simpa using F2.out
                  clear f2
                  go_wp2_with fail
                  go_ret
                  exact ⟨_, rfl, fun e => absurd (j3.out e) F2.out, HB1.out.trans (HBx.out.mono HB1.out.size)⟩
              · have F1 := hideIt f1
                have f1' : (cam == dam) = false := by simpa using F1.out
                clear f1
                go_wp2_with fail
                go_ret
                exact ⟨_, rfl, fun e => absurd (j2.out e) F1.out, HB1.out.trans (HBx.out.mono HB1.out.size)⟩
            · have F0 := hideIt f0
              have f0' : (cn.toList == dn.toList) = false := by rw [beq_eq_false_iff_ne]; intro h; exact F0.out (ByteArray.ext (by rw [ByteArray.toList_eq, ByteArray.toList_eq] at h; exact Array.toList_inj.1 h))
              clear f0
              go_wp2_with fail
              go_ret
              exact ⟨_, rfl, fun e => absurd (j1.out e) F0.out, HB1.out.trans (HBx.out.mono HB1.out.size)⟩
          · have hke : k = pcs.length := by omega
            subst hke
            go_wp2_with fail
            go_ret
            exact ⟨_, rfl, fun _ => rfl, HB1.out⟩
      · have hb : ((pcs.length : Int) == (qcs.length : Int)) = false := by simp; omega
        go_enter Tryz.func45, Tryz.ntmps45
        have E3 := hideIt e3
        clear e3
        go_wp2_with fail
        go_ret
        exact ⟨_, rfl, fun e => absurd (congrArg List.length (k3.out e)) E3.out, HB0.out⟩
    · have E2 := hideIt e2
      have e2' : (pp == qp) = false := by simpa using e2
      clear e2
      have HB0 := hideIt (((Below.refl w.heap.size w).alloc (Nat.le_refl _) (.cells #[.string pn, .int .i64 pp, .slice a1 pcs.length c1] 59)).alloc (by simp) (.cells #[.string pn, .int .i64 qp, .slice a2 qcs.length c2] 59))
      go_enter Tryz.func45, Tryz.ntmps45
      go_wp2_with fail
      go_ret
      exact ⟨_, rfl, fun e => absurd (k2.out e) E2.out, HB0.out⟩
  · have E1 := hideIt e1
    have e1' : (pn.toList == qn.toList) = false := by rw [beq_eq_false_iff_ne]; intro h; exact e1 (ByteArray.ext (by rw [ByteArray.toList_eq, ByteArray.toList_eq] at h; exact Array.toList_inj.1 h))
    clear e1
    have HB0 := hideIt (((Below.refl w.heap.size w).alloc (Nat.le_refl _) (.cells #[.string pn, .int .i64 pp, .slice a1 pcs.length c1] 59)).alloc (by simp) (.cells #[.string qn, .int .i64 qp, .slice a2 qcs.length c2] 59))
    go_enter Tryz.func45, Tryz.ntmps45
    go_wp2_with fail
    go_ret
    exact ⟨_, rfl, fun e => absurd (k1.out e) E1.out, HB0.out⟩
end Go.Proofs.YtlljniaobbbjgaaGreatDoor

