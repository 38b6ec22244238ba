/- VE3 -/
import Derived.Test.YtlljniaobbbjgaaGreatDoorU22
import Derived.Deep.RegionHeld3
namespace Go.Proofs.YtlljniaobbbjgaaGreatDoor
open Go.RowKit Go.Shelf
open Qos (Nd Ct Pd nd ct pd)
open Sv (Gv Hd gv hd)
attribute [local go_sem] Oper.semAt_some
theorem HldsIn.atE {w : World} {b o : Nat} {hs : List Hd} {cv gvv : Nat → Value} (h : HldsIn w b o hs cv gvv) {k : Nat} (hk : k < hs.length) : w.cell? ⟨b, o + k * 4, none⟩ = some (.string (hd hs k).pod.nm) ∧ w.cell? ⟨b, o + k * 4 + 1, none⟩ = some (.int .i64 (hd hs k).pod.pr) ∧ w.cell? ⟨b, o + k * 4 + 2, none⟩ = some (cv k) ∧ w.cell? ⟨b, o + k * 4 + 3, none⟩ = some (gvv k) := (h.2 k hk).1
theorem GivsAt.parts {w : World} {v : Value} {gs : List Gv} (h : GivsAt w v gs) : ∃ ao c, v = .slice ao gs.length c ∧ (gs.length ≤ c ∧ c ≤ maxLen) ∧ ∀ k, k < gs.length → ∃ b o dv, ao = some ⟨b, o, none⟩ ∧ b < w.heap.size ∧ w.cell? ⟨b, o + k * 2, none⟩ = some (.int .u64 (gv gs k).cp) ∧ w.cell? ⟨b, o + k * 2 + 1, none⟩ = some dv ∧ IntsOf w dv (gv gs k).dv := by
  obtain ⟨ao, c, rfl, hm, hr⟩ := h
  refine ⟨ao, c, rfl, hm, fun k hk => ?_⟩
  obtain ⟨b, o, dv, ha, hlt, hc⟩ := hr (by omega)
  exact ⟨b, o, dv k, ha, hlt, (hc k hk).1.1, (hc k hk).1.2.1, (hc k hk).2⟩
set_option maxRecDepth 100000 in
set_option maxHeartbeats 4000000 in
theorem sameHeld_any (v1 v2 : Value) (hs gs : List Hd) (w : World) (h1 : HldsAt w v1 hs) (h2 : HldsAt w v2 gs) :
    Calls Tryz.prog 17 #[v1, v2] w (AnsIf (hs = gs) w) := by
  obtain ⟨a1, c1, rfl, m1, h1⟩ := h1
  obtain ⟨a2, c2, rfl, m2, h2⟩ := h2
  unfold maxLen at m1 m2
  have H1 := hideIt h1
  have H2 := hideIt h2
  clear h1 h2
  have k1 : Hid (hs = gs → hs.length = gs.length) := fun e => by rw [e]
  have k2 : Hid (∀ k, hs = gs → hd hs k = hd gs k) := fun k e => by rw [e]
  generalize (hs = gs) = PQ at *
  by_cases e1 : hs.length = gs.length
  · rw [← e1]
    have E1 := hideIt e1
    clear e1
    go_enter Tryz.func17, Tryz.ntmps17
    go_wp2_with fail
    go_loopw [5] (fun i wr => ∃ k : Nat, k ≤ hs.length ∧ i = .int .i64 k ∧ Below w.heap.size w wr) (fun i _ => hs.length - (intOf i).toNat)
    case atStart => exact ⟨0, by omega, rfl, Below.refl _ _⟩
    case round =>
      obtain ⟨k, hk, rfl, hb⟩ := hrel
      have HB1 := hideIt hb
      clear hb
      by_cases hlt : k < hs.length
      · obtain ⟨b1, o1, cv1, gv1, rfl, hc1⟩ := H1.out (by omega)
        obtain ⟨b2, o2, cv2, gv2, rfl, hc2⟩ := H2.out (by rw [← E1.out]; omega)
        have hk2 : k < gs.length := by rw [← E1.out]; exact hlt
        have hC1 := ((hc1.below HB1.out).2 k hlt).2
        have hC2 := ((hc2.below HB1.out).2 k hk2).2
        have HL1 := hideIt (hc1.below HB1.out).1
        have HL2 := hideIt (hc2.below HB1.out).1
        have HS0 := hideIt (show (wr.drew.cell? ⟨b1, o1 + k * 4, none⟩ = some (.string (hd hs k).pod.nm) ∧ wr.drew.cell? ⟨b1, o1 + k * 4 + 1, none⟩ = some (.int .i64 (hd hs k).pod.pr) ∧ wr.drew.cell? ⟨b1, o1 + k * 4 + 2, none⟩ = some (cv1 k) ∧ wr.drew.cell? ⟨b1, o1 + k * 4 + 3, none⟩ = some (gv1 k)) ∧ (wr.drew.cell? ⟨b2, o2 + k * 4, none⟩ = some (.string (hd gs k).pod.nm) ∧ wr.drew.cell? ⟨b2, o2 + k * 4 + 1, none⟩ = some (.int .i64 (hd gs k).pod.pr) ∧ wr.drew.cell? ⟨b2, o2 + k * 4 + 2, none⟩ = some (cv2 k) ∧ wr.drew.cell? ⟨b2, o2 + k * 4 + 3, none⟩ = some (gv2 k)) from ⟨(hc1.below HB1.out).atE hlt, (hc2.below HB1.out).atE hk2⟩)
        have HK := hideIt (k2.out k)
        have hBd : Below wr.heap.size wr wr.drew := ⟨rfl, rfl, rfl, Nat.le_refl _, fun _ _ => rfl⟩
        have HSP := hideIt (samePod_any (hd hs k).pod (hd gs k).pod (cv1 k) (cv2 k) wr.drew (hC1.1.below hBd) (hC2.1.below hBd))
        unfold podV at HSP
        obtain ⟨na1, nc1, hn1, _, _⟩ := hC1.1
        obtain ⟨na2, nc2, hn2, _, _⟩ := hC2.1
        obtain ⟨ga1, gc1, hg1, gm1, hG1⟩ := hC1.2.parts
        obtain ⟨ga2, gc2, hg2, gm2, hG2⟩ := hC2.2.parts
        have HG1 := hideIt hG1
        have HG2 := hideIt hG2
        unfold maxLen at gm1 gm2
        clear hC1 hC2 hc1 hc2 hG1 hG2 H1 H2
        rw [hn1, hg1, hn2, hg2] at HS0
        rw [hn1, hn2] at HSP
        clear hn1 hn2 hg1 hg2
        generalize hd hs k = x at *
        generalize hd gs k = y at *
        obtain ⟨⟨xn, xp, xc⟩, xg⟩ := x
        obtain ⟨⟨yn, yp, yc⟩, yg⟩ := y
        dsimp only at HS0 HSP HG1 HG2 gm1 gm2
        go_wp2_with fail
        refine wp_region_held_drew (S := (fun w' => (w'.cell? ⟨b1, o1 + k * 4, none⟩ = some (.string xn) ∧ w'.cell? ⟨b1, o1 + k * 4 + 1, none⟩ = some (.int .i64 xp) ∧ w'.cell? ⟨b1, o1 + k * 4 + 2, none⟩ = some (.slice na1 xc.length nc1) ∧ w'.cell? ⟨b1, o1 + k * 4 + 3, none⟩ = some (.slice ga1 xg.length gc1)) ∧ (w'.cell? ⟨b2, o2 + k * 4, none⟩ = some (.string yn) ∧ w'.cell? ⟨b2, o2 + k * 4 + 1, none⟩ = some (.int .i64 yp) ∧ w'.cell? ⟨b2, o2 + k * 4 + 2, none⟩ = some (.slice na2 yc.length nc2) ∧ w'.cell? ⟨b2, o2 + k * 4 + 3, none⟩ = some (.slice ga2 yg.length gc2)))) (by kernel_rfl) HS0.out (fun hHeld => ?_)
        refine wpAnyH_take (i := 0) (oi := { dst := some 22, op := Op.move (Operand.tmp 0), type := 22, pos := "ostler.go:560", after := #[], guard := none }) (v := ?v1x0) rfl (by kernel_rfl) (by kernel_rfl) (by kernel_rfl) (fun _ _ _ h => h) (Or.inl ⟨by rfl, ?h1x0⟩) (by assumption) ?r1x0
        case h1x0 =>
          intro w' hSw
          (try dsimp only at hSw)
          go_simp
          first | done | with_reducible rfl | rfl
        (try simp only [Act.put, List.setIfInBounds_toArray, List.set_cons_zero, List.set_cons_succ])
        refine wpAnyH_take (i := 1) (oi := { dst := some 23, op := Op.move (Operand.tmp 5), type := 3, pos := "ostler.go:560", after := #[], guard := none }) (v := ?v2x1) rfl (by kernel_rfl) (by kernel_rfl) (by kernel_rfl) (fun _ _ _ h => h) (Or.inl ⟨by rfl, ?h2x1⟩) (by assumption) ?r2x1
        case h2x1 =>
          intro w' hSw
          (try dsimp only at hSw)
          go_simp
          first | done | with_reducible rfl | rfl
        (try simp only [Act.put, List.setIfInBounds_toArray, List.set_cons_zero, List.set_cons_succ])
        refine wpAnyH_take (i := 2) (oi := { dst := some 24, op := Op.indexAddr 22 (Operand.tmp 22) (Operand.tmp 23), type := 0, pos := "ostler.go:560", after := #[{ on := 0, ground := Ground.data }, { on := 1, ground := Ground.data }], guard := none }) (v := ?v3x2) rfl (by kernel_rfl) (by kernel_rfl) (by kernel_rfl) (fun _ _ _ h => h) (Or.inl ⟨by rfl, ?h3x2⟩) (by assumption) ?r3x2
        case h3x2 =>
          intro w' hSw
          (try dsimp only at hSw)
          go_simp
          first | done | with_reducible rfl | rfl
        (try simp only [Act.put, List.setIfInBounds_toArray, List.set_cons_zero, List.set_cons_succ])
        refine wpAnyH_take (i := 3) (oi := { dst := some 25, op := Op.fieldAddr 67 (Operand.tmp 24) 0, type := 0, pos := "ostler.go:560", after := #[{ on := 2, ground := Ground.data }], guard := none }) (v := ?v4x3) rfl (by kernel_rfl) (by kernel_rfl) (by kernel_rfl) (fun _ _ _ h => h) (Or.inl ⟨by rfl, ?h4x3⟩) (by assumption) ?r4x3
        case h4x3 =>
          intro w' hSw
          (try dsimp only at hSw)
          go_simp
          first | done | with_reducible rfl | rfl
        (try simp only [Act.put, List.setIfInBounds_toArray, List.set_cons_zero, List.set_cons_succ])
        refine wpAnyH_take (i := 4) (oi := { dst := some 26, op := Op.load 59 (Operand.tmp 25), type := 59, pos := "ostler.go:560", after := #[{ on := 3, ground := Ground.data }], guard := none }) (v := ?v5x4) rfl (by kernel_rfl) (by kernel_rfl) (by kernel_rfl) (fun _ _ _ h => h) (Or.inl ⟨by rfl, ?h5x4⟩) (by assumption) ?r5x4
        case h5x4 =>
          intro w' hSw
          (try dsimp only at hSw)
          go_simp
          first | done | with_reducible rfl | rfl
        (try simp only [Act.put, List.setIfInBounds_toArray, List.set_cons_zero, List.set_cons_succ])
        refine wpAnyH_take (i := 5) (oi := { dst := some 27, op := Op.move (Operand.tmp 1), type := 22, pos := "ostler.go:560", after := #[], guard := none }) (v := ?v6x5) rfl (by kernel_rfl) (by kernel_rfl) (by kernel_rfl) (fun _ _ _ h => h) (Or.inl ⟨by rfl, ?h6x5⟩) (by assumption) ?r6x5
        case h6x5 =>
          intro w' hSw
          (try dsimp only at hSw)
          go_simp
          first | done | with_reducible rfl | rfl
        (try simp only [Act.put, List.setIfInBounds_toArray, List.set_cons_zero, List.set_cons_succ])
        refine wpAnyH_take (i := 6) (oi := { dst := some 28, op := Op.move (Operand.tmp 5), type := 3, pos := "ostler.go:560", after := #[], guard := none }) (v := ?v7x6) rfl (by kernel_rfl) (by kernel_rfl) (by kernel_rfl) (fun _ _ _ h => h) (Or.inl ⟨by rfl, ?h7x6⟩) (by assumption) ?r7x6
        case h7x6 =>
          intro w' hSw
          (try dsimp only at hSw)
          go_simp
          first | done | with_reducible rfl | rfl
        (try simp only [Act.put, List.setIfInBounds_toArray, List.set_cons_zero, List.set_cons_succ])
        refine wpAnyH_take (i := 7) (oi := { dst := some 29, op := Op.indexAddr 22 (Operand.tmp 27) (Operand.tmp 28), type := 0, pos := "ostler.go:560", after := #[{ on := 5, ground := Ground.data }, { on := 6, ground := Ground.data }], guard := none }) (v := ?v8x7) rfl (by kernel_rfl) (by kernel_rfl) (by kernel_rfl) (fun _ _ _ h => h) (Or.inl ⟨by rfl, ?h8x7⟩) (by assumption) ?r8x7
        case h8x7 =>
          intro w' hSw
          (try dsimp only at hSw)
          go_simp
          first | done | with_reducible rfl | rfl
        (try simp only [Act.put, List.setIfInBounds_toArray, List.set_cons_zero, List.set_cons_succ])
        refine wpAnyH_take (i := 8) (oi := { dst := some 30, op := Op.fieldAddr 67 (Operand.tmp 29) 0, type := 0, pos := "ostler.go:560", after := #[{ on := 7, ground := Ground.data }], guard := none }) (v := ?v9x8) rfl (by kernel_rfl) (by kernel_rfl) (by kernel_rfl) (fun _ _ _ h => h) (Or.inl ⟨by rfl, ?h9x8⟩) (by assumption) ?r9x8
        case h9x8 =>
          intro w' hSw
          (try dsimp only at hSw)
          go_simp
          first | done | with_reducible rfl | rfl
        (try simp only [Act.put, List.setIfInBounds_toArray, List.set_cons_zero, List.set_cons_succ])
        refine wpAnyH_take (i := 9) (oi := { dst := some 31, op := Op.load 59 (Operand.tmp 30), type := 59, pos := "ostler.go:560", after := #[{ on := 8, ground := Ground.data }], guard := none }) (v := ?v10x9) rfl (by kernel_rfl) (by kernel_rfl) (by kernel_rfl) (fun _ _ _ h => h) (Or.inl ⟨by rfl, ?h10x9⟩) (by assumption) ?r10x9
        case h10x9 =>
          intro w' hSw
          (try dsimp only at hSw)
          go_simp
          first | done | with_reducible rfl | rfl
        (try simp only [Act.put, List.setIfInBounds_toArray, List.set_cons_zero, List.set_cons_succ])
        refine wpAnyH_ready (rs := [10]) (by kernel_rfl) (by simp) (AllReadyH.cons rfl (fun K hK => ?_) AllReadyH.nil)
        go_simp
        go_wp2_with fail
        refine HSP.out.mono ?_
        rintro e W1 ⟨sb, rfl, hsb, hb1⟩
        have HB2 := hideIt (HB1.out.trans ((show Below wr.heap.size wr W1 from ⟨hb1.os, hb1.tape, hb1.output, hb1.size, hb1.block⟩).mono HB1.out.size))
        have HBW := hideIt (show Below wr.heap.size wr W1 from ⟨hb1.os, hb1.tape, hb1.output, hb1.size, hb1.block⟩)
        have HSB := hideIt hsb
        have HS1 := hideIt (show (W1.cell? ⟨b1, o1 + k * 4, none⟩ = some (.string xn) ∧ W1.cell? ⟨b1, o1 + k * 4 + 1, none⟩ = some (.int .i64 xp) ∧ W1.cell? ⟨b1, o1 + k * 4 + 2, none⟩ = some (.slice na1 xc.length nc1) ∧ W1.cell? ⟨b1, o1 + k * 4 + 3, none⟩ = some (.slice ga1 xg.length gc1)) ∧ (W1.cell? ⟨b2, o2 + k * 4, none⟩ = some (.string yn) ∧ W1.cell? ⟨b2, o2 + k * 4 + 1, none⟩ = some (.int .i64 yp) ∧ W1.cell? ⟨b2, o2 + k * 4 + 2, none⟩ = some (.slice na2 yc.length nc2) ∧ W1.cell? ⟨b2, o2 + k * 4 + 3, none⟩ = some (.slice ga2 yg.length gc2)) from ⟨⟨(hb1.cell (p := ⟨b1, o1 + k * 4, none⟩) HL1.out).trans HS0.out.1.1, (hb1.cell (p := ⟨b1, o1 + k * 4 + 1, none⟩) HL1.out).trans HS0.out.1.2.1, (hb1.cell (p := ⟨b1, o1 + k * 4 + 2, none⟩) HL1.out).trans HS0.out.1.2.2.1, (hb1.cell (p := ⟨b1, o1 + k * 4 + 3, none⟩) HL1.out).trans HS0.out.1.2.2.2⟩, ⟨(hb1.cell (p := ⟨b2, o2 + k * 4, none⟩) HL2.out).trans HS0.out.2.1, (hb1.cell (p := ⟨b2, o2 + k * 4 + 1, none⟩) HL2.out).trans HS0.out.2.2.1, (hb1.cell (p := ⟨b2, o2 + k * 4 + 2, none⟩) HL2.out).trans HS0.out.2.2.2.1, (hb1.cell (p := ⟨b2, o2 + k * 4 + 3, none⟩) HL2.out).trans HS0.out.2.2.2.2⟩⟩)
        clear hb1 hsb
        go_wp2_with fail
        refine hK.out _ _ HS1.out (fun hHeld => ?_)
        clear hK K
        refine wpAnyH_take (i := 11) (oi := { dst := some 6, op := Op.assign (Operand.tmp 32), type := 4, pos := "ostler.go:560", after := #[{ on := 10, ground := Ground.data }, { on := 10, ground := Ground.chain }, { on := 0, ground := Ground.phase }, { on := 1, ground := Ground.phase }, { on := 2, ground := Ground.phase }, { on := 3, ground := Ground.phase }, { on := 4, ground := Ground.phase }, { on := 5, ground := Ground.phase }, { on := 6, ground := Ground.phase }, { on := 7, ground := Ground.phase }, { on := 8, ground := Ground.phase }, { on := 9, ground := Ground.phase }, { on := 10, ground := Ground.phase }], guard := none }) (v := ?v11x11) rfl (by kernel_rfl) (by kernel_rfl) (by kernel_rfl) (fun _ _ _ h => h) (Or.inl ⟨by rfl, ?h11x11⟩) (by assumption) ?r11x11
        case h11x11 =>
          intro w' hSw
          (try dsimp only at hSw)
          go_simp
          first | done | with_reducible rfl | rfl
        (try simp only [Act.put, List.setIfInBounds_toArray, List.set_cons_zero, List.set_cons_succ])
        refine wpAnyH_done (by kernel_rfl) ?_ _
        clear hHeld HSP HS0
        have r3 := HS1.out.1.2.2.2
        have s3 := HS1.out.2.2.2.2
        have KP : Hid (PQ → (⟨xn, xp, xc⟩ : Pd) = ⟨yn, yp, yc⟩) := fun e => by have h := HK.out e; injection h
        have KG : Hid (PQ → xg = yg) := fun e => by have h := HK.out e; injection h
        clear HK
        cases sb with
        | false =>
          go_wp2_with fail
          go_quiet (fail)
          go_wp2_with fail
          go_ret
          exact ⟨_, rfl, fun e => absurd (HSB.out (KP.out e)) (by decide), HB2.out.trans ((below_drewNE _ _).mono HB2.out.size)⟩
        | true =>
          clear HSB KP
          by_cases e2 : xg.length = yg.length
          · rw [← e2] at s3
            have E2 := hideIt e2
            clear e2 gm2
            go_wp2_with fail
            go_quiet (fail)
            go_wp2_with fail
            go_loopw [7] (fun i wq => ∃ j : Nat, j ≤ xg.length ∧ i = .int .i64 j ∧ Below W1.heap.size W1 wq) (fun i _ => xg.length - (intOf i).toNat)
            case atStart => exact ⟨0, by omega, rfl, below_drewNE _ _⟩
            case round =>
              obtain ⟨j, hj, rfl, hb⟩ := hrel
              have hl1 := Nat.lt_of_lt_of_le HL1.out HBW.out.size
              have hl2 := Nat.lt_of_lt_of_le HL2.out HBW.out.size
              have r4 := (hb.cell (p := ⟨b1, o1 + k * 4 + 3, none⟩) hl1).trans r3
              have s4 := (hb.cell (p := ⟨b2, o2 + k * 4 + 3, none⟩) hl2).trans s3
              have HB3 := hideIt (HB2.out.trans (hb.mono HB2.out.size))
              have HBv := hideIt (HBW.out.trans (hb.mono HBW.out.size))
              have HBj := hideIt hb
              clear hb
              by_cases hjl : j < xg.length
              · obtain ⟨u1, v1, dv1, rfl, hu1, x0, x1, hi1⟩ := HG1.out j hjl
                obtain ⟨u2, v2, dv2, rfl, hu2, y0, y1, hi2⟩ := HG2.out j (by rw [← E2.out]; exact hjl)
                have x0 := (HBv.out.cell (p := ⟨u1, v1 + j * 2, none⟩) hu1).trans x0
                have x1 := (HBv.out.cell (p := ⟨u1, v1 + j * 2 + 1, none⟩) hu1).trans x1
                have y0 := (HBv.out.cell (p := ⟨u2, v2 + j * 2, none⟩) hu2).trans y0
                have y1 := (HBv.out.cell (p := ⟨u2, v2 + j * 2 + 1, none⟩) hu2).trans y1
                have j1 : Hid (PQ → (gv xg j).cp = (gv yg j).cp) := fun e => by rw [KG.out e]
                have j2 : Hid (PQ → (gv xg j).dv = (gv yg j).dv) := fun e => by rw [KG.out e]
                have HI1 := hideIt (hi1.below HBv.out)
                have HI2 := hideIt (hi2.below HBv.out)
                obtain ⟨da1, dc1, rfl, _, _⟩ := hi1
                obtain ⟨da2, dc2, rfl, _, _⟩ := hi2
                generalize (gv xg j).cp = cp1 at *
                generalize (gv yg j).cp = cp2 at *
                generalize (gv xg j).dv = dx at *
                generalize (gv yg j).dv = dy at *
                have hX := (Below.refl wr.heap.size wr).alloc (Nat.le_refl _) (.cells #[.int .u64 cp1, .slice da1 dx.length dc1] 64)
                have s4 := (hX.cell (p := ⟨b2, o2 + k * 4 + 3, none⟩) (Nat.lt_of_lt_of_le hl2 HBj.out.size)).trans s4
                have y0 := (hX.cell (p := ⟨u2, v2 + j * 2, none⟩) (Nat.lt_of_lt_of_le hu2 HBv.out.size)).trans y0
                have y1 := (hX.cell (p := ⟨u2, v2 + j * 2 + 1, none⟩) (Nat.lt_of_lt_of_le hu2 HBv.out.size)).trans y1
                have HXY := hideIt (hX.alloc hX.size (.cells #[.int .u64 cp2, .slice da2 dy.length dc2] 64))
                have HSN := hideIt (sameInts_any _ _ dx dy _ (HI1.out.below HXY.out) (HI2.out.below HXY.out))
                have HB6 := hideIt (HB3.out.trans (HXY.out.mono HB3.out.size))
                have HBj6 := hideIt (HBj.out.trans (HXY.out.mono HBj.out.size))
                have z0 : ((wr.alloc (.cells #[.int .u64 cp1, .slice da1 dx.length dc1] 64)).alloc (.cells #[.int .u64 cp2, .slice da2 dy.length dc2] 64)).cell? ⟨wr.heap.size, 0, none⟩ = some (.int .u64 cp1) := by simp
                have z1 : ((wr.alloc (.cells #[.int .u64 cp1, .slice da1 dx.length dc1] 64)).alloc (.cells #[.int .u64 cp2, .slice da2 dy.length dc2] 64)).cell? ⟨wr.heap.size, 1, none⟩ = some (.slice da1 dx.length dc1) := by simp
                have z2 : ((wr.alloc (.cells #[.int .u64 cp1, .slice da1 dx.length dc1] 64)).alloc (.cells #[.int .u64 cp2, .slice da2 dy.length dc2] 64)).cell? ⟨wr.heap.size + 1, 0, none⟩ = some (.int .u64 cp2) := by simp
                have z3 : ((wr.alloc (.cells #[.int .u64 cp1, .slice da1 dx.length dc1] 64)).alloc (.cells #[.int .u64 cp2, .slice da2 dy.length dc2] 64)).cell? ⟨wr.heap.size + 1, 1, none⟩ = some (.slice da2 dy.length dc2) := by simp
                clear hX HI1 HI2 HG1 HG2
                go_wp2_with fail
                generalize ((wr.alloc (.cells #[.int .u64 cp1, .slice da1 dx.length dc1] 64)).alloc (.cells #[.int .u64 cp2, .slice da2 dy.length dc2] 64)) = W6 at *
                refine HSN.out.mono ?_
                rintro e w7 ⟨db, rfl, hdb, n7, rfl⟩
                have HDB := hideIt hdb
                clear hdb HSN
                by_cases e3 : cp1 = cp2
                · subst e3
                  cases db with
                  | true =>
                    go_wp2_with fail
                    go_roundw
                    case rel => exact ⟨j + 1, by omega, by go_num, HBj6.out.trans ((below_drewNE _ _).mono HBj6.out.size)⟩
                    case measure => simp [intOf]; omega
                  | false =>
                    go_wp2_with fail
                    go_ret
                    exact ⟨_, rfl, fun e => absurd (HDB.out (j2.out e)) (by decide), HB6.out.trans ((below_drewNE _ _).mono HB6.out.size)⟩
                · have e3' : ((cp1 : Int) == (cp2 : Int)) = false := by simp; omega
                  have e3'' : (cp1 == cp2) = false := by simpa using e3
                  have e3d : ¬ ((cp1 : Int) = (cp2 : Int)) := by omega
                  have E3 := hideIt e3
                  clear e3
                  go_wp2_with fail
                  go_ret
                  exact ⟨_, rfl, fun e => absurd (j1.out e) E3.out, HB6.out.trans ((below_drewNE _ _).mono HB6.out.size)⟩
              · have hje : j = xg.length := by omega
                subst hje
                go_wp2_with fail
                go_roundw
                case rel => exact ⟨k + 1, by omega, by go_num, HB3.out⟩
                case measure => simp [intOf]; omega
          · have e2' : ((xg.length : Int) == (yg.length : Int)) = false := by simp; omega
            have E2 := hideIt e2
            clear e2
            go_wp2_with fail
            go_quiet (fail)
            go_wp2_with fail
            go_ret
            exact ⟨_, rfl, fun e => absurd (congrArg List.length (KG.out e)) E2.out, HB2.out.trans ((below_drewNE _ _).mono HB2.out.size)⟩
      · have hke : k = hs.length := by omega
        subst hke
        go_wp2_with fail
        go_ret
        exact ⟨_, rfl, fun _ => rfl, HB1.out⟩
  · have hb : ((hs.length : Int) == (gs.length : Int)) = false := by simp; omega
    have E1 := hideIt e1
    clear e1
    go_enter Tryz.func17, Tryz.ntmps17
    go_wp2_with fail
    go_ret
    exact ⟨_, rfl, fun e => absurd (k1.out e) E1.out, Below.refl _ _⟩
end Go.Proofs.YtlljniaobbbjgaaGreatDoor

