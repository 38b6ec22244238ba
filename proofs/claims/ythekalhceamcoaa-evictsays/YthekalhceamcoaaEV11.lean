/- Who goes first, as the document says: the contract of ostleryref.first. -/
import Derived.Test.YthekalhceamcoaaEV9
import Derived.Test.YthekalhceamcoaaQR2
import Derived.Deep.RegionHeld3
namespace Go.Proofs.Ythekalhceamcoaa
open Go.RowKit
open Qos (Nd Ct Pd nd ct pd sumM sumB Mild usedOf Tame key keyLt turnOf ltS)
def firstOf (X Y pp qp : Int) (pn qn : ByteArray) : Bool := if (decide (0 < X) != decide (0 < Y)) = true then decide (0 < X) else if pp ≠ qp then decide (pp < qp) else if X ≠ Y then decide (Y < X) else ltS pn qn
theorem first_key (us : List Nd) (p q : Pd) : keyLt (key us p) (key us q) = firstOf (usedOf us p.nm - sumB p.cs p.cs.length) (usedOf us q.nm - sumB q.cs q.cs.length) p.pr q.pr p.nm q.nm := by
  rw [Bool.eq_iff_iff, Qos.keyLt_eq]
  show turnOf (usedOf us p.nm - sumB p.cs p.cs.length) < turnOf (usedOf us q.nm - sumB q.cs q.cs.length) ∨ turnOf (usedOf us p.nm - sumB p.cs p.cs.length) = turnOf (usedOf us q.nm - sumB q.cs q.cs.length) ∧ (p.pr < q.pr ∨ p.pr = q.pr ∧ ((usedOf us q.nm - sumB q.cs q.cs.length) < (usedOf us p.nm - sumB p.cs p.cs.length) ∨ (usedOf us p.nm - sumB p.cs p.cs.length) = (usedOf us q.nm - sumB q.cs q.cs.length) ∧ Qos.one (ltS p.nm q.nm) = 1)) ↔ _
  generalize usedOf us p.nm - sumB p.cs p.cs.length = X
  generalize usedOf us q.nm - sumB q.cs q.cs.length = Y
  unfold firstOf turnOf Qos.one
  generalize ltS p.nm q.nm = s
  cases s <;> by_cases h1 : 0 < X <;> by_cases h2 : 0 < Y <;> by_cases h3 : p.pr = q.pr <;> by_cases h4 : X = Y <;> simp [h1, h2, h3, h4] <;> omega
set_option maxRecDepth 100000 in
set_option maxHeartbeats 4000000 in
theorem first_any (p q : Pd) (cp cq uv : Value) (us : List Nd) (w : World) (hp : ConsAt w cp p.cs) (hq : ConsAt w cq q.cs) (mp : Mild p.cs) (mq : Mild q.cs) (hu : NeedsAt w uv us) (ht : Tame us) :
    Calls Try.prog 110 #[podV p cp, podV q cq, uv] w fun e w' => e = .returned (.bool (keyLt (key us p) (key us q))) ∧ Below w.heap.size w w' := by
  rw [first_key]
  have hs1 := hp.slice
  have hs2 := hq.slice
  have hb0 := ((Below.refl w.heap.size w).alloc (Nat.le_refl _) (.cells #[.string p.nm, .int .i64 p.pr, cp] 60)).alloc (by simp) (.cells #[.string q.nm, .int .i64 q.pr, cq] 60)
  have HBd := hideIt (below_drew' hb0)
  have HPd := hideIt (((PBoxAt.made w p cp).alloc (.cells #[.string q.nm, .int .i64 q.pr, cq] 60)).below (below_drew' (Below.refl _ _)))
  have hQ := (PBoxAt.made (w.alloc (.cells #[.string p.nm, .int .i64 p.pr, cp] 60)) q cq).below (below_drew' (Below.refl _ _))
  rw [show (w.alloc (.cells #[.string p.nm, .int .i64 p.pr, cp] 60)).heap.size = w.heap.size + 1 by simp] at hQ
  have HQd := hideIt hQ
  have HUP := hideIt (fun W (hb : Below w.heap.size w W) => usedR_any uv us p.nm W (hu.below hb))
  have HUQ := hideIt (fun W (hb : Below w.heap.size w W) => usedR_any uv us q.nm W (hu.below hb))
  have HAP := hideIt (fun W (hb : Below w.heap.size w W) => asked_any p cp W (hp.below hb) mp)
  have HAQ := hideIt (fun W (hb : Below w.heap.size w W) => asked_any q cq W (hq.below hb) mq)
  have i1 := Qos.used_in ht p.nm
  have i2 := Qos.used_in ht q.nm
  have i3 := Qos.sumB_in mp (Nat.le_refl _)
  have i4 := Qos.sumB_in mq (Nat.le_refl _)
  unfold podV at HAP HAQ ⊢
  obtain ⟨pa, pn, pc, rfl⟩ := hs1
  obtain ⟨qa, qn, qc, rfl⟩ := hs2
  obtain ⟨ua, uc, rfl, _, _⟩ := hu
  clear hp hq hb0 hQ
  generalize sumM p.cs p.cs.length = M1 at *
  generalize sumM q.cs q.cs.length = M2 at *
  generalize sumB p.cs p.cs.length = S1 at *
  generalize sumB q.cs q.cs.length = S2 at *
  generalize usedOf us p.nm = U1 at *
  generalize usedOf us q.nm = U2 at *
  have e1 : wrap64 (U1 - S1) = U1 - S1 := by unfold wrap64; omega
  have e1' : IntKind.i64.wrap (U1 - S1) = U1 - S1 := by rw [IntKind.wrap_i64]; omega
  have e2 : wrap64 (U2 - S2) = U2 - S2 := by unfold wrap64; omega
  have e2' : IntKind.i64.wrap (U2 - S2) = U2 - S2 := by rw [IntKind.wrap_i64]; omega
  go_enter Try.func110, Try.ntmps110
  go_wp2_with fail
  refine wp_region_held_drew (S := (fun w' => (w'.cell? ⟨w.heap.size, 0, none⟩ = some (.string p.nm) ∧ w'.cell? ⟨w.heap.size, 1, none⟩ = some (.int .i64 p.pr) ∧ w'.cell? ⟨w.heap.size, 2, none⟩ = some (.slice pa pn pc)) ∧ (w'.cell? ⟨w.heap.size + 1, 0, none⟩ = some (.string q.nm) ∧ w'.cell? ⟨w.heap.size + 1, 1, none⟩ = some (.int .i64 q.pr) ∧ w'.cell? ⟨w.heap.size + 1, 2, none⟩ = some (.slice qa qn qc)))) (by kernel_rfl) ⟨HPd.out.2, HQd.out.2⟩ (fun hHeld => ?_)
  refine wpAnyH_take (i := 0) (oi := { dst := some 9, op := Op.move (Operand.tmp 2), type := 61, pos := "ostler.go:191", after := #[], guard := none }) (v := ?v1x0) rfl (by kernel_rfl) (by kernel_rfl) (by kernel_rfl) (fun _ _ _ h => h) (Or.inl ⟨by rfl, ?h1x0⟩) (by assumption) ?r1x0
  case h1x0 =>
    intro w' hSw
    (try dsimp only at hSw)
    go_simp
    first | done | with_reducible rfl | rfl
  (try simp only [Act.put, List.setIfInBounds_toArray, List.set_cons_zero, List.set_cons_succ])
  refine wpAnyH_take (i := 1) (oi := { dst := some 10, op := Op.fieldAddr 60 (Operand.tmp 3) 0, type := 0, pos := "ostler.go:191", after := #[], guard := none }) (v := ?v2x1) rfl (by kernel_rfl) (by kernel_rfl) (by kernel_rfl) (fun _ _ _ h => h) (Or.inl ⟨by rfl, ?h2x1⟩) (by assumption) ?r2x1
  case h2x1 =>
    intro w' hSw
    (try dsimp only at hSw)
    go_simp
    first | done | with_reducible rfl | rfl
  (try simp only [Act.put, List.setIfInBounds_toArray, List.set_cons_zero, List.set_cons_succ])
  refine wpAnyH_take (i := 2) (oi := { dst := some 11, op := Op.load 9 (Operand.tmp 10), type := 9, pos := "ostler.go:191", after := #[{ on := 1, ground := Ground.data }], guard := none }) (v := ?v3x2) rfl (by kernel_rfl) (by kernel_rfl) (by kernel_rfl) (fun _ _ _ h => h) (Or.inl ⟨by rfl, ?h3x2⟩) (by assumption) ?r3x2
  case h3x2 =>
    intro w' hSw
    (try dsimp only at hSw)
    go_simp
    first | done | with_reducible rfl | rfl
  (try simp only [Act.put, List.setIfInBounds_toArray, List.set_cons_zero, List.set_cons_succ])
  refine wpAnyH_take (i := 4) (oi := { dst := some 13, op := Op.load 60 (Operand.tmp 3), type := 60, pos := "ostler.go:191", after := #[], guard := none }) (v := ?v4x4) rfl (by kernel_rfl) (by kernel_rfl) (by kernel_rfl) (fun _ _ _ h => h) (Or.inl ⟨by rfl, ?h4x4⟩) (by assumption) ?r4x4
  case h4x4 =>
    intro w' hSw
    (try dsimp only at hSw)
    go_simp
    first | done | with_reducible rfl | rfl
  (try simp only [Act.put, List.setIfInBounds_toArray, List.set_cons_zero, List.set_cons_succ])
  refine wpAnyH_ready (rs := [3]) (by kernel_rfl) (by simp) (AllReadyH.cons rfl (fun K hK => ?_) AllReadyH.nil)
  go_simp
  go_wp2_with fail
  refine (HUP.out _ HBd.out).mono ?_
  rintro e wx ⟨rfl, rfl⟩
  go_wp2_with fail
  refine hK.out _ _ ⟨HPd.out.2, HQd.out.2⟩ (fun hHeld => ?_)
  clear hK K
  refine wpAnyH_ready (rs := [5]) (by kernel_rfl) (by simp) (AllReadyH.cons rfl (fun K hK => ?_) AllReadyH.nil)
  go_simp
  go_wp2_with fail
  refine (HAP.out _ HBd.out).mono ?_
  rintro e w5 ⟨rfl, hb5⟩
  have HP5 := hideIt (HPd.out.below hb5)
  have HQ5 := hideIt (HQd.out.below hb5)
  have HB5 := hideIt (HBd.out.trans (hb5.mono HBd.out.size))
  clear hb5 HPd HQd HBd
  go_wp2_with fail
  refine hK.out _ _ ⟨HP5.out.2, HQ5.out.2⟩ (fun hHeld => ?_)
  clear hK K
  refine wpAnyH_take (i := 6) (oi := { dst := some 15, op := Op.field 89 (Operand.tmp 14) 1, type := 3, pos := "ostler.go:191", after := #[{ on := 5, ground := Ground.data }], guard := none }) (v := Value.int .i64 S1) rfl (by kernel_rfl) (by kernel_rfl) (by kernel_rfl) (fun _ _ _ h => h) (Or.inl ⟨by rfl, ?h5x6⟩) (by assumption) ?r5x6
  case h5x6 =>
    intro w' hSw
    (try dsimp only at hSw)
    go_simp
    first | done | with_reducible rfl | rfl
  (try simp only [Act.put, List.setIfInBounds_toArray, List.set_cons_zero, List.set_cons_succ])
  refine wpAnyH_take (i := 7) (oi := { dst := some 16, op := Op.binOp BinOp.sub 3 (Operand.tmp 12) (Operand.tmp 15) 3, type := 3, pos := "ostler.go:191", after := #[{ on := 3, ground := Ground.data }, { on := 6, ground := Ground.data }], guard := none }) (v := Value.int .i64 (U1 - S1)) rfl (by kernel_rfl) (by kernel_rfl) (by kernel_rfl) (fun _ _ _ h => h) (Or.inl ⟨by rfl, ?h6x7⟩) (by assumption) ?r6x7
  case h6x7 =>
    intro w' hSw
    (try dsimp only at hSw)
    go_simp
    first | done | with_reducible rfl | rfl
  (try simp only [Act.put, List.setIfInBounds_toArray, List.set_cons_zero, List.set_cons_succ])
  refine wpAnyH_take (i := 8) (oi := { dst := some 7, op := Op.assign (Operand.tmp 16), type := 3, pos := "ostler.go:191", after := #[{ on := 7, ground := Ground.data }, { on := 5, ground := Ground.chain }, { on := 0, ground := Ground.phase }, { on := 1, ground := Ground.phase }, { on := 2, ground := Ground.phase }, { on := 3, ground := Ground.phase }, { on := 4, ground := Ground.phase }, { on := 5, ground := Ground.phase }, { on := 6, ground := Ground.phase }, { on := 7, ground := Ground.phase }], guard := none }) (v := ?v7x8) rfl (by kernel_rfl) (by kernel_rfl) (by kernel_rfl) (fun _ _ _ h => h) (Or.inl ⟨by rfl, ?h7x8⟩) (by assumption) ?r7x8
  case h7x8 =>
    intro w' hSw
    (try dsimp only at hSw)
    go_simp
    first | done | with_reducible rfl | rfl
  (try simp only [Act.put, List.setIfInBounds_toArray, List.set_cons_zero, List.set_cons_succ])
  refine wpAnyH_done (by kernel_rfl) ?_ _
  have HPe := hideIt (HP5.out.below (below_drew' (Below.refl _ _)))
  have HQe := hideIt (HQ5.out.below (below_drew' (Below.refl _ _)))
  have HBe := hideIt (below_drew' HB5.out)
  clear hHeld HP5 HQ5 HB5
  go_wp2_with fail
  refine wp_region_held_drew (S := (fun w' => (w'.cell? ⟨w.heap.size, 0, none⟩ = some (.string p.nm) ∧ w'.cell? ⟨w.heap.size, 1, none⟩ = some (.int .i64 p.pr) ∧ w'.cell? ⟨w.heap.size, 2, none⟩ = some (.slice pa pn pc)) ∧ (w'.cell? ⟨w.heap.size + 1, 0, none⟩ = some (.string q.nm) ∧ w'.cell? ⟨w.heap.size + 1, 1, none⟩ = some (.int .i64 q.pr) ∧ w'.cell? ⟨w.heap.size + 1, 2, none⟩ = some (.slice qa qn qc)))) (by kernel_rfl) ⟨HPe.out.2, HQe.out.2⟩ (fun hHeld => ?_)
  refine wpAnyH_take (i := 0) (oi := { dst := some 17, op := Op.move (Operand.tmp 2), type := 61, pos := "ostler.go:192", after := #[], guard := none }) (v := ?v8x0) rfl (by kernel_rfl) (by kernel_rfl) (by kernel_rfl) (fun _ _ _ h => h) (Or.inl ⟨by rfl, ?h8x0⟩) (by assumption) ?r8x0
  case h8x0 =>
    intro w' hSw
    (try dsimp only at hSw)
    go_simp
    first | done | with_reducible rfl | rfl
  (try simp only [Act.put, List.setIfInBounds_toArray, List.set_cons_zero, List.set_cons_succ])
  refine wpAnyH_take (i := 1) (oi := { dst := some 18, op := Op.fieldAddr 60 (Operand.tmp 4) 0, type := 0, pos := "ostler.go:192", after := #[], guard := none }) (v := ?v9x1) rfl (by kernel_rfl) (by kernel_rfl) (by kernel_rfl) (fun _ _ _ h => h) (Or.inl ⟨by rfl, ?h9x1⟩) (by assumption) ?r9x1
  case h9x1 =>
    intro w' hSw
    (try dsimp only at hSw)
    go_simp
    first | done | with_reducible rfl | rfl
  (try simp only [Act.put, List.setIfInBounds_toArray, List.set_cons_zero, List.set_cons_succ])
  refine wpAnyH_take (i := 2) (oi := { dst := some 19, op := Op.load 9 (Operand.tmp 18), type := 9, pos := "ostler.go:192", after := #[{ on := 1, ground := Ground.data }], guard := none }) (v := ?v10x2) rfl (by kernel_rfl) (by kernel_rfl) (by kernel_rfl) (fun _ _ _ h => h) (Or.inl ⟨by rfl, ?h10x2⟩) (by assumption) ?r10x2
  case h10x2 =>
    intro w' hSw
    (try dsimp only at hSw)
    go_simp
    first | done | with_reducible rfl | rfl
  (try simp only [Act.put, List.setIfInBounds_toArray, List.set_cons_zero, List.set_cons_succ])
  refine wpAnyH_take (i := 4) (oi := { dst := some 21, op := Op.load 60 (Operand.tmp 4), type := 60, pos := "ostler.go:192", after := #[], guard := none }) (v := ?v11x4) rfl (by kernel_rfl) (by kernel_rfl) (by kernel_rfl) (fun _ _ _ h => h) (Or.inl ⟨by rfl, ?h11x4⟩) (by assumption) ?r11x4
  case h11x4 =>
    intro w' hSw
    (try dsimp only at hSw)
    go_simp
    first | done | with_reducible rfl | rfl
  (try simp only [Act.put, List.setIfInBounds_toArray, List.set_cons_zero, List.set_cons_succ])
  refine wpAnyH_ready (rs := [3]) (by kernel_rfl) (by simp) (AllReadyH.cons rfl (fun K hK => ?_) AllReadyH.nil)
  go_simp
  go_wp2_with fail
  refine (HUQ.out _ HBe.out).mono ?_
  rintro e wx ⟨rfl, rfl⟩
  go_wp2_with fail
  refine hK.out _ _ ⟨HPe.out.2, HQe.out.2⟩ (fun hHeld => ?_)
  clear hK K
  refine wpAnyH_ready (rs := [5]) (by kernel_rfl) (by simp) (AllReadyH.cons rfl (fun K hK => ?_) AllReadyH.nil)
  go_simp
  go_wp2_with fail
  refine (HAQ.out _ HBe.out).mono ?_
  rintro e w6 ⟨rfl, hb6⟩
  have HP6 := hideIt (HPe.out.below hb6)
  have HQ6 := hideIt (HQe.out.below hb6)
  have HB6 := hideIt (HBe.out.trans (hb6.mono HBe.out.size))
  clear hb6 HPe HQe HBe
  go_wp2_with fail
  refine hK.out _ _ ⟨HP6.out.2, HQ6.out.2⟩ (fun hHeld => ?_)
  clear hK K
  refine wpAnyH_take (i := 6) (oi := { dst := some 23, op := Op.field 89 (Operand.tmp 22) 1, type := 3, pos := "ostler.go:192", after := #[{ on := 5, ground := Ground.data }], guard := none }) (v := Value.int .i64 S2) rfl (by kernel_rfl) (by kernel_rfl) (by kernel_rfl) (fun _ _ _ h => h) (Or.inl ⟨by rfl, ?h12x6⟩) (by assumption) ?r12x6
  case h12x6 =>
    intro w' hSw
    (try dsimp only at hSw)
    go_simp
    first | done | with_reducible rfl | rfl
  (try simp only [Act.put, List.setIfInBounds_toArray, List.set_cons_zero, List.set_cons_succ])
  refine wpAnyH_take (i := 7) (oi := { dst := some 24, op := Op.binOp BinOp.sub 3 (Operand.tmp 20) (Operand.tmp 23) 3, type := 3, pos := "ostler.go:192", after := #[{ on := 3, ground := Ground.data }, { on := 6, ground := Ground.data }], guard := none }) (v := Value.int .i64 (U2 - S2)) rfl (by kernel_rfl) (by kernel_rfl) (by kernel_rfl) (fun _ _ _ h => h) (Or.inl ⟨by rfl, ?h13x7⟩) (by assumption) ?r13x7
  case h13x7 =>
    intro w' hSw
    (try dsimp only at hSw)
    go_simp
    first | done | with_reducible rfl | rfl
  (try simp only [Act.put, List.setIfInBounds_toArray, List.set_cons_zero, List.set_cons_succ])
  refine wpAnyH_take (i := 8) (oi := { dst := some 8, op := Op.assign (Operand.tmp 24), type := 3, pos := "ostler.go:192", after := #[{ on := 7, ground := Ground.data }, { on := 5, ground := Ground.chain }, { on := 0, ground := Ground.phase }, { on := 1, ground := Ground.phase }, { on := 2, ground := Ground.phase }, { on := 3, ground := Ground.phase }, { on := 4, ground := Ground.phase }, { on := 5, ground := Ground.phase }, { on := 6, ground := Ground.phase }, { on := 7, ground := Ground.phase }], guard := none }) (v := ?v14x8) rfl (by kernel_rfl) (by kernel_rfl) (by kernel_rfl) (fun _ _ _ h => h) (Or.inl ⟨by rfl, ?h14x8⟩) (by assumption) ?r14x8
  case h14x8 =>
    intro w' hSw
    (try dsimp only at hSw)
    go_simp
    first | done | with_reducible rfl | rfl
  (try simp only [Act.put, List.setIfInBounds_toArray, List.set_cons_zero, List.set_cons_succ])
  refine wpAnyH_done (by kernel_rfl) ?_ _
  clear hHeld HUP HUQ HAP HAQ e1 e1' e2 e2' i1 i2 i3 i4
  obtain ⟨q0, q1, q2, q3⟩ := HP6.out
  obtain ⟨r0, r1, r2, r3⟩ := HQ6.out
  generalize hX : U1 - S1 = X at *
  generalize hY : U2 - S2 = Y at *
  have HX := hideIt hX
  have HY := hideIt hY
  clear hX hY
  have HF : Hid (firstOf X Y p.pr q.pr p.nm q.nm = if (decide (0 < X) != decide (0 < Y)) = true then decide (0 < X) else if p.pr ≠ q.pr then decide (p.pr < q.pr) else if X ≠ Y then decide (Y < X) else ltS p.nm q.nm) := rfl
  have key : (0 < X ∧ ¬ 0 < Y) ∨ (¬ 0 < X ∧ 0 < Y) ∨ (0 < X ∧ 0 < Y) ∨ (¬ 0 < X ∧ ¬ 0 < Y) := by omega
  rcases key with ⟨k1, k2⟩ | ⟨k1, k2⟩ | ⟨k1, k2⟩ | ⟨k1, k2⟩
  · have HE := hideIt (show firstOf X Y p.pr q.pr p.nm q.nm = true by rw [HF.out]; simp [k1, k2])
    clear HF
    go_wp2_with fail
    go_ret
    exact ⟨by rw [HX.out, HY.out, HE.out]; rfl, HB6.out⟩
  · have HE := hideIt (show firstOf X Y p.pr q.pr p.nm q.nm = false by rw [HF.out]; simp [k1, k2])
    clear HF
    go_wp2_with fail
    go_ret
    exact ⟨by rw [HX.out, HY.out, HE.out]; rfl, HB6.out⟩
  all_goals
    have HF2 := hideIt (show firstOf X Y p.pr q.pr p.nm q.nm = if p.pr ≠ q.pr then decide (p.pr < q.pr) else if X ≠ Y then decide (Y < X) else ltS p.nm q.nm by rw [HF.out]; simp [k1, k2])
    clear HF
    by_cases h3 : p.pr = q.pr
    · by_cases h4 : X = Y
      · have HE := hideIt (show firstOf X Y p.pr q.pr p.nm q.nm = ltS p.nm q.nm by rw [HF2.out, if_neg (by simp [h3]), if_neg (by simp [h4])])
        have b1 : (p.pr != q.pr) = false := by simp [h3]
        have b2 : (X != Y) = false := by simp [h4]
        clear HF2 h3 h4
        go_wp2_with fail
        go_ret
        exact ⟨by rw [HX.out, HY.out, HE.out]; rfl, HB6.out⟩
      · have HE := hideIt (show firstOf X Y p.pr q.pr p.nm q.nm = decide (Y < X) by rw [HF2.out, if_neg (by simp [h3]), if_pos h4])
        have b1 : (p.pr != q.pr) = false := by simp [h3]
        have b2 : (X != Y) = true := by simp [h4]
        clear HF2 h3 h4
        go_wp2_with fail
        go_ret
        exact ⟨by rw [HX.out, HY.out, HE.out]; rfl, HB6.out⟩
    · have HE := hideIt (show firstOf X Y p.pr q.pr p.nm q.nm = decide (p.pr < q.pr) by rw [HF2.out, if_pos h3])
      have b1 : (p.pr != q.pr) = true := by simp [h3]
      clear HF2 h3
      go_wp2_with fail
      go_ret
      exact ⟨by rw [HX.out, HY.out, HE.out]; rfl, HB6.out⟩
end Go.Proofs.Ythekalhceamcoaa
