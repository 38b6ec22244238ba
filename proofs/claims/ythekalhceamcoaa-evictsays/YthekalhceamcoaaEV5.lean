/- Who goes first, of two: the contract of a closure of evict.order. -/
import Derived.Test.YthekalhceamcoaaEV4
namespace Go.Proofs.Ythekalhceamcoaa
open Go.RowKit
open Qos (Nd Ct Pd nd ct pd sumM sumB Mild usedOf Tame key keyCmp turnOf cmpS orI)
/-- What the comparison stands on. -/
structure StandE (w : World) (mc fc B n : Nat) (us : List Nd) : Prop where
  m : w.cell? ⟨mc, 0, none⟩ = some (.map (some B))
  f : w.cell? ⟨fc, 0, none⟩ = some (.func (.func 145) #[] #[.pointer (some ⟨mc, 0, none⟩)])
  u : UseMap w B n us
theorem StandE.lts {w : World} {mc fc B n : Nat} {us : List Nd} (h : StandE w mc fc B n us) : mc < w.heap.size ∧ fc < w.heap.size ∧ B < w.heap.size := ⟨World.block_lt_of_cell? w _ h.m, World.block_lt_of_cell? w _ h.f, h.u.lt⟩
theorem StandE.below {w w' : World} {mc fc B n K : Nat} {us : List Nd} (h : StandE w mc fc B n us) (hb : Below K w w') (hK : mc < K ∧ fc < K ∧ B < K) : StandE w' mc fc B n us :=
  ⟨(hb.cell (p := ⟨mc, 0, none⟩) hK.1).trans h.m, (hb.cell (p := ⟨fc, 0, none⟩) hK.2.1).trans h.f, h.u.below hb hK.2.2⟩
set_option maxRecDepth 100000 in
set_option maxHeartbeats 4000000 in
theorem cmpPods_any (p q : Pd) (cp cq : Value) (mc fc B n : Nat) (us : List Nd) (w : World) (hp : ConsAt w cp p.cs) (hq : ConsAt w cq q.cs) (mp : Mild p.cs) (mq : Mild q.cs) (np : p.nm.size ≤ 1000) (nq' : q.nm.size ≤ 1000) (hS : StandE w mc fc B n us) (ht : Tame us) :
    Calls Try.prog 147 #[podV p cp, podV q cq, .pointer (some ⟨fc, 0, none⟩)] w fun e w' => e = .returned (.int .i64 (keyCmp (key us p) (key us q))) ∧ Below w.heap.size w w' ∧ w.drawn ≤ w'.drawn := by
  have hs1 := hp.slice
  have hs2 := hq.slice
  have HK : Hid (keyCmp (key us p) (key us q) = or4 (Lib.compareInt (turnOf (usedOf us p.nm - sumB p.cs p.cs.length)) (turnOf (usedOf us q.nm - sumB q.cs q.cs.length))) (Lib.compareInt p.pr q.pr) (Lib.compareInt (usedOf us q.nm - sumB q.cs q.cs.length) (usedOf us p.nm - sumB p.cs p.cs.length)) (cmpS p.nm q.nm)) := rfl
  have hb0 := ((Below.refl w.heap.size w).alloc (Nat.le_refl _) (.cells #[.string p.nm, .int .i64 p.pr, cp] 60)).alloc (by simp) (.cells #[.string q.nm, .int .i64 q.pr, cq] 60)
  have hbd := below_drew' hb0
  have HBd := hideIt hbd
  have HPd := hideIt (((PBoxAt.made w p cp).alloc (.cells #[.string q.nm, .int .i64 q.pr, cq] 60)).below (below_drew' (Below.refl _ _)))
  have hQ := (PBoxAt.made (w.alloc (.cells #[.string p.nm, .int .i64 p.pr, cp] 60)) q cq).below (below_drew' (Below.refl _ _))
  rw [show (w.alloc (.cells #[.string p.nm, .int .i64 p.pr, cp] 60)).heap.size = w.heap.size + 1 by simp] at hQ
  have HQd := hideIt hQ
  have HSd := hideIt (hS.below hbd hS.lts)
  have HAP := hideIt (fun W (hb : Below w.heap.size w W) => above_any p cp mc B n us W (hp.below hb) mp (hS.below hb hS.lts).m (hS.below hb hS.lts).u ht np)
  have HAQ := hideIt (fun W (hb : Below w.heap.size w W) => above_any q cq mc B n us W (hq.below hb) mq (hS.below hb hS.lts).m (hS.below hb hS.lts).u ht nq')
  have HST := hideIt (fun W (hb : Below w.heap.size w W) => hS.below hb hS.lts)
  unfold podV at HAP HAQ ⊢
  obtain ⟨pa, pn, pc, rfl⟩ := hs1
  obtain ⟨qa, qn, qc, rfl⟩ := hs2
  rw [HK.out]
  clear HK hp hq hS hb0 hbd hQ
  generalize usedOf us p.nm - sumB p.cs p.cs.length = X at *
  generalize usedOf us q.nm - sumB q.cs q.cs.length = Y at *
  have HD0 : Hid (w.drawn ≤ (((w.alloc (.cells #[.string p.nm, .int .i64 p.pr, .slice pa pn pc] 60)).alloc (.cells #[.string q.nm, .int .i64 q.pr, .slice qa qn qc] 60)).drew).drawn) := Nat.le_succ _
  go_enter Try.func147, Try.ntmps147
  go_wp2_with fail
  refine wp_region_held_drew (S := (fun w' => (w'.cell? ⟨w.heap.size, 0, none⟩ = some (.string p.nm) ∧ w'.cell? ⟨w.heap.size, 1, none⟩ = some (.int .i64 p.pr) ∧ w'.cell? ⟨w.heap.size, 2, none⟩ = some (.slice pa pn pc)) ∧ (w'.cell? ⟨w.heap.size + 1, 0, none⟩ = some (.string q.nm) ∧ w'.cell? ⟨w.heap.size + 1, 1, none⟩ = some (.int .i64 q.pr) ∧ w'.cell? ⟨w.heap.size + 1, 2, none⟩ = some (.slice qa qn qc)) ∧ w'.cell? ⟨fc, 0, none⟩ = some (.func (.func 145) #[] #[.pointer (some ⟨mc, 0, none⟩)]))) (by kernel_rfl) ⟨HPd.out.2, HQd.out.2, (HST.out _ HBd.out).f⟩ (fun hHeld => ?_)
  refine wpAnyH_take (i := 0) (oi := { dst := some 8, op := Op.load 86 (Operand.tmp 2), type := 86, pos := "evict.go:48", after := #[], guard := none }) (v := ?v1x0) rfl (by kernel_rfl) (by kernel_rfl) (by kernel_rfl) (fun _ _ _ h => h) (Or.inl ⟨by rfl, ?h1x0⟩) (by assumption) ?r1x0
  case h1x0 =>
    intro w' hSw
    (try dsimp only at hSw)
    go_simp
    first | done | with_reducible rfl | rfl
  (try simp only [Act.put, List.setIfInBounds_toArray, List.set_cons_zero, List.set_cons_succ])
  refine wpAnyH_take (i := 1) (oi := { dst := some 9, op := Op.load 60 (Operand.tmp 3), type := 60, pos := "evict.go:48", after := #[], guard := none }) (v := ?v2x1) rfl (by kernel_rfl) (by kernel_rfl) (by kernel_rfl) (fun _ _ _ h => h) (Or.inl ⟨by rfl, ?h2x1⟩) (by assumption) ?r2x1
  case h2x1 =>
    intro w' hSw
    (try dsimp only at hSw)
    go_simp
    first | done | with_reducible rfl | rfl
  (try simp only [Act.put, List.setIfInBounds_toArray, List.set_cons_zero, List.set_cons_succ])
  refine wpAnyH_take (i := 3) (oi := { dst := some 11, op := Op.load 86 (Operand.tmp 2), type := 86, pos := "evict.go:48", after := #[], guard := none }) (v := ?v3x3) rfl (by kernel_rfl) (by kernel_rfl) (by kernel_rfl) (fun _ _ _ h => h) (Or.inl ⟨by rfl, ?h3x3⟩) (by assumption) ?r3x3
  case h3x3 =>
    intro w' hSw
    (try dsimp only at hSw)
    go_simp
    first | done | with_reducible rfl | rfl
  (try simp only [Act.put, List.setIfInBounds_toArray, List.set_cons_zero, List.set_cons_succ])
  refine wpAnyH_take (i := 4) (oi := { dst := some 12, op := Op.load 60 (Operand.tmp 4), type := 60, pos := "evict.go:48", after := #[], guard := none }) (v := ?v4x4) rfl (by kernel_rfl) (by kernel_rfl) (by kernel_rfl) (fun _ _ _ h => h) (Or.inl ⟨by rfl, ?h4x4⟩) (by assumption) ?r4x4
  case h4x4 =>
    intro w' hSw
    (try dsimp only at hSw)
    go_simp
    first | done | with_reducible rfl | rfl
  (try simp only [Act.put, List.setIfInBounds_toArray, List.set_cons_zero, List.set_cons_succ])
  refine wpAnyH_ready (rs := [2]) (by kernel_rfl) (by simp) (AllReadyH.cons rfl (fun K hK => ?_) AllReadyH.nil)
  go_simp
  go_wp2_with fail
  refine (HAP.out _ HBd.out).mono ?_
  rintro e w5 ⟨rfl, hb5, hd5⟩
  have HP5 := hideIt (HPd.out.below hb5)
  have HQ5 := hideIt (HQd.out.below hb5)
  have HB5 := hideIt (HBd.out.trans (hb5.mono HBd.out.size))
  have HD5 := hideIt (Nat.le_trans HD0.out hd5)
  clear hb5 hd5
  go_wp2_with fail
  refine hK.out _ _ ⟨HP5.out.2, HQ5.out.2, (HST.out _ HB5.out).f⟩ (fun hHeld => ?_)
  clear hK K
  refine wpAnyH_ready (rs := [5]) (by kernel_rfl) (by simp) (AllReadyH.cons rfl (fun K hK => ?_) AllReadyH.nil)
  go_simp
  go_wp2_with fail
  refine (HAQ.out _ HB5.out).mono ?_
  rintro e w6 ⟨rfl, hb6, hd6⟩
  have HP6 := hideIt (HP5.out.below hb6)
  have HQ6 := hideIt (HQ5.out.below hb6)
  have HB6 := hideIt (HB5.out.trans (hb6.mono HB5.out.size))
  have HD6 := hideIt (Nat.le_trans HD5.out hd6)
  clear hb6 hd6
  go_wp2_with fail
  refine hK.out _ _ ⟨HP6.out.2, HQ6.out.2, (HST.out _ HB6.out).f⟩ (fun hHeld => ?_)
  clear hK K
  refine wpAnyH_take (i := 6) (oi := { dst := some 6, op := Op.assign (Operand.tmp 10), type := 3, pos := "evict.go:48", after := #[{ on := 2, ground := Ground.data }, { on := 5, ground := Ground.chain }, { on := 0, ground := Ground.phase }, { on := 1, ground := Ground.phase }, { on := 2, ground := Ground.phase }, { on := 3, ground := Ground.textOnly Departure.lateStores }, { on := 4, ground := Ground.textOnly Departure.lateStores }, { on := 5, ground := Ground.textOnly Departure.lateStoresUnsure }], guard := none }) (v := ?v5x6) rfl (by kernel_rfl) (by kernel_rfl) (by kernel_rfl) (fun _ _ _ h => h) (Or.inl ⟨by rfl, ?h5x6⟩) (by assumption) ?r5x6
  case h5x6 =>
    intro w' hSw
    (try dsimp only at hSw)
    go_simp
    first | done | with_reducible rfl | rfl
  (try simp only [Act.put, List.setIfInBounds_toArray, List.set_cons_zero, List.set_cons_succ])
  refine wpAnyH_take (i := 7) (oi := { dst := some 7, op := Op.assign (Operand.tmp 13), type := 3, pos := "evict.go:48", after := #[{ on := 5, ground := Ground.data }, { on := 6, ground := Ground.chain }, { on := 0, ground := Ground.phase }, { on := 1, ground := Ground.phase }, { on := 2, ground := Ground.phase }, { on := 3, ground := Ground.phase }, { on := 4, ground := Ground.phase }, { on := 5, ground := Ground.phase }, { on := 6, ground := Ground.phase }], guard := none }) (v := ?v6x7) rfl (by kernel_rfl) (by kernel_rfl) (by kernel_rfl) (fun _ _ _ h => h) (Or.inl ⟨by rfl, ?h6x7⟩) (by assumption) ?r6x7
  case h6x7 =>
    intro w' hSw
    (try dsimp only at hSw)
    go_simp
    first | done | with_reducible rfl | rfl
  (try simp only [Act.put, List.setIfInBounds_toArray, List.set_cons_zero, List.set_cons_succ])
  refine wpAnyH_done (by kernel_rfl) ?_ _
  have HPe := hideIt (HP6.out.below (below_drew' (Below.refl _ _)))
  have HQe := hideIt (HQ6.out.below (below_drew' (Below.refl _ _)))
  have HBe := hideIt (below_drew' HB6.out)
  have HDe := hideIt (show w.drawn ≤ w6.drew.drawn from Nat.le_succ_of_le HD6.out)
  clear hHeld HP5 HQ5 HB5 HD5 HPd HQd HBd HSd HAP HAQ HP6 HQ6 HB6 HD6 HD0
  go_wp2_with fail
  refine wp_region_held_drew (S := (fun w' => (w'.cell? ⟨w.heap.size, 0, none⟩ = some (.string p.nm) ∧ w'.cell? ⟨w.heap.size, 1, none⟩ = some (.int .i64 p.pr) ∧ w'.cell? ⟨w.heap.size, 2, none⟩ = some (.slice pa pn pc)) ∧ (w'.cell? ⟨w.heap.size + 1, 0, none⟩ = some (.string q.nm) ∧ w'.cell? ⟨w.heap.size + 1, 1, none⟩ = some (.int .i64 q.pr) ∧ w'.cell? ⟨w.heap.size + 1, 2, none⟩ = some (.slice qa qn qc)))) (by kernel_rfl) ⟨HPe.out.2, HQe.out.2⟩ (fun hHeld => ?_)
  refine wpAnyH_take (i := 0) (oi := { dst := some 14, op := Op.move (Operand.tmp 6), type := 3, pos := "evict.go:49", after := #[], guard := none }) (v := ?v7x0) rfl (by kernel_rfl) (by kernel_rfl) (by kernel_rfl) (fun _ _ _ h => h) (Or.inl ⟨by rfl, ?h7x0⟩) (by assumption) ?r7x0
  case h7x0 =>
    intro w' hSw
    (try dsimp only at hSw)
    go_simp
    first | done | with_reducible rfl | rfl
  (try simp only [Act.put, List.setIfInBounds_toArray, List.set_cons_zero, List.set_cons_succ])
  refine wpAnyH_take (i := 2) (oi := { dst := some 16, op := Op.move (Operand.tmp 7), type := 3, pos := "evict.go:49", after := #[], guard := none }) (v := ?v8x2) rfl (by kernel_rfl) (by kernel_rfl) (by kernel_rfl) (fun _ _ _ h => h) (Or.inl ⟨by rfl, ?h8x2⟩) (by assumption) ?r8x2
  case h8x2 =>
    intro w' hSw
    (try dsimp only at hSw)
    go_simp
    first | done | with_reducible rfl | rfl
  (try simp only [Act.put, List.setIfInBounds_toArray, List.set_cons_zero, List.set_cons_succ])
  refine wpAnyH_take (i := 5) (oi := { dst := some 19, op := Op.fieldAddr 60 (Operand.tmp 3) 1, type := 0, pos := "evict.go:49", after := #[], guard := none }) (v := ?v9x5) rfl (by kernel_rfl) (by kernel_rfl) (by kernel_rfl) (fun _ _ _ h => h) (Or.inl ⟨by rfl, ?h9x5⟩) (by assumption) ?r9x5
  case h9x5 =>
    intro w' hSw
    (try dsimp only at hSw)
    go_simp
    first | done | with_reducible rfl | rfl
  (try simp only [Act.put, List.setIfInBounds_toArray, List.set_cons_zero, List.set_cons_succ])
  refine wpAnyH_take (i := 6) (oi := { dst := some 20, op := Op.load 3 (Operand.tmp 19), type := 3, pos := "evict.go:49", after := #[{ on := 5, ground := Ground.data }], guard := none }) (v := ?v10x6) rfl (by kernel_rfl) (by kernel_rfl) (by kernel_rfl) (fun _ _ _ h => h) (Or.inl ⟨by rfl, ?h10x6⟩) (by assumption) ?r10x6
  case h10x6 =>
    intro w' hSw
    (try dsimp only at hSw)
    go_simp
    first | done | with_reducible rfl | rfl
  (try simp only [Act.put, List.setIfInBounds_toArray, List.set_cons_zero, List.set_cons_succ])
  refine wpAnyH_take (i := 7) (oi := { dst := some 21, op := Op.fieldAddr 60 (Operand.tmp 4) 1, type := 0, pos := "evict.go:49", after := #[], guard := none }) (v := ?v11x7) rfl (by kernel_rfl) (by kernel_rfl) (by kernel_rfl) (fun _ _ _ h => h) (Or.inl ⟨by rfl, ?h11x7⟩) (by assumption) ?r11x7
  case h11x7 =>
    intro w' hSw
    (try dsimp only at hSw)
    go_simp
    first | done | with_reducible rfl | rfl
  (try simp only [Act.put, List.setIfInBounds_toArray, List.set_cons_zero, List.set_cons_succ])
  refine wpAnyH_take (i := 8) (oi := { dst := some 22, op := Op.load 3 (Operand.tmp 21), type := 3, pos := "evict.go:49", after := #[{ on := 7, ground := Ground.data }], guard := none }) (v := ?v12x8) rfl (by kernel_rfl) (by kernel_rfl) (by kernel_rfl) (fun _ _ _ h => h) (Or.inl ⟨by rfl, ?h12x8⟩) (by assumption) ?r12x8
  case h12x8 =>
    intro w' hSw
    (try dsimp only at hSw)
    go_simp
    first | done | with_reducible rfl | rfl
  (try simp only [Act.put, List.setIfInBounds_toArray, List.set_cons_zero, List.set_cons_succ])
  refine wpAnyH_take (i := 10) (oi := { dst := some 24, op := Op.move (Operand.tmp 7), type := 3, pos := "evict.go:49", after := #[], guard := none }) (v := ?v13x10) rfl (by kernel_rfl) (by kernel_rfl) (by kernel_rfl) (fun _ _ _ h => h) (Or.inl ⟨by rfl, ?h13x10⟩) (by assumption) ?r13x10
  case h13x10 =>
    intro w' hSw
    (try dsimp only at hSw)
    go_simp
    first | done | with_reducible rfl | rfl
  (try simp only [Act.put, List.setIfInBounds_toArray, List.set_cons_zero, List.set_cons_succ])
  refine wpAnyH_take (i := 11) (oi := { dst := some 25, op := Op.move (Operand.tmp 6), type := 3, pos := "evict.go:49", after := #[], guard := none }) (v := ?v14x11) rfl (by kernel_rfl) (by kernel_rfl) (by kernel_rfl) (fun _ _ _ h => h) (Or.inl ⟨by rfl, ?h14x11⟩) (by assumption) ?r14x11
  case h14x11 =>
    intro w' hSw
    (try dsimp only at hSw)
    go_simp
    first | done | with_reducible rfl | rfl
  (try simp only [Act.put, List.setIfInBounds_toArray, List.set_cons_zero, List.set_cons_succ])
  refine wpAnyH_take (i := 13) (oi := { dst := some 27, op := Op.fieldAddr 60 (Operand.tmp 3) 0, type := 0, pos := "evict.go:49", after := #[], guard := none }) (v := ?v15x13) rfl (by kernel_rfl) (by kernel_rfl) (by kernel_rfl) (fun _ _ _ h => h) (Or.inl ⟨by rfl, ?h15x13⟩) (by assumption) ?r15x13
  case h15x13 =>
    intro w' hSw
    (try dsimp only at hSw)
    go_simp
    first | done | with_reducible rfl | rfl
  (try simp only [Act.put, List.setIfInBounds_toArray, List.set_cons_zero, List.set_cons_succ])
  refine wpAnyH_take (i := 14) (oi := { dst := some 28, op := Op.load 9 (Operand.tmp 27), type := 9, pos := "evict.go:49", after := #[{ on := 13, ground := Ground.data }], guard := none }) (v := ?v16x14) rfl (by kernel_rfl) (by kernel_rfl) (by kernel_rfl) (fun _ _ _ h => h) (Or.inl ⟨by rfl, ?h16x14⟩) (by assumption) ?r16x14
  case h16x14 =>
    intro w' hSw
    (try dsimp only at hSw)
    go_simp
    first | done | with_reducible rfl | rfl
  (try simp only [Act.put, List.setIfInBounds_toArray, List.set_cons_zero, List.set_cons_succ])
  refine wpAnyH_take (i := 15) (oi := { dst := some 29, op := Op.fieldAddr 60 (Operand.tmp 4) 0, type := 0, pos := "evict.go:49", after := #[], guard := none }) (v := ?v17x15) rfl (by kernel_rfl) (by kernel_rfl) (by kernel_rfl) (fun _ _ _ h => h) (Or.inl ⟨by rfl, ?h17x15⟩) (by assumption) ?r17x15
  case h17x15 =>
    intro w' hSw
    (try dsimp only at hSw)
    go_simp
    first | done | with_reducible rfl | rfl
  (try simp only [Act.put, List.setIfInBounds_toArray, List.set_cons_zero, List.set_cons_succ])
  refine wpAnyH_take (i := 16) (oi := { dst := some 30, op := Op.load 9 (Operand.tmp 29), type := 9, pos := "evict.go:49", after := #[{ on := 15, ground := Ground.data }], guard := none }) (v := ?v18x16) rfl (by kernel_rfl) (by kernel_rfl) (by kernel_rfl) (fun _ _ _ h => h) (Or.inl ⟨by rfl, ?h18x16⟩) (by assumption) ?r18x16
  case h18x16 =>
    intro w' hSw
    (try dsimp only at hSw)
    go_simp
    first | done | with_reducible rfl | rfl
  (try simp only [Act.put, List.setIfInBounds_toArray, List.set_cons_zero, List.set_cons_succ])
  refine wpAnyH_ready (rs := [1]) (by kernel_rfl) (by simp) (AllReadyH.cons rfl (fun K hK => ?_) AllReadyH.nil)
  go_simp
  go_wp2_with fail
  refine (turn_any X _).mono ?_
  rintro e wx ⟨rfl, rfl⟩
  go_wp2_with fail
  refine hK.out _ _ ⟨HPe.out.2, HQe.out.2⟩ (fun hHeld => ?_)
  clear hK K
  refine wpAnyH_ready (rs := [3]) (by kernel_rfl) (by simp) (AllReadyH.cons rfl (fun K hK => ?_) AllReadyH.nil)
  go_simp
  go_wp2_with fail
  refine (turn_any Y _).mono ?_
  rintro e wx ⟨rfl, rfl⟩
  go_wp2_with fail
  refine hK.out _ _ ⟨HPe.out.2, HQe.out.2⟩ (fun hHeld => ?_)
  clear hK K
  refine wpAnyH_ready (rs := [4]) (by kernel_rfl) (by simp) (AllReadyH.cons rfl (fun K hK => ?_) AllReadyH.nil)
  go_simp
  go_wp2_with fail
  refine (cmpInt_anyE _ _ _).mono ?_
  rintro e wx ⟨rfl, rfl⟩
  go_wp2_with fail
  refine hK.out _ _ ⟨HPe.out.2, HQe.out.2⟩ (fun hHeld => ?_)
  clear hK K
  refine wpAnyH_ready (rs := [9]) (by kernel_rfl) (by simp) (AllReadyH.cons rfl (fun K hK => ?_) AllReadyH.nil)
  go_simp
  go_wp2_with fail
  refine (cmpInt_anyE _ _ _).mono ?_
  rintro e wx ⟨rfl, rfl⟩
  go_wp2_with fail
  refine hK.out _ _ ⟨HPe.out.2, HQe.out.2⟩ (fun hHeld => ?_)
  clear hK K
  refine wpAnyH_ready (rs := [12]) (by kernel_rfl) (by simp) (AllReadyH.cons rfl (fun K hK => ?_) AllReadyH.nil)
  go_simp
  go_wp2_with fail
  refine (cmpInt_anyE _ _ _).mono ?_
  rintro e wx ⟨rfl, rfl⟩
  go_wp2_with fail
  refine hK.out _ _ ⟨HPe.out.2, HQe.out.2⟩ (fun hHeld => ?_)
  clear hK K
  refine wpAnyH_ready (rs := [17]) (by kernel_rfl) (by simp) (AllReadyH.cons rfl (fun K hK => ?_) AllReadyH.nil)
  go_simp
  go_wp2_with fail
  refine (cmpStr_any _ _ _).mono ?_
  rintro e wx ⟨rfl, rfl⟩
  go_wp2_with fail
  refine hK.out _ _ ⟨HPe.out.2, HQe.out.2⟩ (fun hHeld => ?_)
  clear hK K
  have HP8 := hideIt (HPe.out.alloc (.cells #[.int .i64 (Lib.compareInt (turnOf X) (turnOf Y)), .int .i64 (Lib.compareInt p.pr q.pr), .int .i64 (Lib.compareInt Y X), .int .i64 (cmpS p.nm q.nm)] 3))
  have HQ8 := hideIt (HQe.out.alloc (.cells #[.int .i64 (Lib.compareInt (turnOf X) (turnOf Y)), .int .i64 (Lib.compareInt p.pr q.pr), .int .i64 (Lib.compareInt Y X), .int .i64 (cmpS p.nm q.nm)] 3))
  have HB8 := hideIt (HBe.out.alloc HBe.out.size (.cells #[.int .i64 (Lib.compareInt (turnOf X) (turnOf Y)), .int .i64 (Lib.compareInt p.pr q.pr), .int .i64 (Lib.compareInt Y X), .int .i64 (cmpS p.nm q.nm)] 3))
  refine wpAnyH_ready (rs := [18]) (by kernel_rfl) (by simp) (AllReadyH.cons rfl (fun K hK => ?_) AllReadyH.nil)
  go_simp
  go_wp2_with fail
  refine hK.out _ _ ⟨HP8.out.2, HQ8.out.2⟩ (fun hHeld => ?_)
  clear hK K
  refine wpAnyH_ready (rs := [19]) (by kernel_rfl) (by simp) (AllReadyH.cons rfl (fun K hK => ?_) AllReadyH.nil)
  go_simp
  go_wp2_with fail
  refine (or_any (Lib.compareInt (turnOf X) (turnOf Y)) (Lib.compareInt p.pr q.pr) (Lib.compareInt Y X) (cmpS p.nm q.nm) _ _ _ (by simp) (by simp) (by simp) (by simp)).mono ?_
  rintro e wx ⟨rfl, rfl⟩
  go_wp2_with fail
  refine hK.out _ _ ⟨HP8.out.2, HQ8.out.2⟩ (fun hHeld => ?_)
  clear hK K
  refine wpAnyH_take (i := 20) (oi := { dst := some 5, op := Op.assign (Operand.tmp 33), type := 3, pos := "evict.go:49", after := #[{ on := 19, ground := Ground.data }, { on := 19, ground := Ground.chain }, { on := 0, ground := Ground.phase }, { on := 1, ground := Ground.phase }, { on := 2, ground := Ground.phase }, { on := 3, ground := Ground.phase }, { on := 4, ground := Ground.phase }, { on := 5, ground := Ground.phase }, { on := 6, ground := Ground.phase }, { on := 7, ground := Ground.phase }, { on := 8, ground := Ground.phase }, { on := 9, ground := Ground.phase }, { on := 10, ground := Ground.phase }, { on := 11, ground := Ground.phase }, { on := 12, ground := Ground.phase }, { on := 13, ground := Ground.phase }, { on := 14, ground := Ground.phase }, { on := 15, ground := Ground.phase }, { on := 16, ground := Ground.phase }, { on := 17, ground := Ground.phase }, { on := 18, ground := Ground.phase }, { on := 19, ground := Ground.phase }], guard := none }) (v := ?v19x20) rfl (by kernel_rfl) (by kernel_rfl) (by kernel_rfl) (fun _ _ _ h => h) (Or.inl ⟨by rfl, ?h19x20⟩) (by assumption) ?r19x20
  case h19x20 =>
    intro w' hSw
    (try dsimp only at hSw)
    go_simp
    first | done | with_reducible rfl | rfl
  (try simp only [Act.put, List.setIfInBounds_toArray, List.set_cons_zero, List.set_cons_succ])
  refine wpAnyH_done (by kernel_rfl) ?_ _
  go_wp2_with fail
  go_ret
  exact ⟨rfl, HB8.out, HDe.out⟩
end Go.Proofs.Ythekalhceamcoaa
