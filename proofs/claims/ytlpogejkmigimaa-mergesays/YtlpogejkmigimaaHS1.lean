/- What 'wishes' and 'HintsSays' answer: true. -/
import Derived.Test.YtlpogejkmigimaaMW4
import Derived.Test.YtlpogejkmigimaaHTop1
import Derived.Test.YtlpogejkmigimaaHR1
import Derived.Test.YtlpogejkmigimaaHR2
import Derived.Deep.RegionHeld3
namespace Go.Proofs.Ytlpogejkmigimaa
open Go.RowKit
open Ost (N4 sumOn Sm pop8 told Wi Hi)
set_option maxHeartbeats 400000 in
theorem same_nil (w : World) : Calls Try.prog 12 #[.nilIface, .int .i64 0] w fun e w' => e = .returned (.bool true) ∧ w' = w := by
  go_enter Try.func12, Try.ntmps12
  go_wp2_with fail
  go_ret
  exact ⟨rfl, rfl⟩
def wf4 : N4 := ⟨1, 2, 0, 0⟩
def wa4 : N4 := ⟨2, 2, 0, 0⟩
theorem wf4_sm : Sm wf4 := allR_Sm (lo := 0) (by decide) (by decide +kernel)
theorem wa4_sm : Sm wa4 := allR_Sm (lo := 0) (by decide) (by decide +kernel)
theorem w_hints : Ost.hints wf4 wa4 3 2 = [(2, true), (3, false)] := by decide +kernel
theorem w_told : told 3 3 [⟨false, [(2, true), (3, false)]⟩] = (2, true) := by decide +kernel
theorem w_light : Light [⟨false, [(2, true), (3, false)]⟩] := fun y hy => by
  have : y = ⟨false, [(2, true), (3, false)]⟩ := by simpa using hy
  subst this
  refine ⟨fun x hx => ?_, by decide⟩
  simp at hx
  rcases hx with rfl | rfl <;> decide
/-- One wish, with its hints. -/
theorem oneWishH (w : World) (v : Value) (l : List Hi) (t : TypeId) (hv : HintsAt w v l) : WishesAt (w.alloc (.cells #[.bool false, v] t)) (.slice (some ⟨w.heap.size, 0, none⟩) 1 1) [⟨false, l⟩] :=
  .inr ⟨w.heap.size, 0, 1, rfl, by simp, fun k hk => by
    have : k = 0 := by simpa using hk
    subst this
    exact ⟨by simp, v, by simp, hv.below ((Below.refl _ _).alloc (Nat.le_refl _) _)⟩⟩
theorem merge_wish (w : World) (v : Value) (hv : WishesAt w v [⟨false, [(2, true), (3, false)]⟩]) : Calls Try.prog 33 #[.int .i64 3, .int .u8 3, v] w fun e w' => e = .returned (.tuple #[.agg #[.int .u8 2, .bool true], .bool true, .nilIface]) ∧ Below w.heap.size w w' :=
  (merge_main 3 3 v _ w hv w_light (by decide) (by decide) (by decide)).mono fun e w' h => by
    rw [w_told] at h
    exact ⟨h.1.trans rfl, h.2⟩
theorem for_wish (w : World) : Calls Try.prog 28 #[.agg #[.int .i64 1, .int .i64 2, .int .i64 0, .int .i64 0], .agg #[.int .i64 2, .int .i64 2, .int .i64 0, .int .i64 0], .int .u8 3, .int .i64 2] w fun e w' => ForRes w [(2, true), (3, false)] e w' := by
  have h := for_any wf4 wa4 3 2 w (by decide) (by decide) wf4_sm wa4_sm
  rw [w_hints] at h
  exact h
set_option maxRecDepth 100000 in
set_option maxHeartbeats 1000000 in
theorem wishes_true (w : World) : Calls Try.prog 25 #[] w fun e w' => e = .returned (.bool true) ∧ Below w.heap.size w w' := by
  have HF := hideIt (for_wish w)
  go_enter Try.func25, Try.ntmps25
  go_wp2_with fail
  refine HF.out.mono ?_
  rintro e w1 ⟨v, rfl, hH, _, hb1⟩
  obtain ⟨ao, c, rfl, _⟩ := hH.form
  have hX := (Below.refl w1.heap.size w1).alloc (Nat.le_refl _) (.cells #[.bool false, .slice ao 2 c] 53)
  have hWi := oneWishH (w1.alloc (.cells #[.bool false, .slice ao 2 c] 53)) (.slice ao 2 c) _ 53 (hH.below hX)
  simp only [World.size_alloc] at hWi
  have HMe := hideIt (merge_wish _ _ hWi)
  have HB1 := hideIt ((hb1.alloc hb1.size (.cells #[.bool false, .slice ao 2 c] 53)).alloc (by have := hb1.size; simp; omega) (.cells #[.bool false, .slice ao 2 c] 53))
  clear hH hb1 hX hWi HF
  go_wp2_with fail
  refine HMe.out.mono ?_
  rintro e w2 ⟨rfl, hb2⟩
  have HB2 := hideIt (HB1.out.trans (hb2.mono HB1.out.size))
  have HB3 := hideIt (HB2.out.alloc HB2.out.size (.cells #[.int .u8 2, .bool true] 60))
  clear hb2 HMe HB1 HB2
  go_wp2_with fail
  refine (same_nil _).mono ?_
  rintro e w5 ⟨rfl, hw5⟩
  subst w5
  go_wp2_with fail
  go_ret
  exact ⟨rfl, HB3.out⟩
/-- What both For answer. -/
def WRes (x : Bool) (l : List Hi) (w : World) (e : Ending) (w' : World) : Prop := ∃ v, e = .returned (.agg #[.bool x, v]) ∧ HintsAt w' v l ∧ Below w.heap.size w w'
structure LEnv (u : World) (N : Nat) (free all : N4) : Prop where
  f : Four u N free.a free.b free.c free.d
  a : Four u (N + 1) all.a all.b all.c all.d
theorem LEnv.lt {u : World} {N : Nat} {free all : N4} (h : LEnv u N free all) : N + 2 ≤ u.heap.size := World.block_lt_of_cell? u _ h.a.c0
theorem LEnv.below {u u' : World} {N : Nat} {free all : N4} (h : LEnv u N free all) (hb : Below u.heap.size u u') : LEnv u' N free all :=
  have hl := h.lt
  ⟨h.f.below hb (by omega), h.a.below hb (by omega)⟩
set_option maxRecDepth 100000 in
set_option maxHeartbeats 4000000 in
theorem hintsSays_main (free all : N4) (nodes : Nat) (many : Int) (x : Bool) (l : List Hi) (w : World) (h1 : allR (-1000000) free 4 = true) (h2 : allR (-1000000) all 4 = true) (h3 : nodes ≤ 15) (hl : l.length ≤ 1000)
    (HF : ∀ W, Calls Try.prog 28 #[v4 free, v4 all, .int .u8 nodes, .int .i64 many] W fun e w' => WRes x l W e w')
    (HG : ∀ W, Calls Try.prog 29 #[v4 free, v4 all, .int .u8 nodes, .int .i64 many] W fun e w' => WRes x l W e w') :
    Calls Try.prog 4 #[v4 free, v4 all, .int .u8 nodes, .int .i64 many] w fun e w' => e = .returned (.bool true) ∧ Below w.heap.size w w' := by
  have HE := hideIt (topFour w free all)
  have HB := hideIt (topBelow w free all)
  have HWi := hideIt (wishes_true (topWorld w free all))
  have HFo := hideIt HF
  have HGo := hideIt HG
  have HPo := hideIt fun W => nodesH_any nodes W (by omega)
  have HRo := hideIt fun W => refNodesOf_any nodes W (by omega)
  clear HF HG
  unfold topWorld v4 at *
  go_enter Try.func4, Try.ntmps4
  go_wp2_with fail
  refine HWi.out.mono ?_
  rintro e w1 ⟨rfl, hb1⟩
  have HE1 : Hid (LEnv w1 w.heap.size free all) := ⟨HE.out.1.below hb1 (by simp; omega), HE.out.2.below hb1 (by simp)⟩
  have HB1 := hideIt (HB.out.trans (hb1.mono HB.out.size))
  clear hb1 HWi HB HE
  have e0 := HE1.out.f.c0
  have e1 := HE1.out.f.c1
  have e2 := HE1.out.f.c2
  have e3 := HE1.out.f.c3
  go_wp2_with fail
  refine (smallL_any free _).mono ?_
  rintro e w2 ⟨rfl, hb2⟩
  have HE2 := hideIt (HE1.out.below hb2)
  have HB2 := hideIt (HB1.out.trans (hb2.mono HB1.out.size))
  clear hb2 HE1 HB1 e0 e1 e2 e3
  rw [h1]
  have e0 := HE2.out.a.c0
  have e1 := HE2.out.a.c1
  have e2 := HE2.out.a.c2
  have e3 := HE2.out.a.c3
  go_wp2_with fail
  refine (smallL_any all _).mono ?_
  rintro e w3 ⟨rfl, hb3⟩
  have HE3 := hideIt (HE2.out.below hb3)
  have HB3 := hideIt (HB2.out.trans (hb3.mono HB2.out.size))
  clear hb3 HE2 HB2 e0 e1 e2 e3
  rw [h2]
  go_wp2_with fail
  refine wp_region_held_drew (S := (fun w' => w'.cell? ⟨w.heap.size, 0, none⟩ = some (.int .i64 free.a) ∧ w'.cell? ⟨w.heap.size, 1, none⟩ = some (.int .i64 free.b) ∧ w'.cell? ⟨w.heap.size, 2, none⟩ = some (.int .i64 free.c) ∧ w'.cell? ⟨w.heap.size, 3, none⟩ = some (.int .i64 free.d) ∧ w'.cell? ⟨w.heap.size + 1, 0, none⟩ = some (.int .i64 all.a) ∧ w'.cell? ⟨w.heap.size + 1, 1, none⟩ = some (.int .i64 all.b) ∧ w'.cell? ⟨w.heap.size + 1, 2, none⟩ = some (.int .i64 all.c) ∧ w'.cell? ⟨w.heap.size + 1, 3, none⟩ = some (.int .i64 all.d))) (by kernel_rfl) ⟨HE3.out.f.c0, HE3.out.f.c1, HE3.out.f.c2, HE3.out.f.c3, HE3.out.a.c0, HE3.out.a.c1, HE3.out.a.c2, HE3.out.a.c3⟩ (fun hHeld => ?_)
  refine wpAnyH_take (i := 0) (oi := { dst := some 28, op := Op.load 45 (Operand.tmp 4), type := 45, pos := "parts.go:147", after := #[], guard := none }) (v := ?v1x0) rfl (by kernel_rfl) (by kernel_rfl) (by kernel_rfl) (fun _ _ _ h => h) (Or.inl ⟨by rfl, ?h1x0⟩) (by assumption) ?r1x0
  case h1x0 =>
    intro w' hSw
    (try dsimp only at hSw)
    go_simp
    first | done | with_reducible rfl | rfl
  (try simp only [Act.put, List.setIfInBounds_toArray, List.set_cons_zero, List.set_cons_succ])
  refine wpAnyH_take (i := 1) (oi := { dst := some 29, op := Op.load 45 (Operand.tmp 5), type := 45, pos := "parts.go:147", after := #[], guard := none }) (v := ?v2x1) rfl (by kernel_rfl) (by kernel_rfl) (by kernel_rfl) (fun _ _ _ h => h) (Or.inl ⟨by rfl, ?h2x1⟩) (by assumption) ?r2x1
  case h2x1 =>
    intro w' hSw
    (try dsimp only at hSw)
    go_simp
    first | done | with_reducible rfl | rfl
  (try simp only [Act.put, List.setIfInBounds_toArray, List.set_cons_zero, List.set_cons_succ])
  refine wpAnyH_take (i := 2) (oi := { dst := some 30, op := Op.move (Operand.tmp 2), type := 23, pos := "parts.go:147", after := #[], guard := none }) (v := ?v3x2) rfl (by kernel_rfl) (by kernel_rfl) (by kernel_rfl) (fun _ _ _ h => h) (Or.inl ⟨by rfl, ?h3x2⟩) (by assumption) ?r3x2
  case h3x2 =>
    intro w' hSw
    (try dsimp only at hSw)
    go_simp
    first | done | with_reducible rfl | rfl
  (try simp only [Act.put, List.setIfInBounds_toArray, List.set_cons_zero, List.set_cons_succ])
  refine wpAnyH_take (i := 3) (oi := { dst := some 31, op := Op.move (Operand.tmp 3), type := 3, pos := "parts.go:147", after := #[], guard := none }) (v := ?v4x3) rfl (by kernel_rfl) (by kernel_rfl) (by kernel_rfl) (fun _ _ _ h => h) (Or.inl ⟨by rfl, ?h4x3⟩) (by assumption) ?r4x3
  case h4x3 =>
    intro w' hSw
    (try dsimp only at hSw)
    go_simp
    first | done | with_reducible rfl | rfl
  (try simp only [Act.put, List.setIfInBounds_toArray, List.set_cons_zero, List.set_cons_succ])
  refine wpAnyH_take (i := 5) (oi := { dst := some 33, op := Op.load 45 (Operand.tmp 4), type := 45, pos := "parts.go:147", after := #[], guard := none }) (v := ?v5x5) rfl (by kernel_rfl) (by kernel_rfl) (by kernel_rfl) (fun _ _ _ h => h) (Or.inl ⟨by rfl, ?h5x5⟩) (by assumption) ?r5x5
  case h5x5 =>
    intro w' hSw
    (try dsimp only at hSw)
    go_simp
    first | done | with_reducible rfl | rfl
  (try simp only [Act.put, List.setIfInBounds_toArray, List.set_cons_zero, List.set_cons_succ])
  refine wpAnyH_take (i := 6) (oi := { dst := some 34, op := Op.load 45 (Operand.tmp 5), type := 45, pos := "parts.go:147", after := #[], guard := none }) (v := ?v6x6) rfl (by kernel_rfl) (by kernel_rfl) (by kernel_rfl) (fun _ _ _ h => h) (Or.inl ⟨by rfl, ?h6x6⟩) (by assumption) ?r6x6
  case h6x6 =>
    intro w' hSw
    (try dsimp only at hSw)
    go_simp
    first | done | with_reducible rfl | rfl
  (try simp only [Act.put, List.setIfInBounds_toArray, List.set_cons_zero, List.set_cons_succ])
  refine wpAnyH_take (i := 7) (oi := { dst := some 35, op := Op.move (Operand.tmp 2), type := 23, pos := "parts.go:147", after := #[], guard := none }) (v := ?v7x7) rfl (by kernel_rfl) (by kernel_rfl) (by kernel_rfl) (fun _ _ _ h => h) (Or.inl ⟨by rfl, ?h7x7⟩) (by assumption) ?r7x7
  case h7x7 =>
    intro w' hSw
    (try dsimp only at hSw)
    go_simp
    first | done | with_reducible rfl | rfl
  (try simp only [Act.put, List.setIfInBounds_toArray, List.set_cons_zero, List.set_cons_succ])
  refine wpAnyH_take (i := 8) (oi := { dst := some 36, op := Op.move (Operand.tmp 3), type := 3, pos := "parts.go:147", after := #[], guard := none }) (v := ?v8x8) rfl (by kernel_rfl) (by kernel_rfl) (by kernel_rfl) (fun _ _ _ h => h) (Or.inl ⟨by rfl, ?h8x8⟩) (by assumption) ?r8x8
  case h8x8 =>
    intro w' hSw
    (try dsimp only at hSw)
    go_simp
    first | done | with_reducible rfl | rfl
  (try simp only [Act.put, List.setIfInBounds_toArray, List.set_cons_zero, List.set_cons_succ])
  refine wpAnyH_ready (rs := [4]) (by kernel_rfl) (by simp) (AllReadyH.cons rfl (fun K hK => ?_) AllReadyH.nil)
  go_simp
  go_wp2_with fail
  refine (HFo.out _).mono ?_
  rintro e w4 ⟨va, rfl, hva, hb4⟩
  have HE4 := hideIt ((HE3.out.below (Below.refl _ _).drew).below hb4)
  have HB4 := hideIt (HB3.out.drew.trans (hb4.mono HB3.out.size))
  have HVa := hideIt hva
  obtain ⟨aa, ca, rfl, _⟩ := hva.form
  clear hva hb4
  go_wp2_with fail
  refine hK.out _ _ ⟨HE4.out.f.c0, HE4.out.f.c1, HE4.out.f.c2, HE4.out.f.c3, HE4.out.a.c0, HE4.out.a.c1, HE4.out.a.c2, HE4.out.a.c3⟩ (fun hHeld => ?_)
  clear hK K
  refine wpAnyH_ready (rs := [9]) (by kernel_rfl) (by simp) (AllReadyH.cons rfl (fun K hK => ?_) AllReadyH.nil)
  go_simp
  go_wp2_with fail
  refine (HGo.out _).mono ?_
  rintro e w5 ⟨vb, rfl, hvb, hb5⟩
  have HE5 := hideIt (HE4.out.below hb5)
  have HB5 := hideIt (HB4.out.trans (hb5.mono HB4.out.size))
  have HVa5 := hideIt (HVa.out.below hb5)
  have HVb := hideIt hvb
  obtain ⟨ab, cb, rfl, _⟩ := hvb.form
  clear hvb hb5
  go_wp2_with fail
  refine hK.out _ _ ⟨HE5.out.f.c0, HE5.out.f.c1, HE5.out.f.c2, HE5.out.f.c3, HE5.out.a.c0, HE5.out.a.c1, HE5.out.a.c2, HE5.out.a.c3⟩ (fun hHeld => ?_)
  clear hK K
  refine wpAnyH_ready (rs := [10]) (by kernel_rfl) (by simp) (AllReadyH.cons rfl (fun K hK => ?_) AllReadyH.nil)
  go_simp
  go_wp2_with fail
  refine (sameWish_true x _ _ l _ HVa5.out HVb.out hl).mono ?_
  rintro e w6 ⟨rfl, hb6⟩
  have HE6 := hideIt (HE5.out.below hb6)
  have HB6 := hideIt (HB5.out.trans (hb6.mono HB5.out.size))
  clear hb6
  go_wp2_with fail
  refine hK.out _ _ ⟨HE6.out.f.c0, HE6.out.f.c1, HE6.out.f.c2, HE6.out.f.c3, HE6.out.a.c0, HE6.out.a.c1, HE6.out.a.c2, HE6.out.a.c3⟩ (fun hHeld => ?_)
  clear hK K
  refine wpAnyH_take (i := 11) (oi := { dst := some 39, op := Op.move (Operand.tmp 38), type := 4, pos := "parts.go:147", after := #[{ on := 10, ground := Ground.data }, { on := 10, ground := Ground.chain }], guard := none }) (v := ?v9x11) rfl (by kernel_rfl) (by kernel_rfl) (by kernel_rfl) (fun _ _ _ h => h) (Or.inl ⟨by rfl, ?h9x11⟩) (by assumption) ?r9x11
  case h9x11 =>
    intro w' hSw
    (try dsimp only at hSw)
    go_simp
    first | done | with_reducible rfl | rfl
  (try simp only [Act.put, List.setIfInBounds_toArray, List.set_cons_zero, List.set_cons_succ])
  refine wpAnyH_take (i := 12) (oi := { dst := some 40, op := Op.move (Operand.tmp 2), type := 23, pos := "parts.go:147", after := #[{ on := 11, ground := Ground.guard }], guard := some (11, true) }) (v := ?v10x12) rfl (by kernel_rfl) (by kernel_rfl) (by kernel_rfl) (fun _ _ _ h => h) (Or.inl ⟨by rfl, ?h10x12⟩) (by assumption) ?r10x12
  case h10x12 =>
    intro w' hSw
    (try dsimp only at hSw)
    go_simp
    first | done | with_reducible rfl | rfl
  (try simp only [Act.put, List.setIfInBounds_toArray, List.set_cons_zero, List.set_cons_succ])
  refine wpAnyH_take (i := 14) (oi := { dst := some 42, op := Op.move (Operand.tmp 2), type := 23, pos := "parts.go:147", after := #[{ on := 11, ground := Ground.guard }], guard := some (11, true) }) (v := ?v11x14) rfl (by kernel_rfl) (by kernel_rfl) (by kernel_rfl) (fun _ _ _ h => h) (Or.inl ⟨by rfl, ?h11x14⟩) (by assumption) ?r11x14
  case h11x14 =>
    intro w' hSw
    (try dsimp only at hSw)
    go_simp
    first | done | with_reducible rfl | rfl
  (try simp only [Act.put, List.setIfInBounds_toArray, List.set_cons_zero, List.set_cons_succ])
  refine wpAnyH_ready (rs := [13]) (by kernel_rfl) (by simp) (AllReadyH.cons rfl (fun K hK => ?_) AllReadyH.nil)
  go_simp
  go_wp2_with fail
  refine (HPo.out _).mono ?_
  rintro e w7 ⟨rfl, hw7⟩
  subst w7
  go_wp2_with fail
  refine hK.out _ _ ⟨HE6.out.f.c0, HE6.out.f.c1, HE6.out.f.c2, HE6.out.f.c3, HE6.out.a.c0, HE6.out.a.c1, HE6.out.a.c2, HE6.out.a.c3⟩ (fun hHeld => ?_)
  clear hK K
  refine wpAnyH_ready (rs := [15]) (by kernel_rfl) (by simp) (AllReadyH.cons rfl (fun K hK => ?_) AllReadyH.nil)
  go_simp
  go_wp2_with fail
  refine (HRo.out _).mono ?_
  rintro e w7 ⟨rfl, hw7⟩
  subst w7
  go_wp2_with fail
  refine hK.out _ _ ⟨HE6.out.f.c0, HE6.out.f.c1, HE6.out.f.c2, HE6.out.f.c3, HE6.out.a.c0, HE6.out.a.c1, HE6.out.a.c2, HE6.out.a.c3⟩ (fun hHeld => ?_)
  clear hK K
  refine wpAnyH_take (i := 16) (oi := { dst := some 44, op := Op.binOp BinOp.eql 3 (Operand.tmp 41) (Operand.tmp 43) 3, type := 4, pos := "parts.go:147", after := #[{ on := 13, ground := Ground.data }, { on := 15, ground := Ground.data }, { on := 11, ground := Ground.guard }], guard := some (11, true) }) (v := ?v12x16) rfl (by kernel_rfl) (by kernel_rfl) (by kernel_rfl) (fun _ _ _ h => h) (Or.inl ⟨by rfl, ?h12x16⟩) (by assumption) ?r12x16
  case h12x16 =>
    intro w' hSw
    (try dsimp only at hSw)
    go_simp
    first | done | with_reducible rfl | rfl
  (try simp only [Act.put, List.setIfInBounds_toArray, List.set_cons_zero, List.set_cons_succ])
  refine wpAnyH_take (i := 17) (oi := { dst := some 45, op := Op.pick (Operand.tmp 39) (Operand.tmp 44) (Operand.const (Value.bool false)), type := 4, pos := "parts.go:147", after := #[{ on := 11, ground := Ground.data }, { on := 16, ground := Ground.data }], guard := none }) (v := ?v13x17) rfl (by kernel_rfl) (by kernel_rfl) (by kernel_rfl) (fun _ _ _ h => h) (Or.inl ⟨by rfl, ?h13x17⟩) (by assumption) ?r13x17
  case h13x17 =>
    intro w' hSw
    (try dsimp only at hSw)
    go_simp
    first | done | with_reducible rfl | rfl
  (try simp only [Act.put, List.setIfInBounds_toArray, List.set_cons_zero, List.set_cons_succ])
  refine wpAnyH_take (i := 18) (oi := { dst := some 8, op := Op.assign (Operand.tmp 45), type := 4, pos := "parts.go:147", after := #[{ on := 17, ground := Ground.data }, { on := 15, ground := Ground.chain }, { on := 0, ground := Ground.phase }, { on := 1, ground := Ground.phase }, { on := 2, ground := Ground.phase }, { on := 3, ground := Ground.phase }, { on := 4, ground := Ground.phase }, { on := 5, ground := Ground.phase }, { on := 6, ground := Ground.phase }, { on := 7, ground := Ground.phase }, { on := 8, ground := Ground.phase }, { on := 9, ground := Ground.phase }, { on := 10, ground := Ground.phase }, { on := 11, ground := Ground.phase }, { on := 12, ground := Ground.phase }, { on := 13, ground := Ground.phase }, { on := 14, ground := Ground.phase }, { on := 15, ground := Ground.phase }, { on := 16, ground := Ground.phase }, { on := 17, ground := Ground.phase }], guard := none }) (v := ?v14x18) rfl (by kernel_rfl) (by kernel_rfl) (by kernel_rfl) (fun _ _ _ h => h) (Or.inl ⟨by rfl, ?h14x18⟩) (by assumption) ?r14x18
  case h14x18 =>
    intro w' hSw
    (try dsimp only at hSw)
    go_simp
    first | done | with_reducible rfl | rfl
  (try simp only [Act.put, List.setIfInBounds_toArray, List.set_cons_zero, List.set_cons_succ])
  refine wpAnyH_done (by kernel_rfl) ?_ _
  clear hHeld
  go_wp2_with fail
  go_ret
  exact ⟨rfl, HB6.out⟩
set_option maxRecDepth 100000 in
set_option maxHeartbeats 1000000 in
theorem hintsSays_a (free all : N4) (nodes : Nat) (many : Int) (w : World) (h1 : allR (-1000000) free 4 = false) :
    Calls Try.prog 4 #[v4 free, v4 all, .int .u8 nodes, .int .i64 many] w fun e w' => e = .returned (.bool true) ∧ Below w.heap.size w w' := by
  have HE := hideIt (topFour w free all)
  have HB := hideIt (topBelow w free all)
  have HWi := hideIt (wishes_true (topWorld w free all))
  unfold topWorld v4 at *
  go_enter Try.func4, Try.ntmps4
  go_wp2_with fail
  refine HWi.out.mono ?_
  rintro e w1 ⟨rfl, hb1⟩
  have HE1 : Hid (LEnv w1 w.heap.size free all) := ⟨HE.out.1.below hb1 (by simp; omega), HE.out.2.below hb1 (by simp)⟩
  have HB1 := hideIt (HB.out.trans (hb1.mono HB.out.size))
  clear hb1 HWi HB HE
  have e0 := HE1.out.f.c0
  have e1 := HE1.out.f.c1
  have e2 := HE1.out.f.c2
  have e3 := HE1.out.f.c3
  go_wp2_with fail
  refine (smallL_any free _).mono ?_
  rintro e w2 ⟨rfl, hb2⟩
  have HE2 := hideIt (HE1.out.below hb2)
  have HB2 := hideIt (HB1.out.trans (hb2.mono HB1.out.size))
  clear hb2 HE1 HB1 e0 e1 e2 e3
  rw [h1]
  go_wp2_with fail
  go_ret
  exact ⟨rfl, HB2.out⟩
set_option maxRecDepth 100000 in
set_option maxHeartbeats 1000000 in
theorem hintsSays_b (free all : N4) (nodes : Nat) (many : Int) (w : World) (h1 : allR (-1000000) free 4 = true) (h2 : allR (-1000000) all 4 = false) :
    Calls Try.prog 4 #[v4 free, v4 all, .int .u8 nodes, .int .i64 many] w fun e w' => e = .returned (.bool true) ∧ Below w.heap.size w w' := by
  have HE := hideIt (topFour w free all)
  have HB := hideIt (topBelow w free all)
  have HWi := hideIt (wishes_true (topWorld w free all))
  unfold topWorld v4 at *
  go_enter Try.func4, Try.ntmps4
  go_wp2_with fail
  refine HWi.out.mono ?_
  rintro e w1 ⟨rfl, hb1⟩
  have HE1 : Hid (LEnv w1 w.heap.size free all) := ⟨HE.out.1.below hb1 (by simp; omega), HE.out.2.below hb1 (by simp)⟩
  have HB1 := hideIt (HB.out.trans (hb1.mono HB.out.size))
  clear hb1 HWi HB HE
  have e0 := HE1.out.f.c0
  have e1 := HE1.out.f.c1
  have e2 := HE1.out.f.c2
  have e3 := HE1.out.f.c3
  go_wp2_with fail
  refine (smallL_any free _).mono ?_
  rintro e w2 ⟨rfl, hb2⟩
  have HE2 := hideIt (HE1.out.below hb2)
  have HB2 := hideIt (HB1.out.trans (hb2.mono HB1.out.size))
  clear hb2 HE1 HB1 e0 e1 e2 e3
  rw [h1]
  have e0 := HE2.out.a.c0
  have e1 := HE2.out.a.c1
  have e2 := HE2.out.a.c2
  have e3 := HE2.out.a.c3
  go_wp2_with fail
  refine (smallL_any all _).mono ?_
  rintro e w3 ⟨rfl, hb3⟩
  have HE3 := hideIt (HE2.out.below hb3)
  have HB3 := hideIt (HB2.out.trans (hb3.mono HB2.out.size))
  clear hb3 HE2 HB2 e0 e1 e2 e3
  rw [h2]
  go_wp2_with fail
  go_ret
  exact ⟨rfl, HB3.out⟩
set_option maxRecDepth 100000 in
set_option maxHeartbeats 1000000 in
theorem hintsSays_c (free all : N4) (nodes : Nat) (many : Int) (w : World) (h1 : allR (-1000000) free 4 = true) (h2 : allR (-1000000) all 4 = true) (h3 : 15 < nodes) :
    Calls Try.prog 4 #[v4 free, v4 all, .int .u8 nodes, .int .i64 many] w fun e w' => e = .returned (.bool true) ∧ Below w.heap.size w w' := by
  have HE := hideIt (topFour w free all)
  have HB := hideIt (topBelow w free all)
  have HWi := hideIt (wishes_true (topWorld w free all))
  unfold topWorld v4 at *
  go_enter Try.func4, Try.ntmps4
  go_wp2_with fail
  refine HWi.out.mono ?_
  rintro e w1 ⟨rfl, hb1⟩
  have HE1 : Hid (LEnv w1 w.heap.size free all) := ⟨HE.out.1.below hb1 (by simp; omega), HE.out.2.below hb1 (by simp)⟩
  have HB1 := hideIt (HB.out.trans (hb1.mono HB.out.size))
  clear hb1 HWi HB HE
  have e0 := HE1.out.f.c0
  have e1 := HE1.out.f.c1
  have e2 := HE1.out.f.c2
  have e3 := HE1.out.f.c3
  go_wp2_with fail
  refine (smallL_any free _).mono ?_
  rintro e w2 ⟨rfl, hb2⟩
  have HE2 := hideIt (HE1.out.below hb2)
  have HB2 := hideIt (HB1.out.trans (hb2.mono HB1.out.size))
  clear hb2 HE1 HB1 e0 e1 e2 e3
  rw [h1]
  have e0 := HE2.out.a.c0
  have e1 := HE2.out.a.c1
  have e2 := HE2.out.a.c2
  have e3 := HE2.out.a.c3
  go_wp2_with fail
  refine (smallL_any all _).mono ?_
  rintro e w3 ⟨rfl, hb3⟩
  have HE3 := hideIt (HE2.out.below hb3)
  have HB3 := hideIt (HB2.out.trans (hb3.mono HB2.out.size))
  clear hb3 HE2 HB2 e0 e1 e2 e3
  rw [h2]
  go_wp2_with fail
  go_ret
  exact ⟨rfl, HB3.out⟩
theorem hintsSays_any (free all : N4) (nodes : Nat) (many : Int) (w : World) :
    Calls Try.prog 4 #[v4 free, v4 all, .int .u8 nodes, .int .i64 many] w fun e w' => e = .returned (.bool true) ∧ Below w.heap.size w w' := by
  rcases two (allR (-1000000) free 4) with h1 | h1
  · rcases two (allR (-1000000) all 4) with h2 | h2
    · by_cases h3 : 15 < nodes
      · exact hintsSays_c free all nodes many w h1 h2 h3
      · have hf := allR_Sm (by decide) h1
        have ha := allR_Sm (by decide) h2
        by_cases h4 : many ≤ 0
        · exact hintsSays_main free all nodes many true [] w h1 h2 (by omega) (by decide)
            (fun W => (for_none free all nodes many W h4).mono fun e w' ⟨he, hb⟩ => ⟨_, he, .inl ⟨rfl, none, 0, rfl⟩, hb⟩)
            (fun W => (refFor_none free all nodes many W h4).mono fun e w' ⟨he, hb⟩ => ⟨_, he, .inl ⟨rfl, none, 0, rfl⟩, hb⟩)
        · exact hintsSays_main free all nodes many false (Ost.hints free all nodes many) w h1 h2 (by omega) (by have := Ost.hints_len free all nodes many; omega)
            (fun W => (for_some free all nodes many W (by omega) (by omega) hf ha).mono fun e w' ⟨v, he, hv, _, hb⟩ => ⟨v, he, hv, hb⟩)
            (fun W => (refFor_some free all nodes many W (by omega) (by omega) hf ha).mono fun e w' ⟨v, he, hv, _, hb⟩ => ⟨v, he, hv, hb⟩)
    · exact hintsSays_b free all nodes many w h1 h2
  · exact hintsSays_a free all nodes many w h1
end Go.Proofs.Ytlpogejkmigimaa
