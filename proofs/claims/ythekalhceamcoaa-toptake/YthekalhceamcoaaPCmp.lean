/- What package pick's comparison answers: contracts. -/
import Derived.Test.YthekalhceamcoaaPSort
import Derived.Deep.RegionHeld3
namespace Go.Proofs.Ythekalhceamcoaa
open Go.RowKit
open Ost (Cpu cpu0 less)
set_option maxHeartbeats 1000000 in
theorem cmpOr_any (g c : Nat) (x y : Int) (w : World) (h0 : w.cell? ⟨g, 0, none⟩ = some (.int .i64 x)) (h1 : w.cell? ⟨g, 1, none⟩ = some (.int .i64 y)) :
    Calls Try.prog 124 #[.slice (some ⟨g, 0, none⟩) 2 c] w fun e w' => e = .returned (.int .i64 (if x = 0 then y else x)) ∧ w' = w := by
  by_cases hx : x = 0
  · rw [if_pos hx]
    subst hx
    by_cases hy : y = 0
    · subst hy
      go_enter Try.func124, Try.ntmps124
      go_wp2_with fail
      refine wp_loop_rounds 3 ?_
      rw [rounds_succ]
      go_wp2_with fail
      rw [rounds_succ]
      go_wp2_with fail
      rw [rounds_succ]
      go_wp2_with fail
      go_ret
      exact ⟨rfl, rfl⟩
    · have q : (y != 0) = true := by rw [bne_iff_ne]; exact hy
      clear hy
      go_enter Try.func124, Try.ntmps124
      go_wp2_with fail
      refine wp_loop_rounds 2 ?_
      rw [rounds_succ]
      go_wp2_with fail
      rw [rounds_succ]
      go_wp2_with fail
      go_ret
      exact ⟨rfl, rfl⟩
  · rw [if_neg hx]
    have q : (x != 0) = true := by rw [bne_iff_ne]; exact hx
    clear hx
    go_enter Try.func124, Try.ntmps124
    go_wp2_with fail
    refine wp_loop_rounds 1 ?_
    rw [rounds_succ]
    go_wp2_with fail
    go_ret
    exact ⟨rfl, rfl⟩
/-- How package pick compares two numbers. -/
def cfOf (cl : Nat → Nat) (x y : Nat) : Int := if Lib.compareInt (cl x) (cl y) = 0 then Lib.compareInt x y else Lib.compareInt (cl x) (cl y)
theorem cmpInt_any (x y : Int) (w : World) : Calls Try.prog 148 #[.int .i64 x, .int .i64 y] w fun e w' => e = .returned (.int .i64 (Lib.compareInt x y)) ∧ w' = w := AnyG.cmp_Compare_int Try.cmpL x y w
set_option maxRecDepth 100000 in
set_option maxHeartbeats 1000000 in
theorem cmp_any (x y : Nat) (tc lc fc tb b o c mb n : Nat) (l : List Cpu) (f : Int → Int) (cl : Nat → Nat) (w : World) (h : Stand w tc lc fc tb b o c mb n l f) (hg : Good l) (hf : ∀ k, f (l.getD k cpu0).core = (cl k : Nat)) :
    Calls Try.prog 161 #[.int .i64 x, .int .i64 y, .pointer (some ⟨fc, 0, none⟩)] w fun e w' => e = .returned (.int .i64 (cfOf cl x y)) ∧ Grows w w' := by
  have HS := hideIt h
  have HL := hideIt h.lts
  have hg0 : Grows w w.drew := (Grows.refl w).drewN 1
  have HB1 : Hid (∀ W, Stand W tc lc fc tb b o c mb n l f → Calls Try.prog 157 #[.int .i64 x, .pointer (some ⟨tc, 0, none⟩), .pointer (some ⟨lc, 0, none⟩)] W fun e w' => e = .returned (.int .i64 (cl x : Nat)) ∧ Grows W w') := fun W hW => by
    rw [← hf x]; exact beside_any x tc lc fc tb b o c mb n l f W hW hg
  have HB2 : Hid (∀ W, Stand W tc lc fc tb b o c mb n l f → Calls Try.prog 157 #[.int .i64 y, .pointer (some ⟨tc, 0, none⟩), .pointer (some ⟨lc, 0, none⟩)] W fun e w' => e = .returned (.int .i64 (cl y : Nat)) ∧ Grows W w') := fun W hW => by
    rw [← hf y]; exact beside_any y tc lc fc tb b o c mb n l f W hW hg
  have HE : Hid (cfOf cl x y = if Lib.compareInt (cl x) (cl y) = 0 then Lib.compareInt x y else Lib.compareInt (cl x) (cl y)) := rfl
  have HC1 := hideIt (fun W => cmpInt_any (cl x) (cl y) W)
  have HC2 := hideIt (fun W => cmpInt_any x y W)
  have HOr := hideIt (fun g c W h0 h1 => cmpOr_any g c (Lib.compareInt (cl x) (cl y)) (Lib.compareInt x y) W h0 h1)
  rw [← HE.out] at HOr
  generalize cfOf cl x y = r at *
  generalize cl x = cx at *
  generalize cl y = cy at *
  generalize Lib.compareInt (cx : Int) (cy : Int) = d1 at *
  generalize Lib.compareInt (x : Int) (y : Int) = d2 at *
  clear HE h hf
  go_enter Try.func161, Try.ntmps161
  go_wp2_with fail
  refine wp_region_held_drew (S := (fun w' => w'.cell? ⟨fc, 0, none⟩ = some (.func (.func 157) #[] #[.pointer (some ⟨tc, 0, none⟩), .pointer (some ⟨lc, 0, none⟩)]) ∧ Hid (Stand w' tc lc fc tb b o c mb n l f))) (by kernel_rfl) ⟨(HS.out.below hg0.below HL.out).fn, HS.out.below hg0.below HL.out⟩ (fun hHeld => ?_)
  refine wpAnyH_take (i := 0) (oi := { dst := some 6, op := Op.load 71 (Operand.tmp 2), type := 71, pos := "pick.go:58", after := #[], guard := none }) (v := ?v1x0) rfl (by kernel_rfl) (by kernel_rfl) (by kernel_rfl) (fun _ _ _ h => h) (Or.inl ⟨by rfl, ?h1x0⟩) (by assumption) ?r1x0
  case h1x0 =>
    intro w' hSw
    (try dsimp only at hSw)
    go_simp
    first | done | with_reducible rfl | rfl
  (try simp only [Act.put, List.setIfInBounds_toArray, List.set_cons_zero, List.set_cons_succ])
  refine wpAnyH_take (i := 1) (oi := { dst := some 7, op := Op.move (Operand.tmp 0), type := 3, pos := "pick.go:58", after := #[], guard := none }) (v := ?v2x1) rfl (by kernel_rfl) (by kernel_rfl) (by kernel_rfl) (fun _ _ _ h => h) (Or.inl ⟨by rfl, ?h2x1⟩) (by assumption) ?r2x1
  case h2x1 =>
    intro w' hSw
    (try dsimp only at hSw)
    go_simp
    first | done | with_reducible rfl | rfl
  (try simp only [Act.put, List.setIfInBounds_toArray, List.set_cons_zero, List.set_cons_succ])
  refine wpAnyH_take (i := 3) (oi := { dst := some 9, op := Op.load 71 (Operand.tmp 2), type := 71, pos := "pick.go:58", after := #[], guard := none }) (v := ?v3x3) rfl (by kernel_rfl) (by kernel_rfl) (by kernel_rfl) (fun _ _ _ h => h) (Or.inl ⟨by rfl, ?h3x3⟩) (by assumption) ?r3x3
  case h3x3 =>
    intro w' hSw
    (try dsimp only at hSw)
    go_simp
    first | done | with_reducible rfl | rfl
  (try simp only [Act.put, List.setIfInBounds_toArray, List.set_cons_zero, List.set_cons_succ])
  refine wpAnyH_take (i := 4) (oi := { dst := some 10, op := Op.move (Operand.tmp 1), type := 3, pos := "pick.go:58", after := #[], guard := none }) (v := ?v4x4) rfl (by kernel_rfl) (by kernel_rfl) (by kernel_rfl) (fun _ _ _ h => h) (Or.inl ⟨by rfl, ?h4x4⟩) (by assumption) ?r4x4
  case h4x4 =>
    intro w' hSw
    (try dsimp only at hSw)
    go_simp
    first | done | with_reducible rfl | rfl
  (try simp only [Act.put, List.setIfInBounds_toArray, List.set_cons_zero, List.set_cons_succ])
  refine wpAnyH_take (i := 7) (oi := { dst := some 13, op := Op.move (Operand.tmp 0), type := 3, pos := "pick.go:58", after := #[], guard := none }) (v := ?v5x7) rfl (by kernel_rfl) (by kernel_rfl) (by kernel_rfl) (fun _ _ _ h => h) (Or.inl ⟨by rfl, ?h5x7⟩) (by assumption) ?r5x7
  case h5x7 =>
    intro w' hSw
    (try dsimp only at hSw)
    go_simp
    first | done | with_reducible rfl | rfl
  (try simp only [Act.put, List.setIfInBounds_toArray, List.set_cons_zero, List.set_cons_succ])
  refine wpAnyH_take (i := 8) (oi := { dst := some 14, op := Op.move (Operand.tmp 1), type := 3, pos := "pick.go:58", after := #[], guard := none }) (v := ?v6x8) rfl (by kernel_rfl) (by kernel_rfl) (by kernel_rfl) (fun _ _ _ h => h) (Or.inl ⟨by rfl, ?h6x8⟩) (by assumption) ?r6x8
  case h6x8 =>
    intro w' hSw
    (try dsimp only at hSw)
    go_simp
    first | done | with_reducible rfl | rfl
  (try simp only [Act.put, List.setIfInBounds_toArray, List.set_cons_zero, List.set_cons_succ])
  refine wpAnyH_ready (rs := [2]) (by kernel_rfl) (by simp) (AllReadyH.cons rfl (fun K hK => ?_) AllReadyH.nil)
  go_simp
  go_wp2_with fail
  refine (HB1.out _ hHeld.2.out).mono ?_
  rintro e w1 ⟨rfl, hg⟩
  have hg1 := hg0.trans hg
  clear hg
  go_wp2_with fail
  refine hK.out _ _ ⟨(HS.out.below hg1.below HL.out).fn, HS.out.below hg1.below HL.out⟩ (fun hHeld => ?_)
  clear hK K
  refine wpAnyH_ready (rs := [5]) (by kernel_rfl) (by simp) (AllReadyH.cons rfl (fun K hK => ?_) AllReadyH.nil)
  go_simp
  go_wp2_with fail
  refine (HB2.out _ hHeld.2.out).mono ?_
  rintro e w2 ⟨rfl, hg⟩
  have hg2 := hg1.trans hg
  clear hg
  go_wp2_with fail
  refine hK.out _ _ ⟨(HS.out.below hg2.below HL.out).fn, HS.out.below hg2.below HL.out⟩ (fun hHeld => ?_)
  clear hK K
  refine wpAnyH_ready (rs := [6]) (by kernel_rfl) (by simp) (AllReadyH.cons rfl (fun K hK => ?_) AllReadyH.nil)
  go_simp
  go_wp2_with fail
  refine (HC1.out _).mono ?_
  rintro e w3 ⟨rfl, rfl⟩
  go_wp2_with fail
  refine hK.out _ _ hHeld (fun hHeld => ?_)
  clear hK K
  refine wpAnyH_ready (rs := [9]) (by kernel_rfl) (by simp) (AllReadyH.cons rfl (fun K hK => ?_) AllReadyH.nil)
  go_simp
  go_wp2_with fail
  refine (HC2.out _).mono ?_
  rintro e w4 ⟨rfl, rfl⟩
  go_wp2_with fail
  refine hK.out _ _ hHeld (fun hHeld => ?_)
  clear hK K
  refine wpAnyH_ready (rs := [10]) (by kernel_rfl) (by simp) (AllReadyH.cons rfl (fun K hK => ?_) AllReadyH.nil)
  go_simp
  have hg4 := hg2.alloc (.cells #[.int .i64 d1, .int .i64 d2] 3)
  have c0 : (w4.alloc (.cells #[.int .i64 d1, .int .i64 d2] 3)).cell? ⟨w4.heap.size, 0, none⟩ = some (.int .i64 d1) := by simp
  have c1 : (w4.alloc (.cells #[.int .i64 d1, .int .i64 d2] 3)).cell? ⟨w4.heap.size, 1, none⟩ = some (.int .i64 d2) := by simp
  refine hK.out _ _ ⟨(HS.out.below hg4.below HL.out).fn, HS.out.below hg4.below HL.out⟩ (fun hHeld => ?_)
  clear hK K
  refine wpAnyH_ready (rs := [11]) (by kernel_rfl) (by simp) (AllReadyH.cons rfl (fun K hK => ?_) AllReadyH.nil)
  go_simp
  go_wp2_with fail
  refine (HOr.out _ _ _ c0 c1).mono ?_
  rintro e w5 ⟨rfl, rfl⟩
  go_wp2_with fail
  refine hK.out _ _ hHeld (fun hHeld => ?_)
  clear hK K
  refine wpAnyH_take (i := 12) (oi := { dst := some 5, op := Op.assign (Operand.tmp 17), type := 3, pos := "pick.go:58", after := #[{ on := 11, ground := Ground.data }, { on := 11, ground := Ground.chain }, { on := 0, ground := Ground.phase }, { on := 1, ground := Ground.phase }, { on := 2, ground := Ground.phase }, { on := 3, ground := Ground.phase }, { on := 4, ground := Ground.phase }, { on := 5, ground := Ground.phase }, { on := 6, ground := Ground.phase }, { on := 7, ground := Ground.phase }, { on := 8, ground := Ground.phase }, { on := 9, ground := Ground.phase }, { on := 10, ground := Ground.phase }, { on := 11, ground := Ground.phase }], guard := none }) (v := ?v7x12) rfl (by kernel_rfl) (by kernel_rfl) (by kernel_rfl) (fun _ _ _ h => h) (Or.inl ⟨by rfl, ?h7x12⟩) (by assumption) ?r7x12
  case h7x12 =>
    intro w' hSw
    (try dsimp only at hSw)
    go_simp
    first | done | with_reducible rfl | rfl
  (try simp only [Act.put, List.setIfInBounds_toArray, List.set_cons_zero, List.set_cons_succ])
  refine wpAnyH_done (by kernel_rfl) ?_ _
  go_wp2_with fail
  go_ret
  exact ⟨rfl, hg4⟩
end Go.Proofs.Ythekalhceamcoaa
