/- VR4 -/
import Derived.Test.YtlljniaobbbjgaaGreatDoorU6
import Derived.Deep.RegionHeld3
namespace Go.Proofs.YtlljniaobbbjgaaGreatDoor
open Go.RowKit Go.Shelf
open Ost (splitC cut1)
open Qos (Nd Ct Pd nd)
open Sv (Gv wd)
open S1 (Mx)
/-- Words that lie there. -/
def StrsIn (w : World) (b : Nat) (ws : List (List UInt8)) : Prop := b < w.heap.size ∧ ∀ k, k < ws.length → w.cell? ⟨b, k, none⟩ = some (.string ⟨(wd ws k).toArray⟩)
theorem StrsIn.below {w w' : World} {b : Nat} {ws : List (List UInt8)} (h : StrsIn w b ws) (hb : Below w.heap.size w w') : StrsIn w' b ws :=
  ⟨Nat.lt_of_lt_of_le h.1 hb.size, fun k hk => (hb.cell (p := ⟨b, k, none⟩) h.1).trans (h.2 k hk)⟩
theorem wd_mem {ws : List (List UInt8)} {k : Nat} (h : k < ws.length) : wd ws k ∈ ws := by simp [wd, h]
set_option maxRecDepth 100000 in
set_option maxHeartbeats 1000000 in
theorem readPod_any (b wc : Nat) (ws : List (List UInt8)) (w : World) (h : StrsIn w b ws) (hl : ws.length = 3) (hs : ∀ x ∈ ws, x.length ≤ 10000) :
    Calls Tryz.prog 71 #[.slice (some ⟨b, 0, none⟩) 3 wc] w fun e w' => e = .returned (.tuple #[.agg #[.string ⟨(wd ws 1).toArray⟩, .int .i64 (nOf (wd ws 2)), .slice none 0 0], .bool (gOf (wd ws 2))]) ∧ Below w.heap.size w w' := by
  have HB0 := hideIt ((Below.refl w.heap.size w).alloc (Nat.le_refl _) (.cells #[.string ⟨#[]⟩, .int .i64 0, .slice none 0 0] 59))
  have h2 := HB0.out
  have c1 := ((h.below h2).2 1 (by omega))
  have c2 := ((h.below h2).2 2 (by omega))
  have HN := hideIt (fun W => readNumber_any ⟨(wd ws 2).toArray⟩ W (by have := hs _ (wd_mem (ws := ws) (k := 2) (by omega)); unfold maxLen; show (wd ws 2).length ≤ _; omega))
  rw [show (ByteArray.mk (wd ws 2).toArray).data.toList = wd ws 2 by simp] at HN
  generalize nOf (wd ws 2) = n at *
  generalize gOf (wd ws 2) = g at *
  generalize wd ws 1 = x at *
  generalize wd ws 2 = y at *
  clear h hs hl h2
  go_enter Tryz.func71, Tryz.ntmps71
  go_wp2_with fail
  refine (HN.out _).mono ?_
  rintro e w1 ⟨rfl, rfl⟩
  go_wp2_with fail
  (try simp only [Exit.inBlock, Exit.then])
  refine bodyPost_ret (v := .tuple #[.agg #[.string ⟨x.toArray⟩, .int .i64 n, .slice none 0 0], .bool g]) ?_ rfl ⟨rfl, (Below.refl _ _).alloc (Nat.le_refl _) _⟩
  rw [results_cell_tmp rfl]
  go_simp
def regionsOf : Code → List Code
  | .seq a b => regionsOf a ++ regionsOf b
  | .cond _ a b => regionsOf a ++ regionsOf b
  | .block _ c => regionsOf c
  | .scope c => regionsOf c
  | .loop c => regionsOf c
  | .region i o d => [.region i o d]
  | _ => []
def FrV (G : (Nat → Value) → Act) (P : (Nat → Value) → World → Prop) (a : Act) (w : World) : Prop := ∃ F, a = G F ∧ P F w
theorem FrV.mk {G : (Nat → Value) → Act} {P : (Nat → Value) → World → Prop} {a : Act} {w : World} (h : a = G (fun n => a.tmps.getD n undef)) (hP : P (fun n => a.tmps.getD n undef) w) : FrV G P a w := ⟨_, h, hP⟩
theorem set_heap {W : World} {g : Nat} {cs : Array Value} {t : TypeId} (h : W.heap[g]? = some (.cells cs t (0, 0))) (i : Nat) (v : Value) : (W.setCell ⟨g, i, none⟩ v).heap[g]? = some (.cells (cs.setIfInBounds i v) t (0, 0)) := by
  obtain ⟨hlt, hk⟩ := Array.getElem?_eq_some_iff.1 h
  show (W.heap.modify g _)[g]? = _
  rw [Array.getElem?_eq_getElem (by rw [Array.size_modify]; exact hlt), Array.getElem_modify_self, hk]
  rfl
theorem below_of_drew {N : Nat} {w V : World} (h : Below N w.drew V) : Below N w V := ⟨h.os, h.tape, h.output, h.size, h.block⟩
theorem cell_far {W : World} {b j g i : Nat} {u v : Value} (h : W.cell? ⟨b, j, none⟩ = some u) (hne : b ≠ g) : (W.setCell ⟨g, i, none⟩ v).cell? ⟨b, j, none⟩ = some u :=
  (World.cell?_of_block (a := ⟨b, j, none⟩) (Below.heap_setCell W ⟨g, i, none⟩ v b hne)).trans h
/-- A piece of code that is left at its end alone. -/
def NormalAtV (R : Act → World → Prop) : Exit → Act → World → Prop
  | .normal, a, w => R a w
  | _, _, _ => False
theorem NormalAtV.mk {R : Act → World → Prop} {a : Act} {w : World} (h : R a w) : NormalAtV R .normal a w := h
theorem wp_normalAtV {P : Program} {c : Code} {R : Act → World → Prop} {Q : Exit → Act → World → Prop} {a : Act} {w : World} (h : Code.wp P c (NormalAtV R) a w) (hq : ∀ a w, R a w → Q .normal a w) : Code.wp P c Q a w :=
  wp_mono h fun e a w h => by
    cases e with
    | normal => exact hq _ _ h
    | _ => exact h.elim
noncomputable def contR1 : Code := ((Tryz.f72.body.map regionsOf).getD []).getD 1 .skip
set_option maxRecDepth 100000 in
set_option maxHeartbeats 4000000 in
theorem contR1_any {b wc : Nat} {x y : ByteArray} {m n : Int} {p : Bool} {P : Nat → Value} (w : World) (hb : b < w.heap.size) (hx : w.cell? ⟨b, 2, none⟩ = some (.string x)) (hy : w.cell? ⟨b, 3, none⟩ = some (.string y))
    (HR : Hid (∀ W, Calls Tryz.prog 93 #[.string x, .string y] W fun e w' => e = .returned (.tuple #[.agg #[.int .i64 m, .int .i64 n], .bool p]) ∧ Below W.heap.size W w')) :
    Code.wp Tryz.prog contR1 (NormalAtV (FrV (fun F => { tmps := List.toArray (Value.slice (some ⟨b, 0, none⟩) 9 wc :: undef :: P 2 :: P 3 :: P 4 :: F 5 :: F 6 :: undef :: undef :: undef :: undef :: undef :: undef :: undef :: undef :: undef :: undef :: F 17 :: F 18 :: F 19 :: F 20 :: F 21 :: F 22 :: F 23 :: F 24 :: F 25 :: F 26 :: undef :: undef :: undef :: undef :: undef :: undef :: undef :: undef :: undef :: undef :: undef :: undef :: undef :: undef :: undef :: undef :: undef :: undef :: undef :: undef :: undef :: undef :: undef :: undef :: undef :: undef :: undef :: undef :: undef :: undef :: undef :: undef :: undef :: undef :: undef :: undef :: undef :: undef :: undef :: undef :: undef :: undef :: undef :: undef :: undef :: undef :: undef :: undef :: undef :: undef :: undef :: undef :: undef :: undef :: undef :: undef :: []), defers := [] }) (fun F W' => ∃ B, F 5 = .pointer (some ⟨B, 0, none⟩) ∧ F 6 = .bool p ∧ Below w.heap.size w W' ∧ w.heap.size ≤ B ∧ W'.heap[B]? = some (.cells #[.int .i64 m, .int .i64 n] 53 (0, 0)))))
      { tmps := List.toArray (Value.slice (some ⟨b, 0, none⟩) 9 wc :: undef :: P 2 :: P 3 :: P 4 :: undef :: undef :: undef :: undef :: undef :: undef :: undef :: undef :: undef :: undef :: undef :: undef :: undef :: undef :: undef :: undef :: undef :: undef :: undef :: undef :: undef :: undef :: undef :: undef :: undef :: undef :: undef :: undef :: undef :: undef :: undef :: undef :: undef :: undef :: undef :: undef :: undef :: undef :: undef :: undef :: undef :: undef :: undef :: undef :: undef :: undef :: undef :: undef :: undef :: undef :: undef :: undef :: undef :: undef :: undef :: undef :: undef :: undef :: undef :: undef :: undef :: undef :: undef :: undef :: undef :: undef :: undef :: undef :: undef :: undef :: undef :: undef :: undef :: undef :: undef :: undef :: undef :: undef :: []), defers := [] } w := by
  conv => enter [2]; unfold contR1; whnf
  have HX : Hid (w.drew.cell? ⟨b, 2, none⟩ = some (.string x) ∧ w.drew.cell? ⟨b, 3, none⟩ = some (.string y)) := hideIt ⟨hx, hy⟩
  have HB := hideIt hb
  clear hx hy hb
  refine wp_region_held_drew (S := (fun w' => w'.cell? ⟨b, 2, none⟩ = some (.string x) ∧ w'.cell? ⟨b, 3, none⟩ = some (.string y))) (by kernel_rfl) HX.out (fun hHeld => ?_)
  refine wpAnyH_take (i := 0) (oi := { dst := some 18, op := Op.move (Operand.tmp 0), type := 41, pos := "parse.go:84", after := #[], guard := none }) (v := ?v1x0) rfl (by kernel_rfl) (by kernel_rfl) (by kernel_rfl) (fun _ _ _ h => h) (Or.inl ⟨by rfl, ?h1x0⟩) (by assumption) ?r1x0
  case h1x0 =>
    intro w' hSw
    (try dsimp only at hSw)
    go_simp
    first | done | with_reducible rfl | rfl
  (try simp only [Act.put, List.setIfInBounds_toArray, List.set_cons_zero, List.set_cons_succ])
  refine wpAnyH_take (i := 1) (oi := { dst := some 19, op := Op.indexAddr 41 (Operand.tmp 18) (Operand.const (Value.int IntKind.i64 2)), type := 0, pos := "parse.go:84", after := #[{ on := 0, ground := Ground.data }], guard := none }) (v := ?v2x1) rfl (by kernel_rfl) (by kernel_rfl) (by kernel_rfl) (fun _ _ _ h => h) (Or.inl ⟨by rfl, ?h2x1⟩) (by assumption) ?r2x1
  case h2x1 =>
    intro w' hSw
    (try dsimp only at hSw)
    go_simp
    first | done | with_reducible rfl | rfl
  (try simp only [Act.put, List.setIfInBounds_toArray, List.set_cons_zero, List.set_cons_succ])
  refine wpAnyH_take (i := 2) (oi := { dst := some 20, op := Op.load 9 (Operand.tmp 19), type := 9, pos := "parse.go:84", after := #[{ on := 1, ground := Ground.data }], guard := none }) (v := ?v3x2) rfl (by kernel_rfl) (by kernel_rfl) (by kernel_rfl) (fun _ _ _ h => h) (Or.inl ⟨by rfl, ?h3x2⟩) (by assumption) ?r3x2
  case h3x2 =>
    intro w' hSw
    (try dsimp only at hSw)
    go_simp
    first | done | with_reducible rfl | rfl
  (try simp only [Act.put, List.setIfInBounds_toArray, List.set_cons_zero, List.set_cons_succ])
  refine wpAnyH_take (i := 3) (oi := { dst := some 21, op := Op.move (Operand.tmp 0), type := 41, pos := "parse.go:84", after := #[], guard := none }) (v := ?v4x3) rfl (by kernel_rfl) (by kernel_rfl) (by kernel_rfl) (fun _ _ _ h => h) (Or.inl ⟨by rfl, ?h4x3⟩) (by assumption) ?r4x3
  case h4x3 =>
    intro w' hSw
    (try dsimp only at hSw)
    go_simp
    first | done | with_reducible rfl | rfl
  (try simp only [Act.put, List.setIfInBounds_toArray, List.set_cons_zero, List.set_cons_succ])
  refine wpAnyH_take (i := 4) (oi := { dst := some 22, op := Op.indexAddr 41 (Operand.tmp 21) (Operand.const (Value.int IntKind.i64 3)), type := 0, pos := "parse.go:84", after := #[{ on := 3, ground := Ground.data }], guard := none }) (v := ?v5x4) rfl (by kernel_rfl) (by kernel_rfl) (by kernel_rfl) (fun _ _ _ h => h) (Or.inl ⟨by rfl, ?h5x4⟩) (by assumption) ?r5x4
  case h5x4 =>
    intro w' hSw
    (try dsimp only at hSw)
    go_simp
    first | done | with_reducible rfl | rfl
  (try simp only [Act.put, List.setIfInBounds_toArray, List.set_cons_zero, List.set_cons_succ])
  refine wpAnyH_take (i := 5) (oi := { dst := some 23, op := Op.load 9 (Operand.tmp 22), type := 9, pos := "parse.go:84", after := #[{ on := 4, ground := Ground.data }], guard := none }) (v := ?v6x5) rfl (by kernel_rfl) (by kernel_rfl) (by kernel_rfl) (fun _ _ _ h => h) (Or.inl ⟨by rfl, ?h6x5⟩) (by assumption) ?r6x5
  case h6x5 =>
    intro w' hSw
    (try dsimp only at hSw)
    go_simp
    first | done | with_reducible rfl | rfl
  (try simp only [Act.put, List.setIfInBounds_toArray, List.set_cons_zero, List.set_cons_succ])
  refine wpAnyH_ready (rs := [6, 10]) (by kernel_rfl) (by simp) (AllReadyH.cons rfl (fun K hK => ?o6) (AllReadyH.cons rfl (fun K hK => ?o10) AllReadyH.nil))
  case o6 =>
    go_simp
    go_wp2_with fail
    refine (HR.out _).mono ?_
    rintro e V1 ⟨rfl, hbV⟩
    have HBV := hideIt hbV
    have HX1 := hideIt (show V1.cell? ⟨b, 2, none⟩ = some (.string x) ∧ V1.cell? ⟨b, 3, none⟩ = some (.string y) from ⟨(hbV.cell (p := ⟨b, 2, none⟩) HB.out).trans HX.out.1, (hbV.cell (p := ⟨b, 3, none⟩) HB.out).trans HX.out.2⟩)
    clear hbV
    go_wp2_with fail
    refine hK.out _ _ HX1.out (fun hHeld => ?_)
    clear hK K
    refine wpAnyH_take (i := 7) (oi := { dst := some 17, op := Op.move (Operand.tmp 24), type := 150, pos := "parse.go:84", after := #[{ on := 6, ground := Ground.data }], guard := none }) (v := ?v7x7) rfl (by kernel_rfl) (by kernel_rfl) (by kernel_rfl) (fun _ _ _ h => h) (Or.inl ⟨by rfl, ?h7x7⟩) (by assumption) ?r7x7
    case h7x7 =>
      intro w' hSw
      (try dsimp only at hSw)
      go_simp
      first | done | with_reducible rfl | rfl
    (try simp only [Act.put, List.setIfInBounds_toArray, List.set_cons_zero, List.set_cons_succ])
    refine wpAnyH_take (i := 8) (oi := { dst := some 25, op := Op.extract (Operand.tmp 17) 0, type := 53, pos := "parse.go:84", after := #[{ on := 7, ground := Ground.data }], guard := none }) (v := ?v8x8) rfl (by kernel_rfl) (by kernel_rfl) (by kernel_rfl) (fun _ _ _ h => h) (Or.inl ⟨by rfl, ?h8x8⟩) (by assumption) ?r8x8
    case h8x8 =>
      intro w' hSw
      (try dsimp only at hSw)
      go_simp
      first | done | with_reducible rfl | rfl
    (try simp only [Act.put, List.setIfInBounds_toArray, List.set_cons_zero, List.set_cons_succ])
    refine wpAnyH_take (i := 9) (oi := { dst := some 26, op := Op.extract (Operand.tmp 17) 1, type := 4, pos := "parse.go:84", after := #[{ on := 7, ground := Ground.data }, { on := 11, ground := Ground.gcOnly Departure.lateStores }], guard := none }) (v := ?v9x9) rfl (by kernel_rfl) (by kernel_rfl) (by kernel_rfl) (fun _ _ _ h => h) (Or.inl ⟨by rfl, ?h9x9⟩) (by assumption) ?r9x9
    case h9x9 =>
      intro w' hSw
      (try dsimp only at hSw)
      go_simp
      first | done | with_reducible rfl | rfl
    (try simp only [Act.put, List.setIfInBounds_toArray, List.set_cons_zero, List.set_cons_succ])
    refine wpAnyH_ready (rs := [10]) (by kernel_rfl) (by simp) (AllReadyH.cons rfl (fun K hK => ?_) AllReadyH.nil)
    go_simp
    go_wp2_with fail
    refine hK.out _ _ ⟨cell_allocV HX1.out.1 (.cells #[.int .i64 0, .int .i64 0] 53), cell_allocV HX1.out.2 (.cells #[.int .i64 0, .int .i64 0] 53)⟩ (fun hHeld => ?_)
    clear hK K
    refine wpAnyH_ready (rs := [11]) (by kernel_rfl) (by simp) (AllReadyH.cons rfl (fun K hK => ?_) AllReadyH.nil)
    go_simp
    go_wp2_with fail
    refine hK.out _ _ ⟨cell_allocV HX1.out.1 (.cells #[.int .i64 m, .int .i64 n] 53), cell_allocV HX1.out.2 (.cells #[.int .i64 m, .int .i64 n] 53)⟩ (fun hHeld => ?_)
    clear hK K
    refine wpAnyH_take (i := 12) (oi := { dst := some 6, op := Op.assign (Operand.tmp 26), type := 4, pos := "parse.go:84", after := #[{ on := 9, ground := Ground.data }, { on := 11, ground := Ground.chain }, { on := 0, ground := Ground.phase }, { on := 1, ground := Ground.phase }, { on := 2, ground := Ground.phase }, { on := 3, ground := Ground.phase }, { on := 4, ground := Ground.phase }, { on := 5, ground := Ground.phase }, { on := 6, ground := Ground.phase }, { on := 7, ground := Ground.phase }, { on := 8, ground := Ground.phase }, { on := 9, ground := Ground.phase }, { on := 10, ground := Ground.phase }, { on := 11, ground := Ground.phase }], guard := none }) (v := ?v10x12) rfl (by kernel_rfl) (by kernel_rfl) (by kernel_rfl) (fun _ _ _ h => h) (Or.inl ⟨by rfl, ?h10x12⟩) (by assumption) ?r10x12
    case h10x12 =>
      intro w' hSw
      (try dsimp only at hSw)
      go_simp
      first | done | with_reducible rfl | rfl
    (try simp only [Act.put, List.setIfInBounds_toArray, List.set_cons_zero, List.set_cons_succ])
    refine wpAnyH_done (by kernel_rfl) ?_ _
    refine NormalAtV.mk (FrV.mk (by kernel_rfl) ?_)
    refine ⟨V1.heap.size, rfl, rfl, ?_, ?_, ?_⟩
    · exact (below_of_drew HBV.out).alloc HBV.out.size _
    · exact HBV.out.size
    · exact heap_alloc_new V1 _
  case o10 =>
    go_simp
    go_wp2_with fail
    have HBA0 := hideIt (show Below w.heap.size w (w.alloc (.cells #[.int .i64 0, .int .i64 0] 53)).drew from below_drewV ((Below.refl w.heap.size w).alloc (Nat.le_refl _) (.cells #[.int .i64 0, .int .i64 0] 53)))
    have HXA := hideIt (show (w.alloc (.cells #[.int .i64 0, .int .i64 0] 53)).drew.cell? ⟨b, 2, none⟩ = some (.string x) ∧ (w.alloc (.cells #[.int .i64 0, .int .i64 0] 53)).drew.cell? ⟨b, 3, none⟩ = some (.string y) from ⟨cell_allocV HX.out.1 (.cells #[.int .i64 0, .int .i64 0] 53), cell_allocV HX.out.2 (.cells #[.int .i64 0, .int .i64 0] 53)⟩)
    have hnw : (w.alloc (.cells #[.int .i64 0, .int .i64 0] 53)).drew.heap[w.heap.size]? = some (.cells #[.int .i64 0, .int .i64 0] 53) := heap_alloc_new w _
    have hltA : w.heap.size < (w.alloc (.cells #[.int .i64 0, .int .i64 0] 53)).drew.heap.size := by simp
    have hltB : b < (w.alloc (.cells #[.int .i64 0, .int .i64 0] 53)).drew.heap.size := Nat.lt_trans HB.out hltA
    refine hK.out _ _ HXA.out (fun hHeld => ?_)
    clear hK K
    generalize (w.alloc (.cells #[.int .i64 0, .int .i64 0] 53)).drew = VA at *
    refine wpAnyH_ready (rs := [6]) (by kernel_rfl) (by simp) (AllReadyH.cons rfl (fun K hK => ?_) AllReadyH.nil)
    go_simp
    go_wp2_with fail
    refine (HR.out _).mono ?_
    rintro e V1 ⟨rfl, hbV⟩
    have HBV := hideIt hbV
    have HX1 := hideIt (show V1.cell? ⟨b, 2, none⟩ = some (.string x) ∧ V1.cell? ⟨b, 3, none⟩ = some (.string y) from ⟨(hbV.cell (p := ⟨b, 2, none⟩) hltB).trans HXA.out.1, (hbV.cell (p := ⟨b, 3, none⟩) hltB).trans HXA.out.2⟩)
    clear hbV
    go_wp2_with fail
    refine hK.out _ _ HX1.out (fun hHeld => ?_)
    clear hK K
    refine wpAnyH_take (i := 7) (oi := { dst := some 17, op := Op.move (Operand.tmp 24), type := 150, pos := "parse.go:84", after := #[{ on := 6, ground := Ground.data }], guard := none }) (v := ?v11x7) rfl (by kernel_rfl) (by kernel_rfl) (by kernel_rfl) (fun _ _ _ h => h) (Or.inl ⟨by rfl, ?h11x7⟩) (by assumption) ?r11x7
    case h11x7 =>
      intro w' hSw
      (try dsimp only at hSw)
      go_simp
      first | done | with_reducible rfl | rfl
    (try simp only [Act.put, List.setIfInBounds_toArray, List.set_cons_zero, List.set_cons_succ])
    refine wpAnyH_take (i := 8) (oi := { dst := some 25, op := Op.extract (Operand.tmp 17) 0, type := 53, pos := "parse.go:84", after := #[{ on := 7, ground := Ground.data }], guard := none }) (v := ?v12x8) rfl (by kernel_rfl) (by kernel_rfl) (by kernel_rfl) (fun _ _ _ h => h) (Or.inl ⟨by rfl, ?h12x8⟩) (by assumption) ?r12x8
    case h12x8 =>
      intro w' hSw
      (try dsimp only at hSw)
      go_simp
      first | done | with_reducible rfl | rfl
    (try simp only [Act.put, List.setIfInBounds_toArray, List.set_cons_zero, List.set_cons_succ])
    refine wpAnyH_take (i := 9) (oi := { dst := some 26, op := Op.extract (Operand.tmp 17) 1, type := 4, pos := "parse.go:84", after := #[{ on := 7, ground := Ground.data }, { on := 11, ground := Ground.gcOnly Departure.lateStores }], guard := none }) (v := ?v13x9) rfl (by kernel_rfl) (by kernel_rfl) (by kernel_rfl) (fun _ _ _ h => h) (Or.inl ⟨by rfl, ?h13x9⟩) (by assumption) ?r13x9
    case h13x9 =>
      intro w' hSw
      (try dsimp only at hSw)
      go_simp
      first | done | with_reducible rfl | rfl
    (try simp only [Act.put, List.setIfInBounds_toArray, List.set_cons_zero, List.set_cons_succ])
    have hn1 : V1.heap[w.heap.size]? = some (.cells #[.int .i64 0, .int .i64 0] 53) := (HBV.out.block _ hltA).trans hnw
    have hn2 := set_heap hn1 0 (.int .i64 m)
    have hn3 := set_heap hn2 1 (.int .i64 n)
    have k0 : V1.cell? ⟨w.heap.size, 0, none⟩ = some (.int .i64 0) := by simp [World.cell?, hn1]
    have f0 : V1.frozen? ⟨w.heap.size, 0, none⟩ = false := by simp [World.frozen?, hn1]
    have k1 : (V1.setCell ⟨w.heap.size, 0, none⟩ (.int .i64 m)).cell? ⟨w.heap.size, 1, none⟩ = some (.int .i64 0) := by simp [World.cell?, hn2]
    have f1 : (V1.setCell ⟨w.heap.size, 0, none⟩ (.int .i64 m)).frozen? ⟨w.heap.size, 1, none⟩ = false := by simp [World.frozen?, hn2]
    have hne : b ≠ w.heap.size := by have := HB.out; omega
    have HX3 := hideIt (And.intro (cell_far (cell_far HX1.out.1 (i := 0) (v := .int .i64 m) hne) (i := 1) (v := .int .i64 n) hne) (cell_far (cell_far HX1.out.2 (i := 0) (v := .int .i64 m) hne) (i := 1) (v := .int .i64 n) hne))
    have HH3 := hideIt hn3
    clear hn1 hn2 hn3 hnw hne
    refine wpAnyH_ready (rs := [11]) (by kernel_rfl) (by simp) (AllReadyH.cons rfl (fun K hK => ?_) AllReadyH.nil)
    go_simp
    go_wp2_with fail
    refine hK.out _ _ HX3.out (fun hHeld => ?_)
    clear hK K
    refine wpAnyH_take (i := 12) (oi := { dst := some 6, op := Op.assign (Operand.tmp 26), type := 4, pos := "parse.go:84", after := #[{ on := 9, ground := Ground.data }, { on := 11, ground := Ground.chain }, { on := 0, ground := Ground.phase }, { on := 1, ground := Ground.phase }, { on := 2, ground := Ground.phase }, { on := 3, ground := Ground.phase }, { on := 4, ground := Ground.phase }, { on := 5, ground := Ground.phase }, { on := 6, ground := Ground.phase }, { on := 7, ground := Ground.phase }, { on := 8, ground := Ground.phase }, { on := 9, ground := Ground.phase }, { on := 10, ground := Ground.phase }, { on := 11, ground := Ground.phase }], guard := none }) (v := ?v14x12) rfl (by kernel_rfl) (by kernel_rfl) (by kernel_rfl) (fun _ _ _ h => h) (Or.inl ⟨by rfl, ?h14x12⟩) (by assumption) ?r14x12
    case h14x12 =>
      intro w' hSw
      (try dsimp only at hSw)
      go_simp
      first | done | with_reducible rfl | rfl
    (try simp only [Act.put, List.setIfInBounds_toArray, List.set_cons_zero, List.set_cons_succ])
    refine wpAnyH_done (by kernel_rfl) ?_ _
    refine NormalAtV.mk (FrV.mk (by kernel_rfl) ?_)
    refine ⟨w.heap.size, rfl, rfl, ?_, Nat.le_refl _, HH3.out⟩
    exact (((HBA0.out.trans (HBV.out.mono HBA0.out.size)).setCell (p := ⟨w.heap.size, 0, none⟩) (Nat.le_refl _) _).setCell (p := ⟨w.heap.size, 1, none⟩) (Nat.le_refl _) _)
noncomputable def contR2 : Code := ((Tryz.f72.body.map regionsOf).getD []).getD 2 .skip
set_option maxRecDepth 100000 in
set_option maxHeartbeats 4000000 in
theorem contR2_any {b wc : Nat} {x y : ByteArray} {m n : Int} {p : Bool} {P : Nat → Value} (w : World) (hb : b < w.heap.size) (hx : w.cell? ⟨b, 4, none⟩ = some (.string x)) (hy : w.cell? ⟨b, 5, none⟩ = some (.string y))
    (HR : Hid (∀ W, Calls Tryz.prog 93 #[.string x, .string y] W fun e w' => e = .returned (.tuple #[.agg #[.int .i64 m, .int .i64 n], .bool p]) ∧ Below W.heap.size W w')) :
    Code.wp Tryz.prog contR2 (NormalAtV (FrV (fun F => { tmps := List.toArray (Value.slice (some ⟨b, 0, none⟩) 9 wc :: undef :: P 2 :: P 3 :: P 4 :: P 5 :: P 6 :: F 7 :: F 8 :: undef :: undef :: undef :: undef :: undef :: undef :: undef :: undef :: P 17 :: P 18 :: P 19 :: P 20 :: P 21 :: P 22 :: P 23 :: P 24 :: P 25 :: P 26 :: F 27 :: F 28 :: F 29 :: F 30 :: F 31 :: F 32 :: F 33 :: F 34 :: F 35 :: F 36 :: undef :: undef :: undef :: undef :: undef :: undef :: undef :: undef :: undef :: undef :: undef :: undef :: undef :: undef :: undef :: undef :: undef :: undef :: undef :: undef :: undef :: undef :: undef :: undef :: undef :: undef :: undef :: undef :: undef :: undef :: undef :: undef :: undef :: undef :: undef :: undef :: undef :: undef :: undef :: undef :: undef :: undef :: undef :: undef :: undef :: undef :: []), defers := [] }) (fun F W' => ∃ B, F 7 = .pointer (some ⟨B, 0, none⟩) ∧ F 8 = .bool p ∧ Below w.heap.size w W' ∧ w.heap.size ≤ B ∧ W'.heap[B]? = some (.cells #[.int .i64 m, .int .i64 n] 53 (0, 0)))))
      { tmps := List.toArray (Value.slice (some ⟨b, 0, none⟩) 9 wc :: undef :: P 2 :: P 3 :: P 4 :: P 5 :: P 6 :: undef :: undef :: undef :: undef :: undef :: undef :: undef :: undef :: undef :: undef :: P 17 :: P 18 :: P 19 :: P 20 :: P 21 :: P 22 :: P 23 :: P 24 :: P 25 :: P 26 :: undef :: undef :: undef :: undef :: undef :: undef :: undef :: undef :: undef :: undef :: undef :: undef :: undef :: undef :: undef :: undef :: undef :: undef :: undef :: undef :: undef :: undef :: undef :: undef :: undef :: undef :: undef :: undef :: undef :: undef :: undef :: undef :: undef :: undef :: undef :: undef :: undef :: undef :: undef :: undef :: undef :: undef :: undef :: undef :: undef :: undef :: undef :: undef :: undef :: undef :: undef :: undef :: undef :: undef :: undef :: undef :: []), defers := [] } w := by
  conv => enter [2]; unfold contR2; whnf
  have HX : Hid (w.drew.cell? ⟨b, 4, none⟩ = some (.string x) ∧ w.drew.cell? ⟨b, 5, none⟩ = some (.string y)) := hideIt ⟨hx, hy⟩
  have HB := hideIt hb
  clear hx hy hb
  refine wp_region_held_drew (S := (fun w' => w'.cell? ⟨b, 4, none⟩ = some (.string x) ∧ w'.cell? ⟨b, 5, none⟩ = some (.string y))) (by kernel_rfl) HX.out (fun hHeld => ?_)
  refine wpAnyH_take (i := 0) (oi := { dst := some 28, op := Op.move (Operand.tmp 0), type := 41, pos := "parse.go:85", after := #[], guard := none }) (v := ?v15x0) rfl (by kernel_rfl) (by kernel_rfl) (by kernel_rfl) (fun _ _ _ h => h) (Or.inl ⟨by rfl, ?h15x0⟩) (by assumption) ?r15x0
  case h15x0 =>
    intro w' hSw
    (try dsimp only at hSw)
    go_simp
    first | done | with_reducible rfl | rfl
  (try simp only [Act.put, List.setIfInBounds_toArray, List.set_cons_zero, List.set_cons_succ])
  refine wpAnyH_take (i := 1) (oi := { dst := some 29, op := Op.indexAddr 41 (Operand.tmp 28) (Operand.const (Value.int IntKind.i64 4)), type := 0, pos := "parse.go:85", after := #[{ on := 0, ground := Ground.data }], guard := none }) (v := ?v16x1) rfl (by kernel_rfl) (by kernel_rfl) (by kernel_rfl) (fun _ _ _ h => h) (Or.inl ⟨by rfl, ?h16x1⟩) (by assumption) ?r16x1
  case h16x1 =>
    intro w' hSw
    (try dsimp only at hSw)
    go_simp
    first | done | with_reducible rfl | rfl
  (try simp only [Act.put, List.setIfInBounds_toArray, List.set_cons_zero, List.set_cons_succ])
  refine wpAnyH_take (i := 2) (oi := { dst := some 30, op := Op.load 9 (Operand.tmp 29), type := 9, pos := "parse.go:85", after := #[{ on := 1, ground := Ground.data }], guard := none }) (v := ?v17x2) rfl (by kernel_rfl) (by kernel_rfl) (by kernel_rfl) (fun _ _ _ h => h) (Or.inl ⟨by rfl, ?h17x2⟩) (by assumption) ?r17x2
  case h17x2 =>
    intro w' hSw
    (try dsimp only at hSw)
    go_simp
    first | done | with_reducible rfl | rfl
  (try simp only [Act.put, List.setIfInBounds_toArray, List.set_cons_zero, List.set_cons_succ])
  refine wpAnyH_take (i := 3) (oi := { dst := some 31, op := Op.move (Operand.tmp 0), type := 41, pos := "parse.go:85", after := #[], guard := none }) (v := ?v18x3) rfl (by kernel_rfl) (by kernel_rfl) (by kernel_rfl) (fun _ _ _ h => h) (Or.inl ⟨by rfl, ?h18x3⟩) (by assumption) ?r18x3
  case h18x3 =>
    intro w' hSw
    (try dsimp only at hSw)
    go_simp
    first | done | with_reducible rfl | rfl
  (try simp only [Act.put, List.setIfInBounds_toArray, List.set_cons_zero, List.set_cons_succ])
  refine wpAnyH_take (i := 4) (oi := { dst := some 32, op := Op.indexAddr 41 (Operand.tmp 31) (Operand.const (Value.int IntKind.i64 5)), type := 0, pos := "parse.go:85", after := #[{ on := 3, ground := Ground.data }], guard := none }) (v := ?v19x4) rfl (by kernel_rfl) (by kernel_rfl) (by kernel_rfl) (fun _ _ _ h => h) (Or.inl ⟨by rfl, ?h19x4⟩) (by assumption) ?r19x4
  case h19x4 =>
    intro w' hSw
    (try dsimp only at hSw)
    go_simp
    first | done | with_reducible rfl | rfl
  (try simp only [Act.put, List.setIfInBounds_toArray, List.set_cons_zero, List.set_cons_succ])
  refine wpAnyH_take (i := 5) (oi := { dst := some 33, op := Op.load 9 (Operand.tmp 32), type := 9, pos := "parse.go:85", after := #[{ on := 4, ground := Ground.data }], guard := none }) (v := ?v20x5) rfl (by kernel_rfl) (by kernel_rfl) (by kernel_rfl) (fun _ _ _ h => h) (Or.inl ⟨by rfl, ?h20x5⟩) (by assumption) ?r20x5
  case h20x5 =>
    intro w' hSw
    (try dsimp only at hSw)
    go_simp
    first | done | with_reducible rfl | rfl
  (try simp only [Act.put, List.setIfInBounds_toArray, List.set_cons_zero, List.set_cons_succ])
  refine wpAnyH_ready (rs := [6, 10]) (by kernel_rfl) (by simp) (AllReadyH.cons rfl (fun K hK => ?o6) (AllReadyH.cons rfl (fun K hK => ?o10) AllReadyH.nil))
  case o6 =>
    go_simp
    go_wp2_with fail
    refine (HR.out _).mono ?_
    rintro e V1 ⟨rfl, hbV⟩
    have HBV := hideIt hbV
    have HX1 := hideIt (show V1.cell? ⟨b, 4, none⟩ = some (.string x) ∧ V1.cell? ⟨b, 5, none⟩ = some (.string y) from ⟨(hbV.cell (p := ⟨b, 4, none⟩) HB.out).trans HX.out.1, (hbV.cell (p := ⟨b, 5, none⟩) HB.out).trans HX.out.2⟩)
    clear hbV
    go_wp2_with fail
    refine hK.out _ _ HX1.out (fun hHeld => ?_)
    clear hK K
    refine wpAnyH_take (i := 7) (oi := { dst := some 27, op := Op.move (Operand.tmp 34), type := 150, pos := "parse.go:85", after := #[{ on := 6, ground := Ground.data }], guard := none }) (v := ?v21x7) rfl (by kernel_rfl) (by kernel_rfl) (by kernel_rfl) (fun _ _ _ h => h) (Or.inl ⟨by rfl, ?h21x7⟩) (by assumption) ?r21x7
    case h21x7 =>
      intro w' hSw
      (try dsimp only at hSw)
      go_simp
      first | done | with_reducible rfl | rfl
    (try simp only [Act.put, List.setIfInBounds_toArray, List.set_cons_zero, List.set_cons_succ])
    refine wpAnyH_take (i := 8) (oi := { dst := some 35, op := Op.extract (Operand.tmp 27) 0, type := 53, pos := "parse.go:85", after := #[{ on := 7, ground := Ground.data }], guard := none }) (v := ?v22x8) rfl (by kernel_rfl) (by kernel_rfl) (by kernel_rfl) (fun _ _ _ h => h) (Or.inl ⟨by rfl, ?h22x8⟩) (by assumption) ?r22x8
    case h22x8 =>
      intro w' hSw
      (try dsimp only at hSw)
      go_simp
      first | done | with_reducible rfl | rfl
    (try simp only [Act.put, List.setIfInBounds_toArray, List.set_cons_zero, List.set_cons_succ])
    refine wpAnyH_take (i := 9) (oi := { dst := some 36, op := Op.extract (Operand.tmp 27) 1, type := 4, pos := "parse.go:85", after := #[{ on := 7, ground := Ground.data }, { on := 11, ground := Ground.gcOnly Departure.lateStores }], guard := none }) (v := ?v23x9) rfl (by kernel_rfl) (by kernel_rfl) (by kernel_rfl) (fun _ _ _ h => h) (Or.inl ⟨by rfl, ?h23x9⟩) (by assumption) ?r23x9
    case h23x9 =>
      intro w' hSw
      (try dsimp only at hSw)
      go_simp
      first | done | with_reducible rfl | rfl
    (try simp only [Act.put, List.setIfInBounds_toArray, List.set_cons_zero, List.set_cons_succ])
    refine wpAnyH_ready (rs := [10]) (by kernel_rfl) (by simp) (AllReadyH.cons rfl (fun K hK => ?_) AllReadyH.nil)
    go_simp
    go_wp2_with fail
    refine hK.out _ _ ⟨cell_allocV HX1.out.1 (.cells #[.int .i64 0, .int .i64 0] 53), cell_allocV HX1.out.2 (.cells #[.int .i64 0, .int .i64 0] 53)⟩ (fun hHeld => ?_)
    clear hK K
    refine wpAnyH_ready (rs := [11]) (by kernel_rfl) (by simp) (AllReadyH.cons rfl (fun K hK => ?_) AllReadyH.nil)
    go_simp
    go_wp2_with fail
    refine hK.out _ _ ⟨cell_allocV HX1.out.1 (.cells #[.int .i64 m, .int .i64 n] 53), cell_allocV HX1.out.2 (.cells #[.int .i64 m, .int .i64 n] 53)⟩ (fun hHeld => ?_)
    clear hK K
    refine wpAnyH_take (i := 12) (oi := { dst := some 8, op := Op.assign (Operand.tmp 36), type := 4, pos := "parse.go:85", after := #[{ on := 9, ground := Ground.data }, { on := 11, ground := Ground.chain }, { on := 0, ground := Ground.phase }, { on := 1, ground := Ground.phase }, { on := 2, ground := Ground.phase }, { on := 3, ground := Ground.phase }, { on := 4, ground := Ground.phase }, { on := 5, ground := Ground.phase }, { on := 6, ground := Ground.phase }, { on := 7, ground := Ground.phase }, { on := 8, ground := Ground.phase }, { on := 9, ground := Ground.phase }, { on := 10, ground := Ground.phase }, { on := 11, ground := Ground.phase }], guard := none }) (v := ?v24x12) rfl (by kernel_rfl) (by kernel_rfl) (by kernel_rfl) (fun _ _ _ h => h) (Or.inl ⟨by rfl, ?h24x12⟩) (by assumption) ?r24x12
    case h24x12 =>
      intro w' hSw
      (try dsimp only at hSw)
      go_simp
      first | done | with_reducible rfl | rfl
    (try simp only [Act.put, List.setIfInBounds_toArray, List.set_cons_zero, List.set_cons_succ])
    refine wpAnyH_done (by kernel_rfl) ?_ _
    refine NormalAtV.mk (FrV.mk (by kernel_rfl) ?_)
    refine ⟨V1.heap.size, rfl, rfl, ?_, ?_, ?_⟩
    · exact (below_of_drew HBV.out).alloc HBV.out.size _
    · exact HBV.out.size
    · exact heap_alloc_new V1 _
  case o10 =>
    go_simp
    go_wp2_with fail
    have HBA0 := hideIt (show Below w.heap.size w (w.alloc (.cells #[.int .i64 0, .int .i64 0] 53)).drew from below_drewV ((Below.refl w.heap.size w).alloc (Nat.le_refl _) (.cells #[.int .i64 0, .int .i64 0] 53)))
    have HXA := hideIt (show (w.alloc (.cells #[.int .i64 0, .int .i64 0] 53)).drew.cell? ⟨b, 4, none⟩ = some (.string x) ∧ (w.alloc (.cells #[.int .i64 0, .int .i64 0] 53)).drew.cell? ⟨b, 5, none⟩ = some (.string y) from ⟨cell_allocV HX.out.1 (.cells #[.int .i64 0, .int .i64 0] 53), cell_allocV HX.out.2 (.cells #[.int .i64 0, .int .i64 0] 53)⟩)
    have hnw : (w.alloc (.cells #[.int .i64 0, .int .i64 0] 53)).drew.heap[w.heap.size]? = some (.cells #[.int .i64 0, .int .i64 0] 53) := heap_alloc_new w _
    have hltA : w.heap.size < (w.alloc (.cells #[.int .i64 0, .int .i64 0] 53)).drew.heap.size := by simp
    have hltB : b < (w.alloc (.cells #[.int .i64 0, .int .i64 0] 53)).drew.heap.size := Nat.lt_trans HB.out hltA
    refine hK.out _ _ HXA.out (fun hHeld => ?_)
    clear hK K
    generalize (w.alloc (.cells #[.int .i64 0, .int .i64 0] 53)).drew = VA at *
    refine wpAnyH_ready (rs := [6]) (by kernel_rfl) (by simp) (AllReadyH.cons rfl (fun K hK => ?_) AllReadyH.nil)
    go_simp
    go_wp2_with fail
    refine (HR.out _).mono ?_
    rintro e V1 ⟨rfl, hbV⟩
    have HBV := hideIt hbV
    have HX1 := hideIt (show V1.cell? ⟨b, 4, none⟩ = some (.string x) ∧ V1.cell? ⟨b, 5, none⟩ = some (.string y) from ⟨(hbV.cell (p := ⟨b, 4, none⟩) hltB).trans HXA.out.1, (hbV.cell (p := ⟨b, 5, none⟩) hltB).trans HXA.out.2⟩)
    clear hbV
    go_wp2_with fail
    refine hK.out _ _ HX1.out (fun hHeld => ?_)
    clear hK K
    refine wpAnyH_take (i := 7) (oi := { dst := some 27, op := Op.move (Operand.tmp 34), type := 150, pos := "parse.go:85", after := #[{ on := 6, ground := Ground.data }], guard := none }) (v := ?v25x7) rfl (by kernel_rfl) (by kernel_rfl) (by kernel_rfl) (fun _ _ _ h => h) (Or.inl ⟨by rfl, ?h25x7⟩) (by assumption) ?r25x7
    case h25x7 =>
      intro w' hSw
      (try dsimp only at hSw)
      go_simp
      first | done | with_reducible rfl | rfl
    (try simp only [Act.put, List.setIfInBounds_toArray, List.set_cons_zero, List.set_cons_succ])
    refine wpAnyH_take (i := 8) (oi := { dst := some 35, op := Op.extract (Operand.tmp 27) 0, type := 53, pos := "parse.go:85", after := #[{ on := 7, ground := Ground.data }], guard := none }) (v := ?v26x8) rfl (by kernel_rfl) (by kernel_rfl) (by kernel_rfl) (fun _ _ _ h => h) (Or.inl ⟨by rfl, ?h26x8⟩) (by assumption) ?r26x8
    case h26x8 =>
      intro w' hSw
      (try dsimp only at hSw)
      go_simp
      first | done | with_reducible rfl | rfl
    (try simp only [Act.put, List.setIfInBounds_toArray, List.set_cons_zero, List.set_cons_succ])
    refine wpAnyH_take (i := 9) (oi := { dst := some 36, op := Op.extract (Operand.tmp 27) 1, type := 4, pos := "parse.go:85", after := #[{ on := 7, ground := Ground.data }, { on := 11, ground := Ground.gcOnly Departure.lateStores }], guard := none }) (v := ?v27x9) rfl (by kernel_rfl) (by kernel_rfl) (by kernel_rfl) (fun _ _ _ h => h) (Or.inl ⟨by rfl, ?h27x9⟩) (by assumption) ?r27x9
    case h27x9 =>
      intro w' hSw
      (try dsimp only at hSw)
      go_simp
      first | done | with_reducible rfl | rfl
    (try simp only [Act.put, List.setIfInBounds_toArray, List.set_cons_zero, List.set_cons_succ])
    have hn1 : V1.heap[w.heap.size]? = some (.cells #[.int .i64 0, .int .i64 0] 53) := (HBV.out.block _ hltA).trans hnw
    have hn2 := set_heap hn1 0 (.int .i64 m)
    have hn3 := set_heap hn2 1 (.int .i64 n)
    have k0 : V1.cell? ⟨w.heap.size, 0, none⟩ = some (.int .i64 0) := by simp [World.cell?, hn1]
    have f0 : V1.frozen? ⟨w.heap.size, 0, none⟩ = false := by simp [World.frozen?, hn1]
    have k1 : (V1.setCell ⟨w.heap.size, 0, none⟩ (.int .i64 m)).cell? ⟨w.heap.size, 1, none⟩ = some (.int .i64 0) := by simp [World.cell?, hn2]
    have f1 : (V1.setCell ⟨w.heap.size, 0, none⟩ (.int .i64 m)).frozen? ⟨w.heap.size, 1, none⟩ = false := by simp [World.frozen?, hn2]
    have hne : b ≠ w.heap.size := by have := HB.out; omega
    have HX3 := hideIt (And.intro (cell_far (cell_far HX1.out.1 (i := 0) (v := .int .i64 m) hne) (i := 1) (v := .int .i64 n) hne) (cell_far (cell_far HX1.out.2 (i := 0) (v := .int .i64 m) hne) (i := 1) (v := .int .i64 n) hne))
    have HH3 := hideIt hn3
    clear hn1 hn2 hn3 hnw hne
    refine wpAnyH_ready (rs := [11]) (by kernel_rfl) (by simp) (AllReadyH.cons rfl (fun K hK => ?_) AllReadyH.nil)
    go_simp
    go_wp2_with fail
    refine hK.out _ _ HX3.out (fun hHeld => ?_)
    clear hK K
    refine wpAnyH_take (i := 12) (oi := { dst := some 8, op := Op.assign (Operand.tmp 36), type := 4, pos := "parse.go:85", after := #[{ on := 9, ground := Ground.data }, { on := 11, ground := Ground.chain }, { on := 0, ground := Ground.phase }, { on := 1, ground := Ground.phase }, { on := 2, ground := Ground.phase }, { on := 3, ground := Ground.phase }, { on := 4, ground := Ground.phase }, { on := 5, ground := Ground.phase }, { on := 6, ground := Ground.phase }, { on := 7, ground := Ground.phase }, { on := 8, ground := Ground.phase }, { on := 9, ground := Ground.phase }, { on := 10, ground := Ground.phase }, { on := 11, ground := Ground.phase }], guard := none }) (v := ?v28x12) rfl (by kernel_rfl) (by kernel_rfl) (by kernel_rfl) (fun _ _ _ h => h) (Or.inl ⟨by rfl, ?h28x12⟩) (by assumption) ?r28x12
    case h28x12 =>
      intro w' hSw
      (try dsimp only at hSw)
      go_simp
      first | done | with_reducible rfl | rfl
    (try simp only [Act.put, List.setIfInBounds_toArray, List.set_cons_zero, List.set_cons_succ])
    refine wpAnyH_done (by kernel_rfl) ?_ _
    refine NormalAtV.mk (FrV.mk (by kernel_rfl) ?_)
    refine ⟨w.heap.size, rfl, rfl, ?_, Nat.le_refl _, HH3.out⟩
    exact (((HBA0.out.trans (HBV.out.mono HBA0.out.size)).setCell (p := ⟨w.heap.size, 0, none⟩) (Nat.le_refl _) _).setCell (p := ⟨w.heap.size, 1, none⟩) (Nat.le_refl _) _)
end Go.Proofs.YtlljniaobbbjgaaGreatDoor
