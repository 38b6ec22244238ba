/- VR6, VR7 -/
import Derived.Test.YtlljniaobbbjgaaGreatDoorU7
import Derived.Test.YtlljniaobbbjgaaGreatDoorU8
import Derived.Deep.AppendLies
import Derived.Test.YtlljniaobbbjgaaGreatDoorU3
namespace Go.Proofs.YtlljniaobbbjgaaGreatDoor
open Go.RowKit
open Qos (Nd Ct Pd nd ct pd)
open Sv (Gv Hd gv hd)
def regionsOfR : Code → List Code
  | .seq a b => regionsOfR a ++ regionsOfR b
  | .cond _ a b => regionsOfR a ++ regionsOfR b
  | .block _ c => regionsOfR c
  | .scope c => regionsOfR c
  | .loop c => regionsOfR c
  | .rangeFunc _ _ a b => regionsOfR a ++ regionsOfR b
  | .region i o d => [.region i o d]
  | _ => []
def theRegion (n : Nat) (l : List Code) : Code := (l.find? fun c => match c with | .region i _ _ => i == n | _ => false).getD .skip
theorem nodefer {ops : Array Oper} (h : (ops.toList.all fun o => match o.op with | .defer _ => false | _ => true) = true) : ∀ (i : Nat) (o : Oper) c, ops[i]? = some o → o.op ≠ Op.defer c := by
  intro i o c hi hd
  have hm : o ∈ ops.toList := by
    rw [← Array.getElem?_toList] at hi
    exact List.mem_of_getElem? hi
  have := List.all_eq_true.1 h o hm
  rw [hd] at this
  cases this
theorem grown_drew {A B : World} {r : Option Nat} (h : A.drew.grownBy B r) : A.grownBy B r := ⟨h.os, h.tape, h.output, h.size, h.block⟩
theorem infoContV : (Tryz.prog.info? 56).map (fun i => (i.zero, i.size, i.bytes)) = some (some (.agg #[.string ByteArray.empty, .int .i64 0, .int .i64 0, .int .i64 0, .int .i64 0, .slice none 0 0]), 6, 72) := by kernel_rfl
theorem infoGivenV : (Tryz.prog.info? 64).map (fun i => (i.zero, i.size, i.bytes)) = some (some (.agg #[.int .u64 0, .slice none 0 0]), 2, 32) := by kernel_rfl
theorem new_cont (w : World) (c : Ct) (dv : Value) (t : TypeId) : ∀ j u, (cCells (c, dv))[j]? = some u → (w.alloc (.cells #[.string c.nm, .int .i64 c.am, .int .i64 c.ab, .int .i64 c.cm, .int .i64 c.cb, dv] t)).drew.cell? ((⟨w.heap.size, 0, none⟩ : Addr).add j) = some u := by
  intro j u hu
  rw [Addr.add_lit, Nat.zero_add]
  match j, hu with
  | 0, hu => simp [cCells, contCells] at hu; subst hu; simp
  | 1, hu => simp [cCells, contCells] at hu; subst hu; simp
  | 2, hu => simp [cCells, contCells] at hu; subst hu; simp
  | 3, hu => simp [cCells, contCells] at hu; subst hu; simp
  | 4, hu => simp [cCells, contCells] at hu; subst hu; simp
  | 5, hu => simp [cCells, contCells] at hu; subst hu; simp
  | j + 6, hu => simp [cCells, contCells] at hu
theorem new_given (w : World) (c : Gv) (dv : Value) (t : TypeId) : ∀ j u, (gCells (c, dv))[j]? = some u → (w.alloc (.cells #[.int .u64 c.cp, dv] t)).drew.cell? ((⟨w.heap.size, 0, none⟩ : Addr).add j) = some u := by
  intro j u hu
  rw [Addr.add_lit, Nat.zero_add]
  match j, hu with
  | 0, hu => simp [gCells] at hu; subst hu; simp
  | 1, hu => simp [gCells] at hu; subst hu; simp
  | j + 2, hu => simp [gCells] at hu
theorem cCells_one (c : Ct) (a : Option Addr) (n k : Nat) : ∀ u ∈ cCells (c, .slice a n k), u.oneCell' = true := by
  intro u hu
  simp [cCells, contCells] at hu
  rcases hu with rfl | rfl | rfl | rfl | rfl | rfl <;> rfl
theorem gCells_one (c : Gv) (a : Option Addr) (n k : Nat) : ∀ u ∈ gCells (c, .slice a n k), u.oneCell' = true := by
  intro u hu
  simp [gCells] at hu
  rcases hu with rfl | rfl <;> rfl
noncomputable def heldR16 : Code := theRegion 16 ((Tryz.f44.body.map regionsOfR).getD [])
set_option maxRecDepth 100000 in
set_option maxHeartbeats 4000000 in
theorem heldR16_in {c0 c1 c2 c3 c4 c5 c6 c7 c8 c10 c11 c13 c14 c15 c16 c17 c18 c19 c20 c21 c22 c23 c24 c25 c26 c27 c28 c29 c30 c31 c32 c33 c34 c35 c36 c37 c38 c39 c40 c41 c42 c43 c44 c45 c46 c47 c48 c49 c50 c51 c52 c53 c54 c55 c56 c57 c58 c59 c60 c61 c62 c63 c64 c65 c66 c67 c68 c81 c82 c83 c84 c85 c86 c87 c88 c89 c90 c91 d69 d70 d71 d72 d73 d74 d75 d76 d77 d78 d79 d80 : Value} {l n m k bc vn vc nn nc base : Nat} {va na : Option Addr} {c : Ct} {xs : List Value} (W : World) (h0 : W.cell? ⟨m, k + 2, none⟩ = some (Value.slice va vn vc)) (hf : W.frozen? ⟨m, k + 2, none⟩ = false) (e0 : W.cell? ⟨bc, 0, none⟩ = some (.string c.nm)) (e1 : W.cell? ⟨bc, 1, none⟩ = some (.int .i64 c.am)) (e2 : W.cell? ⟨bc, 2, none⟩ = some (.int .i64 c.ab)) (e3 : W.cell? ⟨bc, 3, none⟩ = some (.int .i64 c.cm)) (e4 : W.cell? ⟨bc, 4, none⟩ = some (.int .i64 c.cb)) (e5 : W.cell? ⟨bc, 5, none⟩ = some (.slice na nn nc))
    (hown : W.ownsRow base 56 6 (Value.slice va vn vc) vn xs) (hb : base ≤ W.heap.size) (hvn : vn ≤ 100000) (hm : m < W.heap.size) (hne : (Value.slice va vn vc).ownBlock ≠ some m) :
    heldR16.wpIn (Fence.wide.inRound l) n Tryz.prog (NormalAtW (FrV (fun F => { tmps := List.toArray (c0 :: c1 :: c2 :: c3 :: c4 :: c5 :: c6 :: c7 :: c8 :: .pointer (some ⟨bc, 0, none⟩) :: c10 :: c11 :: .pointer (some ⟨m, k, none⟩) :: c13 :: c14 :: c15 :: c16 :: c17 :: c18 :: c19 :: c20 :: c21 :: c22 :: c23 :: c24 :: c25 :: c26 :: c27 :: c28 :: c29 :: c30 :: c31 :: c32 :: c33 :: c34 :: c35 :: c36 :: c37 :: c38 :: c39 :: c40 :: c41 :: c42 :: c43 :: c44 :: c45 :: c46 :: c47 :: c48 :: c49 :: c50 :: c51 :: c52 :: c53 :: c54 :: c55 :: c56 :: c57 :: c58 :: c59 :: c60 :: c61 :: c62 :: c63 :: c64 :: c65 :: c66 :: c67 :: c68 :: F 69 :: F 70 :: F 71 :: F 72 :: F 73 :: F 74 :: F 75 :: F 76 :: F 77 :: F 78 :: F 79 :: F 80 :: c81 :: c82 :: c83 :: c84 :: c85 :: c86 :: c87 :: c88 :: c89 :: c90 :: c91 :: []), defers := [] }) (fun _ W' => ∃ g cap W2, W' = W2.setCell ⟨m, k + 2, none⟩ (Value.slice (some ⟨g, 0, none⟩) (vn + 1) cap) ∧ W2.ownsRow base 56 6 (Value.slice (some ⟨g, 0, none⟩) (vn + 1) cap) (vn + 1) (xs ++ cCells (c, .slice na nn nc)) ∧ (W.alloc (.cells #[.string c.nm, .int .i64 c.am, .int .i64 c.ab, .int .i64 c.cm, .int .i64 c.cb, .slice na nn nc] 56)).grownBy W2 (Value.slice va vn vc).ownBlock ∧ ((Value.slice va vn vc).ownBlock = some g ∨ g = (W.alloc (.cells #[.string c.nm, .int .i64 c.am, .int .i64 c.ab, .int .i64 c.cm, .int .i64 c.cb, .slice na nn nc] 56)).heap.size))))
      { tmps := List.toArray (c0 :: c1 :: c2 :: c3 :: c4 :: c5 :: c6 :: c7 :: c8 :: .pointer (some ⟨bc, 0, none⟩) :: c10 :: c11 :: .pointer (some ⟨m, k, none⟩) :: c13 :: c14 :: c15 :: c16 :: c17 :: c18 :: c19 :: c20 :: c21 :: c22 :: c23 :: c24 :: c25 :: c26 :: c27 :: c28 :: c29 :: c30 :: c31 :: c32 :: c33 :: c34 :: c35 :: c36 :: c37 :: c38 :: c39 :: c40 :: c41 :: c42 :: c43 :: c44 :: c45 :: c46 :: c47 :: c48 :: c49 :: c50 :: c51 :: c52 :: c53 :: c54 :: c55 :: c56 :: c57 :: c58 :: c59 :: c60 :: c61 :: c62 :: c63 :: c64 :: c65 :: c66 :: c67 :: c68 :: d69 :: d70 :: d71 :: d72 :: d73 :: d74 :: d75 :: d76 :: d77 :: d78 :: d79 :: d80 :: c81 :: c82 :: c83 :: c84 :: c85 :: c86 :: c87 :: c88 :: c89 :: c90 :: c91 :: []), defers := [] } W := by
  obtain ⟨i0, hi, hz0, hz1, hz2⟩ := info_parts infoContV
  have HOWN := hideIt hown
  have HNE := hideIt hne
  have HB := hideIt hb
  have HVN := hideIt hvn
  have HM := hideIt hm
  clear hown hne hb hvn hm
  conv => enter [4]; unfold heldR16; whnf
  refine wpIn_round_held (S := fun _ => True) (by kernel_rfl) (nodefer (by kernel_rfl)) (noneOut _) ?_
  refine wpAnyH_take (i := 0) (oi := { dst := some 69, op := Op.move (Operand.tmp 12), type := 109, pos := "parse.go:67", after := #[], guard := none }) (v := ?v1x0) rfl (by kernel_rfl) (by kernel_rfl) (by kernel_rfl) (fun _ _ _ h => h) (Or.inl ⟨by rfl, ?h1x0⟩) trivial ?r1x0
  case h1x0 =>
    intro w' hSw
    (try dsimp only at hSw)
    go_simp
    first | done | with_reducible rfl | rfl
  (try simp only [Act.put, List.setIfInBounds_toArray, List.set_cons_zero, List.set_cons_succ])
  refine wpAnyH_take (i := 1) (oi := { dst := some 70, op := Op.move (Operand.tmp 12), type := 109, pos := "parse.go:67", after := #[], guard := none }) (v := ?v2x1) rfl (by kernel_rfl) (by kernel_rfl) (by kernel_rfl) (fun _ _ _ h => h) (Or.inl ⟨by rfl, ?h2x1⟩) trivial ?r2x1
  case h2x1 =>
    intro w' hSw
    (try dsimp only at hSw)
    go_simp
    first | done | with_reducible rfl | rfl
  (try simp only [Act.put, List.setIfInBounds_toArray, List.set_cons_zero, List.set_cons_succ])
  refine wpAnyH_take (i := 2) (oi := { dst := some 71, op := Op.nilCheck (Operand.tmp 70), type := 0, pos := "parse.go:67", after := #[{ on := 1, ground := Ground.data }], guard := none }) (v := ?v3x2) rfl (by kernel_rfl) (by kernel_rfl) (by kernel_rfl) (fun _ _ _ h => h) (Or.inl ⟨by rfl, ?h3x2⟩) trivial ?r3x2
  case h3x2 =>
    intro w' hSw
    (try dsimp only at hSw)
    go_simp
    first | done | with_reducible rfl | rfl
  (try simp only [Act.put, List.setIfInBounds_toArray, List.set_cons_zero, List.set_cons_succ])
  refine wpAnyH_take (i := 3) (oi := { dst := some 72, op := Op.fieldAddr 67 (Operand.tmp 71) 0, type := 0, pos := "parse.go:67", after := #[{ on := 2, ground := Ground.data }], guard := none }) (v := ?v4x3) rfl (by kernel_rfl) (by kernel_rfl) (by kernel_rfl) (fun _ _ _ h => h) (Or.inl ⟨by rfl, ?h4x3⟩) trivial ?r4x3
  case h4x3 =>
    intro w' hSw
    (try dsimp only at hSw)
    go_simp
    first | done | with_reducible rfl | rfl
  (try simp only [Act.put, List.setIfInBounds_toArray, List.set_cons_zero, List.set_cons_succ])
  refine wpAnyH_take (i := 4) (oi := { dst := some 73, op := Op.fieldAddr 59 (Operand.tmp 72) 2, type := 0, pos := "parse.go:67", after := #[{ on := 3, ground := Ground.data }], guard := none }) (v := ?v5x4) rfl (by kernel_rfl) (by kernel_rfl) (by kernel_rfl) (fun _ _ _ h => h) (Or.inl ⟨by rfl, ?h5x4⟩) trivial ?r5x4
  case h5x4 =>
    intro w' hSw
    (try dsimp only at hSw)
    go_simp
    first | done | with_reducible rfl | rfl
  (try simp only [Act.put, List.setIfInBounds_toArray, List.set_cons_zero, List.set_cons_succ])
  refine wpAnyH_ready (rs := [5, 6]) (by kernel_rfl) (by simp) (AllReadyH.cons rfl (fun K hK => ?w1) (AllReadyH.cons rfl (fun K hK => ?w2) AllReadyH.nil))
  case w1 =>
    go_simp
    go_wp2_with fail
    refine hK.out _ _ trivial (fun hHeld => ?_)
    clear hK K hHeld
    refine wpAnyH_ready (rs := [6]) (by kernel_rfl) (by simp) (AllReadyH.cons rfl (fun K hK => ?_) AllReadyH.nil)
    go_simp
    go_wp2_with fail
    refine hK.out _ _ trivial (fun hHeld => ?_)
    clear hK K hHeld
    refine wpAnyH_ready (rs := [7]) (by kernel_rfl) (by simp) (AllReadyH.cons rfl (fun K hK => ?_) AllReadyH.nil)
    go_simp
    go_wp2_with fail
    refine hK.out _ _ trivial (fun hHeld => ?_)
    clear hK K hHeld
    refine wpAnyH_ready (rs := [8]) (by kernel_rfl) (by simp) (AllReadyH.cons rfl (fun K hK => ?_) AllReadyH.nil)
    rw [if_pos (by rfl)]
    refine wp_append_lies _ _ _ 57 rfl base 56 i0 _ 6 72 Tryz.underlying57 hi hz0 hz1 hz2 rfl (by decide) (Value.slice va vn vc) vn xs rfl (HOWN.out.alloc (.cells #[.string c.nm, .int .i64 c.am, .int .i64 c.ab, .int .i64 c.cm, .int .i64 c.cb, .slice na nn nc] 56)).drew ⟨W.heap.size, 0, none⟩ 1 1 (cCells (c, .slice na nn nc)) rfl rfl (new_cont W c _ _) (cCells_one c na nn nc) (by decide) (by have := HVN.out; unfold maxLen; omega) (by have := HVN.out; omega) (by have := HB.out; simp; omega) (W.alloc (.cells #[.string c.nm, .int .i64 c.am, .int .i64 c.ab, .int .i64 c.cm, .int .i64 c.cb, .slice na nn nc] 56)).heap.size rfl ?_
    intro g cap W2 hrow hgr hat hlt
    have hgr := grown_drew hgr
    have hblk : W2.heap[m]? = W.heap[m]? := (hgr.block m (Nat.lt_of_lt_of_le HM.out (by simp)) (fun e => HNE.out e.symm)).trans (Below.heap_alloc _ _ _ HM.out)
    have y0 : W2.cell? ⟨m, k + 2, none⟩ = some (Value.slice va vn vc) := (World.cell?_of_block (a := ⟨m, k + 2, none⟩) hblk).trans h0
    have y1 : W2.frozen? ⟨m, k + 2, none⟩ = false := (World.frozen?_of_block (a := ⟨m, k + 2, none⟩) hblk).trans hf
    have HROW := hideIt hrow
    have HGR := hideIt hgr
    have HAT := hideIt hat
    clear hrow hgr hat hblk hlt
    refine hK.out _ _ trivial (fun hHeld => ?_)
    clear hK K hHeld
    refine wpAnyH_take (i := 9) (oi := { dst := some 78, op := Op.nilCheck (Operand.tmp 69), type := 0, pos := "parse.go:67", after := #[{ on := 0, ground := Ground.data }, { on := 0, ground := Ground.phase }, { on := 1, ground := Ground.phase }, { on := 2, ground := Ground.phase }, { on := 3, ground := Ground.phase }, { on := 4, ground := Ground.phase }, { on := 5, ground := Ground.phase }, { on := 6, ground := Ground.phase }, { on := 7, ground := Ground.phase }, { on := 8, ground := Ground.phase }], guard := none }) (v := ?v6x9) rfl (by kernel_rfl) (by kernel_rfl) (by kernel_rfl) (fun _ _ _ h => h) (Or.inl ⟨by rfl, ?h6x9⟩) trivial ?r6x9
    case h6x9 =>
      intro w' hSw
      (try dsimp only at hSw)
      go_simp
      first | done | with_reducible rfl | rfl
    refine wpAnyH_take (i := 10) (oi := { dst := some 79, op := Op.fieldAddr 67 (Operand.tmp 78) 0, type := 0, pos := "parse.go:67", after := #[{ on := 9, ground := Ground.data }, { on := 0, ground := Ground.phase }, { on := 1, ground := Ground.phase }, { on := 2, ground := Ground.phase }, { on := 3, ground := Ground.phase }, { on := 4, ground := Ground.phase }, { on := 5, ground := Ground.phase }, { on := 6, ground := Ground.phase }, { on := 7, ground := Ground.phase }, { on := 8, ground := Ground.phase }], guard := none }) (v := ?v7x10) rfl (by kernel_rfl) (by kernel_rfl) (by kernel_rfl) (fun _ _ _ h => h) (Or.inl ⟨by rfl, ?h7x10⟩) trivial ?r7x10
    case h7x10 =>
      intro w' hSw
      (try dsimp only at hSw)
      go_simp
      first | done | with_reducible rfl | rfl
    refine wpAnyH_take (i := 11) (oi := { dst := some 80, op := Op.fieldAddr 59 (Operand.tmp 79) 2, type := 0, pos := "parse.go:67", after := #[{ on := 10, ground := Ground.data }, { on := 0, ground := Ground.phase }, { on := 1, ground := Ground.phase }, { on := 2, ground := Ground.phase }, { on := 3, ground := Ground.phase }, { on := 4, ground := Ground.phase }, { on := 5, ground := Ground.phase }, { on := 6, ground := Ground.phase }, { on := 7, ground := Ground.phase }, { on := 8, ground := Ground.phase }], guard := none }) (v := ?v8x11) rfl (by kernel_rfl) (by kernel_rfl) (by kernel_rfl) (fun _ _ _ h => h) (Or.inl ⟨by rfl, ?h8x11⟩) trivial ?r8x11
    case h8x11 =>
      intro w' hSw
      (try dsimp only at hSw)
      go_simp
      first | done | with_reducible rfl | rfl
    refine wpAnyH_ready (rs := [12]) (by kernel_rfl) (by simp) (AllReadyH.cons rfl (fun K hK => ?_) AllReadyH.nil)
    go_simp
    go_wp2_with fail
    refine hK.out _ _ trivial (fun hHeld => ?_)
    clear hK K hHeld
    refine wpAnyH_done (by kernel_rfl) ?_ _
    refine NormalAtW.mk (FrV.mk (by kernel_rfl) ?_)
    exact ⟨g, cap, W2, rfl, HROW.out, HGR.out, HAT.out⟩
  case w2 =>
    go_simp
    go_wp2_with fail
    refine hK.out _ _ trivial (fun hHeld => ?_)
    clear hK K hHeld
    refine wpAnyH_ready (rs := [5, 7]) (by kernel_rfl) (by simp) (AllReadyH.cons rfl (fun K hK => ?w7) (AllReadyH.cons rfl (fun K hK => ?w8) AllReadyH.nil))
    case w7 =>
      go_simp
      go_wp2_with fail
      refine hK.out _ _ trivial (fun hHeld => ?_)
      clear hK K hHeld
      refine wpAnyH_ready (rs := [7]) (by kernel_rfl) (by simp) (AllReadyH.cons rfl (fun K hK => ?_) AllReadyH.nil)
      go_simp
      go_wp2_with fail
      refine hK.out _ _ trivial (fun hHeld => ?_)
      clear hK K hHeld
      refine wpAnyH_ready (rs := [8]) (by kernel_rfl) (by simp) (AllReadyH.cons rfl (fun K hK => ?_) AllReadyH.nil)
      rw [if_pos (by rfl)]
      refine wp_append_lies _ _ _ 57 rfl base 56 i0 _ 6 72 Tryz.underlying57 hi hz0 hz1 hz2 rfl (by decide) (Value.slice va vn vc) vn xs rfl (HOWN.out.alloc (.cells #[.string c.nm, .int .i64 c.am, .int .i64 c.ab, .int .i64 c.cm, .int .i64 c.cb, .slice na nn nc] 56)).drew ⟨W.heap.size, 0, none⟩ 1 1 (cCells (c, .slice na nn nc)) rfl rfl (new_cont W c _ _) (cCells_one c na nn nc) (by decide) (by have := HVN.out; unfold maxLen; omega) (by have := HVN.out; omega) (by have := HB.out; simp; omega) (W.alloc (.cells #[.string c.nm, .int .i64 c.am, .int .i64 c.ab, .int .i64 c.cm, .int .i64 c.cb, .slice na nn nc] 56)).heap.size rfl ?_
      intro g cap W2 hrow hgr hat hlt
      have hgr := grown_drew hgr
      have hblk : W2.heap[m]? = W.heap[m]? := (hgr.block m (Nat.lt_of_lt_of_le HM.out (by simp)) (fun e => HNE.out e.symm)).trans (Below.heap_alloc _ _ _ HM.out)
      have y0 : W2.cell? ⟨m, k + 2, none⟩ = some (Value.slice va vn vc) := (World.cell?_of_block (a := ⟨m, k + 2, none⟩) hblk).trans h0
      have y1 : W2.frozen? ⟨m, k + 2, none⟩ = false := (World.frozen?_of_block (a := ⟨m, k + 2, none⟩) hblk).trans hf
      have HROW := hideIt hrow
      have HGR := hideIt hgr
      have HAT := hideIt hat
      clear hrow hgr hat hblk hlt
      refine hK.out _ _ trivial (fun hHeld => ?_)
      clear hK K hHeld
      refine wpAnyH_take (i := 9) (oi := { dst := some 78, op := Op.nilCheck (Operand.tmp 69), type := 0, pos := "parse.go:67", after := #[{ on := 0, ground := Ground.data }, { on := 0, ground := Ground.phase }, { on := 1, ground := Ground.phase }, { on := 2, ground := Ground.phase }, { on := 3, ground := Ground.phase }, { on := 4, ground := Ground.phase }, { on := 5, ground := Ground.phase }, { on := 6, ground := Ground.phase }, { on := 7, ground := Ground.phase }, { on := 8, ground := Ground.phase }], guard := none }) (v := ?v9x9) rfl (by kernel_rfl) (by kernel_rfl) (by kernel_rfl) (fun _ _ _ h => h) (Or.inl ⟨by rfl, ?h9x9⟩) trivial ?r9x9
      case h9x9 =>
        intro w' hSw
        (try dsimp only at hSw)
        go_simp
        first | done | with_reducible rfl | rfl
      refine wpAnyH_take (i := 10) (oi := { dst := some 79, op := Op.fieldAddr 67 (Operand.tmp 78) 0, type := 0, pos := "parse.go:67", after := #[{ on := 9, ground := Ground.data }, { on := 0, ground := Ground.phase }, { on := 1, ground := Ground.phase }, { on := 2, ground := Ground.phase }, { on := 3, ground := Ground.phase }, { on := 4, ground := Ground.phase }, { on := 5, ground := Ground.phase }, { on := 6, ground := Ground.phase }, { on := 7, ground := Ground.phase }, { on := 8, ground := Ground.phase }], guard := none }) (v := ?v10x10) rfl (by kernel_rfl) (by kernel_rfl) (by kernel_rfl) (fun _ _ _ h => h) (Or.inl ⟨by rfl, ?h10x10⟩) trivial ?r10x10
      case h10x10 =>
        intro w' hSw
        (try dsimp only at hSw)
        go_simp
        first | done | with_reducible rfl | rfl
      refine wpAnyH_take (i := 11) (oi := { dst := some 80, op := Op.fieldAddr 59 (Operand.tmp 79) 2, type := 0, pos := "parse.go:67", after := #[{ on := 10, ground := Ground.data }, { on := 0, ground := Ground.phase }, { on := 1, ground := Ground.phase }, { on := 2, ground := Ground.phase }, { on := 3, ground := Ground.phase }, { on := 4, ground := Ground.phase }, { on := 5, ground := Ground.phase }, { on := 6, ground := Ground.phase }, { on := 7, ground := Ground.phase }, { on := 8, ground := Ground.phase }], guard := none }) (v := ?v11x11) rfl (by kernel_rfl) (by kernel_rfl) (by kernel_rfl) (fun _ _ _ h => h) (Or.inl ⟨by rfl, ?h11x11⟩) trivial ?r11x11
      case h11x11 =>
        intro w' hSw
        (try dsimp only at hSw)
        go_simp
        first | done | with_reducible rfl | rfl
      refine wpAnyH_ready (rs := [12]) (by kernel_rfl) (by simp) (AllReadyH.cons rfl (fun K hK => ?_) AllReadyH.nil)
      go_simp
      go_wp2_with fail
      refine hK.out _ _ trivial (fun hHeld => ?_)
      clear hK K hHeld
      refine wpAnyH_done (by kernel_rfl) ?_ _
      refine NormalAtW.mk (FrV.mk (by kernel_rfl) ?_)
      exact ⟨g, cap, W2, rfl, HROW.out, HGR.out, HAT.out⟩
    case w8 =>
      go_simp
      go_wp2_with fail
      refine hK.out _ _ trivial (fun hHeld => ?_)
      clear hK K hHeld
      have h0' := cell_allocV h0 (.cells #[.string c.nm, .int .i64 c.am, .int .i64 c.ab, .int .i64 c.cm, .int .i64 c.cb, .slice na nn nc] 56)
      refine wpAnyH_ready (rs := [5]) (by kernel_rfl) (by simp) (AllReadyH.cons rfl (fun K hK => ?_) AllReadyH.nil)
      go_simp
      go_wp2_with fail
      refine hK.out _ _ trivial (fun hHeld => ?_)
      clear hK K hHeld
      refine wpAnyH_ready (rs := [8]) (by kernel_rfl) (by simp) (AllReadyH.cons rfl (fun K hK => ?_) AllReadyH.nil)
      rw [if_pos (by rfl)]
      refine wp_append_lies _ _ _ 57 rfl base 56 i0 _ 6 72 Tryz.underlying57 hi hz0 hz1 hz2 rfl (by decide) (Value.slice va vn vc) vn xs rfl (HOWN.out.alloc (.cells #[.string c.nm, .int .i64 c.am, .int .i64 c.ab, .int .i64 c.cm, .int .i64 c.cb, .slice na nn nc] 56)).drew ⟨W.heap.size, 0, none⟩ 1 1 (cCells (c, .slice na nn nc)) rfl rfl (new_cont W c _ _) (cCells_one c na nn nc) (by decide) (by have := HVN.out; unfold maxLen; omega) (by have := HVN.out; omega) (by have := HB.out; simp; omega) (W.alloc (.cells #[.string c.nm, .int .i64 c.am, .int .i64 c.ab, .int .i64 c.cm, .int .i64 c.cb, .slice na nn nc] 56)).heap.size rfl ?_
      intro g cap W2 hrow hgr hat hlt
      have hgr := grown_drew hgr
      have hblk : W2.heap[m]? = W.heap[m]? := (hgr.block m (Nat.lt_of_lt_of_le HM.out (by simp)) (fun e => HNE.out e.symm)).trans (Below.heap_alloc _ _ _ HM.out)
      have y0 : W2.cell? ⟨m, k + 2, none⟩ = some (Value.slice va vn vc) := (World.cell?_of_block (a := ⟨m, k + 2, none⟩) hblk).trans h0
      have y1 : W2.frozen? ⟨m, k + 2, none⟩ = false := (World.frozen?_of_block (a := ⟨m, k + 2, none⟩) hblk).trans hf
      have HROW := hideIt hrow
      have HGR := hideIt hgr
      have HAT := hideIt hat
      clear hrow hgr hat hblk hlt
      refine hK.out _ _ trivial (fun hHeld => ?_)
      clear hK K hHeld
      refine wpAnyH_take (i := 9) (oi := { dst := some 78, op := Op.nilCheck (Operand.tmp 69), type := 0, pos := "parse.go:67", after := #[{ on := 0, ground := Ground.data }, { on := 0, ground := Ground.phase }, { on := 1, ground := Ground.phase }, { on := 2, ground := Ground.phase }, { on := 3, ground := Ground.phase }, { on := 4, ground := Ground.phase }, { on := 5, ground := Ground.phase }, { on := 6, ground := Ground.phase }, { on := 7, ground := Ground.phase }, { on := 8, ground := Ground.phase }], guard := none }) (v := ?v12x9) rfl (by kernel_rfl) (by kernel_rfl) (by kernel_rfl) (fun _ _ _ h => h) (Or.inl ⟨by rfl, ?h12x9⟩) trivial ?r12x9
      case h12x9 =>
        intro w' hSw
        (try dsimp only at hSw)
        go_simp
        first | done | with_reducible rfl | rfl
      refine wpAnyH_take (i := 10) (oi := { dst := some 79, op := Op.fieldAddr 67 (Operand.tmp 78) 0, type := 0, pos := "parse.go:67", after := #[{ on := 9, ground := Ground.data }, { on := 0, ground := Ground.phase }, { on := 1, ground := Ground.phase }, { on := 2, ground := Ground.phase }, { on := 3, ground := Ground.phase }, { on := 4, ground := Ground.phase }, { on := 5, ground := Ground.phase }, { on := 6, ground := Ground.phase }, { on := 7, ground := Ground.phase }, { on := 8, ground := Ground.phase }], guard := none }) (v := ?v13x10) rfl (by kernel_rfl) (by kernel_rfl) (by kernel_rfl) (fun _ _ _ h => h) (Or.inl ⟨by rfl, ?h13x10⟩) trivial ?r13x10
      case h13x10 =>
        intro w' hSw
        (try dsimp only at hSw)
        go_simp
        first | done | with_reducible rfl | rfl
      refine wpAnyH_take (i := 11) (oi := { dst := some 80, op := Op.fieldAddr 59 (Operand.tmp 79) 2, type := 0, pos := "parse.go:67", after := #[{ on := 10, ground := Ground.data }, { on := 0, ground := Ground.phase }, { on := 1, ground := Ground.phase }, { on := 2, ground := Ground.phase }, { on := 3, ground := Ground.phase }, { on := 4, ground := Ground.phase }, { on := 5, ground := Ground.phase }, { on := 6, ground := Ground.phase }, { on := 7, ground := Ground.phase }, { on := 8, ground := Ground.phase }], guard := none }) (v := ?v14x11) rfl (by kernel_rfl) (by kernel_rfl) (by kernel_rfl) (fun _ _ _ h => h) (Or.inl ⟨by rfl, ?h14x11⟩) trivial ?r14x11
      case h14x11 =>
        intro w' hSw
        (try dsimp only at hSw)
        go_simp
        first | done | with_reducible rfl | rfl
      refine wpAnyH_ready (rs := [12]) (by kernel_rfl) (by simp) (AllReadyH.cons rfl (fun K hK => ?_) AllReadyH.nil)
      go_simp
      go_wp2_with fail
      refine hK.out _ _ trivial (fun hHeld => ?_)
      clear hK K hHeld
      refine wpAnyH_done (by kernel_rfl) ?_ _
      refine NormalAtW.mk (FrV.mk (by kernel_rfl) ?_)
      exact ⟨g, cap, W2, rfl, HROW.out, HGR.out, HAT.out⟩
noncomputable def heldR17 : Code := theRegion 17 ((Tryz.f44.body.map regionsOfR).getD [])
set_option maxRecDepth 100000 in
set_option maxHeartbeats 4000000 in
theorem heldR17_in {c0 c1 c2 c3 c4 c5 c6 c7 c8 c9 c11 c13 c14 c15 c16 c17 c18 c19 c20 c21 c22 c23 c24 c25 c26 c27 c28 c29 c30 c31 c32 c33 c34 c35 c36 c37 c38 c39 c40 c41 c42 c43 c44 c45 c46 c47 c48 c49 c50 c51 c52 c53 c54 c55 c56 c57 c58 c59 c60 c61 c62 c63 c64 c65 c66 c67 c68 c69 c70 c71 c72 c73 c74 c75 c76 c77 c78 c79 c80 c91 d81 d82 d83 d84 d85 d86 d87 d88 d89 d90 : Value} {l n m k bc vn vc nn nc base : Nat} {va na : Option Addr} {c : Gv} {xs : List Value} (W : World) (h0 : W.cell? ⟨m, k + 3, none⟩ = some (Value.slice va vn vc)) (hf : W.frozen? ⟨m, k + 3, none⟩ = false) (e0 : W.cell? ⟨bc, 0, none⟩ = some (.int .u64 c.cp)) (e1 : W.cell? ⟨bc, 1, none⟩ = some (.slice na nn nc))
    (hown : W.ownsRow base 64 2 (Value.slice va vn vc) vn xs) (hb : base ≤ W.heap.size) (hvn : vn ≤ 100000) (hm : m < W.heap.size) (hne : (Value.slice va vn vc).ownBlock ≠ some m) :
    heldR17.wpIn (Fence.wide.inRound l) n Tryz.prog (NormalAtW (FrV (fun F => { tmps := List.toArray (c0 :: c1 :: c2 :: c3 :: c4 :: c5 :: c6 :: c7 :: c8 :: c9 :: .pointer (some ⟨bc, 0, none⟩) :: c11 :: .pointer (some ⟨m, k, none⟩) :: c13 :: c14 :: c15 :: c16 :: c17 :: c18 :: c19 :: c20 :: c21 :: c22 :: c23 :: c24 :: c25 :: c26 :: c27 :: c28 :: c29 :: c30 :: c31 :: c32 :: c33 :: c34 :: c35 :: c36 :: c37 :: c38 :: c39 :: c40 :: c41 :: c42 :: c43 :: c44 :: c45 :: c46 :: c47 :: c48 :: c49 :: c50 :: c51 :: c52 :: c53 :: c54 :: c55 :: c56 :: c57 :: c58 :: c59 :: c60 :: c61 :: c62 :: c63 :: c64 :: c65 :: c66 :: c67 :: c68 :: c69 :: c70 :: c71 :: c72 :: c73 :: c74 :: c75 :: c76 :: c77 :: c78 :: c79 :: c80 :: F 81 :: F 82 :: F 83 :: F 84 :: F 85 :: F 86 :: F 87 :: F 88 :: F 89 :: F 90 :: c91 :: []), defers := [] }) (fun _ W' => ∃ g cap W2, W' = W2.setCell ⟨m, k + 3, none⟩ (Value.slice (some ⟨g, 0, none⟩) (vn + 1) cap) ∧ W2.ownsRow base 64 2 (Value.slice (some ⟨g, 0, none⟩) (vn + 1) cap) (vn + 1) (xs ++ gCells (c, .slice na nn nc)) ∧ (W.alloc (.cells #[.int .u64 c.cp, .slice na nn nc] 64)).grownBy W2 (Value.slice va vn vc).ownBlock ∧ ((Value.slice va vn vc).ownBlock = some g ∨ g = (W.alloc (.cells #[.int .u64 c.cp, .slice na nn nc] 64)).heap.size))))
      { tmps := List.toArray (c0 :: c1 :: c2 :: c3 :: c4 :: c5 :: c6 :: c7 :: c8 :: c9 :: .pointer (some ⟨bc, 0, none⟩) :: c11 :: .pointer (some ⟨m, k, none⟩) :: c13 :: c14 :: c15 :: c16 :: c17 :: c18 :: c19 :: c20 :: c21 :: c22 :: c23 :: c24 :: c25 :: c26 :: c27 :: c28 :: c29 :: c30 :: c31 :: c32 :: c33 :: c34 :: c35 :: c36 :: c37 :: c38 :: c39 :: c40 :: c41 :: c42 :: c43 :: c44 :: c45 :: c46 :: c47 :: c48 :: c49 :: c50 :: c51 :: c52 :: c53 :: c54 :: c55 :: c56 :: c57 :: c58 :: c59 :: c60 :: c61 :: c62 :: c63 :: c64 :: c65 :: c66 :: c67 :: c68 :: c69 :: c70 :: c71 :: c72 :: c73 :: c74 :: c75 :: c76 :: c77 :: c78 :: c79 :: c80 :: d81 :: d82 :: d83 :: d84 :: d85 :: d86 :: d87 :: d88 :: d89 :: d90 :: c91 :: []), defers := [] } W := by
  obtain ⟨i0, hi, hz0, hz1, hz2⟩ := info_parts infoGivenV
  have HOWN := hideIt hown
  have HNE := hideIt hne
  have HB := hideIt hb
  have HVN := hideIt hvn
  have HM := hideIt hm
  clear hown hne hb hvn hm
  conv => enter [4]; unfold heldR17; whnf
  refine wpIn_round_held (S := fun _ => True) (by kernel_rfl) (nodefer (by kernel_rfl)) (noneOut _) ?_
  refine wpAnyH_take (i := 0) (oi := { dst := some 81, op := Op.move (Operand.tmp 12), type := 109, pos := "parse.go:68", after := #[], guard := none }) (v := ?v15x0) rfl (by kernel_rfl) (by kernel_rfl) (by kernel_rfl) (fun _ _ _ h => h) (Or.inl ⟨by rfl, ?h15x0⟩) trivial ?r15x0
  case h15x0 =>
    intro w' hSw
    (try dsimp only at hSw)
    go_simp
    first | done | with_reducible rfl | rfl
  (try simp only [Act.put, List.setIfInBounds_toArray, List.set_cons_zero, List.set_cons_succ])
  refine wpAnyH_take (i := 1) (oi := { dst := some 82, op := Op.move (Operand.tmp 12), type := 109, pos := "parse.go:68", after := #[], guard := none }) (v := ?v16x1) rfl (by kernel_rfl) (by kernel_rfl) (by kernel_rfl) (fun _ _ _ h => h) (Or.inl ⟨by rfl, ?h16x1⟩) trivial ?r16x1
  case h16x1 =>
    intro w' hSw
    (try dsimp only at hSw)
    go_simp
    first | done | with_reducible rfl | rfl
  (try simp only [Act.put, List.setIfInBounds_toArray, List.set_cons_zero, List.set_cons_succ])
  refine wpAnyH_take (i := 2) (oi := { dst := some 83, op := Op.nilCheck (Operand.tmp 82), type := 0, pos := "parse.go:68", after := #[{ on := 1, ground := Ground.data }], guard := none }) (v := ?v17x2) rfl (by kernel_rfl) (by kernel_rfl) (by kernel_rfl) (fun _ _ _ h => h) (Or.inl ⟨by rfl, ?h17x2⟩) trivial ?r17x2
  case h17x2 =>
    intro w' hSw
    (try dsimp only at hSw)
    go_simp
    first | done | with_reducible rfl | rfl
  (try simp only [Act.put, List.setIfInBounds_toArray, List.set_cons_zero, List.set_cons_succ])
  refine wpAnyH_take (i := 3) (oi := { dst := some 84, op := Op.fieldAddr 67 (Operand.tmp 83) 1, type := 0, pos := "parse.go:68", after := #[{ on := 2, ground := Ground.data }], guard := none }) (v := ?v18x3) rfl (by kernel_rfl) (by kernel_rfl) (by kernel_rfl) (fun _ _ _ h => h) (Or.inl ⟨by rfl, ?h18x3⟩) trivial ?r18x3
  case h18x3 =>
    intro w' hSw
    (try dsimp only at hSw)
    go_simp
    first | done | with_reducible rfl | rfl
  (try simp only [Act.put, List.setIfInBounds_toArray, List.set_cons_zero, List.set_cons_succ])
  refine wpAnyH_ready (rs := [4, 5]) (by kernel_rfl) (by simp) (AllReadyH.cons rfl (fun K hK => ?w1) (AllReadyH.cons rfl (fun K hK => ?w2) AllReadyH.nil))
  case w1 =>
    go_simp
    go_wp2_with fail
    refine hK.out _ _ trivial (fun hHeld => ?_)
    clear hK K hHeld
    refine wpAnyH_ready (rs := [5]) (by kernel_rfl) (by simp) (AllReadyH.cons rfl (fun K hK => ?_) AllReadyH.nil)
    go_simp
    go_wp2_with fail
    refine hK.out _ _ trivial (fun hHeld => ?_)
    clear hK K hHeld
    refine wpAnyH_ready (rs := [6]) (by kernel_rfl) (by simp) (AllReadyH.cons rfl (fun K hK => ?_) AllReadyH.nil)
    go_simp
    go_wp2_with fail
    refine hK.out _ _ trivial (fun hHeld => ?_)
    clear hK K hHeld
    refine wpAnyH_ready (rs := [7]) (by kernel_rfl) (by simp) (AllReadyH.cons rfl (fun K hK => ?_) AllReadyH.nil)
    rw [if_pos (by rfl)]
    refine wp_append_lies _ _ _ 65 rfl base 64 i0 _ 2 32 Tryz.underlying65 hi hz0 hz1 hz2 rfl (by decide) (Value.slice va vn vc) vn xs rfl (HOWN.out.alloc (.cells #[.int .u64 c.cp, .slice na nn nc] 64)).drew ⟨W.heap.size, 0, none⟩ 1 1 (gCells (c, .slice na nn nc)) rfl rfl (new_given W c _ _) (gCells_one c na nn nc) (by decide) (by have := HVN.out; unfold maxLen; omega) (by have := HVN.out; omega) (by have := HB.out; simp; omega) (W.alloc (.cells #[.int .u64 c.cp, .slice na nn nc] 64)).heap.size rfl ?_
    intro g cap W2 hrow hgr hat hlt
    have hgr := grown_drew hgr
    have hblk : W2.heap[m]? = W.heap[m]? := (hgr.block m (Nat.lt_of_lt_of_le HM.out (by simp)) (fun e => HNE.out e.symm)).trans (Below.heap_alloc _ _ _ HM.out)
    have y0 : W2.cell? ⟨m, k + 3, none⟩ = some (Value.slice va vn vc) := (World.cell?_of_block (a := ⟨m, k + 3, none⟩) hblk).trans h0
    have y1 : W2.frozen? ⟨m, k + 3, none⟩ = false := (World.frozen?_of_block (a := ⟨m, k + 3, none⟩) hblk).trans hf
    have HROW := hideIt hrow
    have HGR := hideIt hgr
    have HAT := hideIt hat
    clear hrow hgr hat hblk hlt
    refine hK.out _ _ trivial (fun hHeld => ?_)
    clear hK K hHeld
    refine wpAnyH_take (i := 8) (oi := { dst := some 89, op := Op.nilCheck (Operand.tmp 81), type := 0, pos := "parse.go:68", after := #[{ on := 0, ground := Ground.data }, { on := 0, ground := Ground.phase }, { on := 1, ground := Ground.phase }, { on := 2, ground := Ground.phase }, { on := 3, ground := Ground.phase }, { on := 4, ground := Ground.phase }, { on := 5, ground := Ground.phase }, { on := 6, ground := Ground.phase }, { on := 7, ground := Ground.phase }], guard := none }) (v := ?v19x8) rfl (by kernel_rfl) (by kernel_rfl) (by kernel_rfl) (fun _ _ _ h => h) (Or.inl ⟨by rfl, ?h19x8⟩) trivial ?r19x8
    case h19x8 =>
      intro w' hSw
      (try dsimp only at hSw)
      go_simp
      first | done | with_reducible rfl | rfl
    refine wpAnyH_take (i := 9) (oi := { dst := some 90, op := Op.fieldAddr 67 (Operand.tmp 89) 1, type := 0, pos := "parse.go:68", after := #[{ on := 8, ground := Ground.data }, { on := 0, ground := Ground.phase }, { on := 1, ground := Ground.phase }, { on := 2, ground := Ground.phase }, { on := 3, ground := Ground.phase }, { on := 4, ground := Ground.phase }, { on := 5, ground := Ground.phase }, { on := 6, ground := Ground.phase }, { on := 7, ground := Ground.phase }], guard := none }) (v := ?v20x9) rfl (by kernel_rfl) (by kernel_rfl) (by kernel_rfl) (fun _ _ _ h => h) (Or.inl ⟨by rfl, ?h20x9⟩) trivial ?r20x9
    case h20x9 =>
      intro w' hSw
      (try dsimp only at hSw)
      go_simp
      first | done | with_reducible rfl | rfl
    refine wpAnyH_ready (rs := [10]) (by kernel_rfl) (by simp) (AllReadyH.cons rfl (fun K hK => ?_) AllReadyH.nil)
    go_simp
    go_wp2_with fail
    refine hK.out _ _ trivial (fun hHeld => ?_)
    clear hK K hHeld
    refine wpAnyH_done (by kernel_rfl) ?_ _
    refine NormalAtW.mk (FrV.mk (by kernel_rfl) ?_)
    exact ⟨g, cap, W2, rfl, HROW.out, HGR.out, HAT.out⟩
  case w2 =>
    go_simp
    go_wp2_with fail
    refine hK.out _ _ trivial (fun hHeld => ?_)
    clear hK K hHeld
    refine wpAnyH_ready (rs := [4, 6]) (by kernel_rfl) (by simp) (AllReadyH.cons rfl (fun K hK => ?w7) (AllReadyH.cons rfl (fun K hK => ?w8) AllReadyH.nil))
    case w7 =>
      go_simp
      go_wp2_with fail
      refine hK.out _ _ trivial (fun hHeld => ?_)
      clear hK K hHeld
      refine wpAnyH_ready (rs := [6]) (by kernel_rfl) (by simp) (AllReadyH.cons rfl (fun K hK => ?_) AllReadyH.nil)
      go_simp
      go_wp2_with fail
      refine hK.out _ _ trivial (fun hHeld => ?_)
      clear hK K hHeld
      refine wpAnyH_ready (rs := [7]) (by kernel_rfl) (by simp) (AllReadyH.cons rfl (fun K hK => ?_) AllReadyH.nil)
      rw [if_pos (by rfl)]
      refine wp_append_lies _ _ _ 65 rfl base 64 i0 _ 2 32 Tryz.underlying65 hi hz0 hz1 hz2 rfl (by decide) (Value.slice va vn vc) vn xs rfl (HOWN.out.alloc (.cells #[.int .u64 c.cp, .slice na nn nc] 64)).drew ⟨W.heap.size, 0, none⟩ 1 1 (gCells (c, .slice na nn nc)) rfl rfl (new_given W c _ _) (gCells_one c na nn nc) (by decide) (by have := HVN.out; unfold maxLen; omega) (by have := HVN.out; omega) (by have := HB.out; simp; omega) (W.alloc (.cells #[.int .u64 c.cp, .slice na nn nc] 64)).heap.size rfl ?_
      intro g cap W2 hrow hgr hat hlt
      have hgr := grown_drew hgr
      have hblk : W2.heap[m]? = W.heap[m]? := (hgr.block m (Nat.lt_of_lt_of_le HM.out (by simp)) (fun e => HNE.out e.symm)).trans (Below.heap_alloc _ _ _ HM.out)
      have y0 : W2.cell? ⟨m, k + 3, none⟩ = some (Value.slice va vn vc) := (World.cell?_of_block (a := ⟨m, k + 3, none⟩) hblk).trans h0
      have y1 : W2.frozen? ⟨m, k + 3, none⟩ = false := (World.frozen?_of_block (a := ⟨m, k + 3, none⟩) hblk).trans hf
      have HROW := hideIt hrow
      have HGR := hideIt hgr
      have HAT := hideIt hat
      clear hrow hgr hat hblk hlt
      refine hK.out _ _ trivial (fun hHeld => ?_)
      clear hK K hHeld
      refine wpAnyH_take (i := 8) (oi := { dst := some 89, op := Op.nilCheck (Operand.tmp 81), type := 0, pos := "parse.go:68", after := #[{ on := 0, ground := Ground.data }, { on := 0, ground := Ground.phase }, { on := 1, ground := Ground.phase }, { on := 2, ground := Ground.phase }, { on := 3, ground := Ground.phase }, { on := 4, ground := Ground.phase }, { on := 5, ground := Ground.phase }, { on := 6, ground := Ground.phase }, { on := 7, ground := Ground.phase }], guard := none }) (v := ?v21x8) rfl (by kernel_rfl) (by kernel_rfl) (by kernel_rfl) (fun _ _ _ h => h) (Or.inl ⟨by rfl, ?h21x8⟩) trivial ?r21x8
      case h21x8 =>
        intro w' hSw
        (try dsimp only at hSw)
        go_simp
        first | done | with_reducible rfl | rfl
      refine wpAnyH_take (i := 9) (oi := { dst := some 90, op := Op.fieldAddr 67 (Operand.tmp 89) 1, type := 0, pos := "parse.go:68", after := #[{ on := 8, ground := Ground.data }, { on := 0, ground := Ground.phase }, { on := 1, ground := Ground.phase }, { on := 2, ground := Ground.phase }, { on := 3, ground := Ground.phase }, { on := 4, ground := Ground.phase }, { on := 5, ground := Ground.phase }, { on := 6, ground := Ground.phase }, { on := 7, ground := Ground.phase }], guard := none }) (v := ?v22x9) rfl (by kernel_rfl) (by kernel_rfl) (by kernel_rfl) (fun _ _ _ h => h) (Or.inl ⟨by rfl, ?h22x9⟩) trivial ?r22x9
      case h22x9 =>
        intro w' hSw
        (try dsimp only at hSw)
        go_simp
        first | done | with_reducible rfl | rfl
      refine wpAnyH_ready (rs := [10]) (by kernel_rfl) (by simp) (AllReadyH.cons rfl (fun K hK => ?_) AllReadyH.nil)
      go_simp
      go_wp2_with fail
      refine hK.out _ _ trivial (fun hHeld => ?_)
      clear hK K hHeld
      refine wpAnyH_done (by kernel_rfl) ?_ _
      refine NormalAtW.mk (FrV.mk (by kernel_rfl) ?_)
      exact ⟨g, cap, W2, rfl, HROW.out, HGR.out, HAT.out⟩
    case w8 =>
      go_simp
      go_wp2_with fail
      refine hK.out _ _ trivial (fun hHeld => ?_)
      clear hK K hHeld
      have h0' := cell_allocV h0 (.cells #[.int .u64 c.cp, .slice na nn nc] 64)
      refine wpAnyH_ready (rs := [4]) (by kernel_rfl) (by simp) (AllReadyH.cons rfl (fun K hK => ?_) AllReadyH.nil)
      go_simp
      go_wp2_with fail
      refine hK.out _ _ trivial (fun hHeld => ?_)
      clear hK K hHeld
      refine wpAnyH_ready (rs := [7]) (by kernel_rfl) (by simp) (AllReadyH.cons rfl (fun K hK => ?_) AllReadyH.nil)
      rw [if_pos (by rfl)]
      refine wp_append_lies _ _ _ 65 rfl base 64 i0 _ 2 32 Tryz.underlying65 hi hz0 hz1 hz2 rfl (by decide) (Value.slice va vn vc) vn xs rfl (HOWN.out.alloc (.cells #[.int .u64 c.cp, .slice na nn nc] 64)).drew ⟨W.heap.size, 0, none⟩ 1 1 (gCells (c, .slice na nn nc)) rfl rfl (new_given W c _ _) (gCells_one c na nn nc) (by decide) (by have := HVN.out; unfold maxLen; omega) (by have := HVN.out; omega) (by have := HB.out; simp; omega) (W.alloc (.cells #[.int .u64 c.cp, .slice na nn nc] 64)).heap.size rfl ?_
      intro g cap W2 hrow hgr hat hlt
      have hgr := grown_drew hgr
      have hblk : W2.heap[m]? = W.heap[m]? := (hgr.block m (Nat.lt_of_lt_of_le HM.out (by simp)) (fun e => HNE.out e.symm)).trans (Below.heap_alloc _ _ _ HM.out)
      have y0 : W2.cell? ⟨m, k + 3, none⟩ = some (Value.slice va vn vc) := (World.cell?_of_block (a := ⟨m, k + 3, none⟩) hblk).trans h0
      have y1 : W2.frozen? ⟨m, k + 3, none⟩ = false := (World.frozen?_of_block (a := ⟨m, k + 3, none⟩) hblk).trans hf
      have HROW := hideIt hrow
      have HGR := hideIt hgr
      have HAT := hideIt hat
      clear hrow hgr hat hblk hlt
      refine hK.out _ _ trivial (fun hHeld => ?_)
      clear hK K hHeld
      refine wpAnyH_take (i := 8) (oi := { dst := some 89, op := Op.nilCheck (Operand.tmp 81), type := 0, pos := "parse.go:68", after := #[{ on := 0, ground := Ground.data }, { on := 0, ground := Ground.phase }, { on := 1, ground := Ground.phase }, { on := 2, ground := Ground.phase }, { on := 3, ground := Ground.phase }, { on := 4, ground := Ground.phase }, { on := 5, ground := Ground.phase }, { on := 6, ground := Ground.phase }, { on := 7, ground := Ground.phase }], guard := none }) (v := ?v23x8) rfl (by kernel_rfl) (by kernel_rfl) (by kernel_rfl) (fun _ _ _ h => h) (Or.inl ⟨by rfl, ?h23x8⟩) trivial ?r23x8
      case h23x8 =>
        intro w' hSw
        (try dsimp only at hSw)
        go_simp
        first | done | with_reducible rfl | rfl
      refine wpAnyH_take (i := 9) (oi := { dst := some 90, op := Op.fieldAddr 67 (Operand.tmp 89) 1, type := 0, pos := "parse.go:68", after := #[{ on := 8, ground := Ground.data }, { on := 0, ground := Ground.phase }, { on := 1, ground := Ground.phase }, { on := 2, ground := Ground.phase }, { on := 3, ground := Ground.phase }, { on := 4, ground := Ground.phase }, { on := 5, ground := Ground.phase }, { on := 6, ground := Ground.phase }, { on := 7, ground := Ground.phase }], guard := none }) (v := ?v24x9) rfl (by kernel_rfl) (by kernel_rfl) (by kernel_rfl) (fun _ _ _ h => h) (Or.inl ⟨by rfl, ?h24x9⟩) trivial ?r24x9
      case h24x9 =>
        intro w' hSw
        (try dsimp only at hSw)
        go_simp
        first | done | with_reducible rfl | rfl
      refine wpAnyH_ready (rs := [10]) (by kernel_rfl) (by simp) (AllReadyH.cons rfl (fun K hK => ?_) AllReadyH.nil)
      go_simp
      go_wp2_with fail
      refine hK.out _ _ trivial (fun hHeld => ?_)
      clear hK K hHeld
      refine wpAnyH_done (by kernel_rfl) ?_ _
      refine NormalAtW.mk (FrV.mk (by kernel_rfl) ?_)
      exact ⟨g, cap, W2, rfl, HROW.out, HGR.out, HAT.out⟩
end Go.Proofs.YtlljniaobbbjgaaGreatDoor

namespace Go.Proofs.YtlljniaobbbjgaaGreatDoor
open Go.RowKit Go.Shelf
open Ost (splitC)
open Qos (Nd Ct Pd nd ct pd)
open Sv (Gv Hd gv hd wd)
open S1 (Mx)
attribute [local go_sem] Oper.semAt_some
theorem split_dataW (s : ByteArray) : (Lib.splitB ⟨#[32]⟩ 0 (Lib.countB s ⟨#[32]⟩) s).map (·.data.toList) = Ost.splitC 32 s.data.toList := by
  rw [Lib.splitB_data]
  exact S1.Ost.splitK_C 32 _ _ (Nat.le_refl _)
theorem splitB_lenW (s : ByteArray) : ∀ n, s.size ≤ n → (Lib.splitB ⟨#[32]⟩ 0 (Lib.countB s ⟨#[32]⟩) s).length = Lib.countB s ⟨#[32]⟩ + 1 := by
  intro n
  induction n generalizing s with
  | zero =>
    intro h
    rcases Lib.indexB_cases s ⟨#[32]⟩ with h1 | ⟨i, h1, h2⟩
    · rw [Lib.countB_miss s _ h1]; rfl
    · exfalso; have : (ByteArray.mk #[32]).size = 1 := rfl; omega
  | succ n ih =>
    intro h
    rcases Lib.indexB_cases s ⟨#[32]⟩ with h1 | ⟨i, h1, h2⟩
    · rw [Lib.countB_miss s _ h1]; rfl
    · have e1 : (ByteArray.mk #[32]).size = 1 := rfl
      rw [Lib.countB_hit s _ i (by omega) h1, Nat.add_comm 1, Lib.splitB_hit _ 0 _ s i h1, List.length_cons, ih _ (by rw [ByteArray.size_extract]; omega)]
theorem splitW_any (x : List UInt8) (w : World) (hs : x.length ≤ 1000000) (hm : Mx w) :
    Calls Tryz.prog 69 #[.string ⟨x.toArray⟩, .string ⟨#[32]⟩] w fun e w' =>
      e = .returned (.slice (some ⟨w.heap.size, 0, none⟩) (splitC 32 x).length (splitC 32 x).length) ∧ StrsIn w' w.heap.size (splitC 32 x) ∧ Below w.heap.size w w' := by
  obtain ⟨m, hm⟩ := hm
  have hc := Tryz.strings_Split ⟨x.toArray⟩ ⟨#[32]⟩ m w (by show x.length < _; omega) hm (by decide)
  have hl : Lib.countB ⟨x.toArray⟩ ⟨#[32]⟩ + 1 = (splitC 32 x).length := by
    rw [← splitB_lenW _ _ (Nat.le_refl _), ← List.length_map (·.data.toList), split_dataW]
  rw [hl] at hc
  refine hc.mono ?_
  rintro e w' ⟨rfl, rfl⟩
  refine ⟨rfl, ⟨by simp, fun k hk => ?_⟩, (Below.refl _ _).alloc (Nat.le_refl _) _⟩
  have hd := split_dataW ⟨x.toArray⟩
  have hk2 : k < (Lib.splitB ⟨#[32]⟩ 0 (Lib.countB ⟨x.toArray⟩ ⟨#[32]⟩) ⟨x.toArray⟩).length := by rw [splitB_lenW _ _ (Nat.le_refl _), hl]; exact hk
  rw [World.cell?_alloc_new]
  have e1 : (splitC 32 x)[k]? = some ((Lib.splitB ⟨#[32]⟩ 0 (Lib.countB ⟨x.toArray⟩ ⟨#[32]⟩) ⟨x.toArray⟩)[k].data.toList) := by
    rw [← show (Lib.splitB ⟨#[32]⟩ 0 (Lib.countB ⟨x.toArray⟩ ⟨#[32]⟩) ⟨x.toArray⟩).map (·.data.toList) = splitC 32 x from hd, List.getElem?_map, List.getElem?_eq_getElem hk2]; rfl
  have e2 : wd (splitC 32 x) k = (Lib.splitB ⟨#[32]⟩ 0 (Lib.countB ⟨x.toArray⟩ ⟨#[32]⟩) ⟨x.toArray⟩)[k].data.toList := by
    unfold wd; rw [List.getD_eq_getElem?_getD, e1]; rfl
  rw [e2, List.getElem?_toArray, List.getElem?_map, List.getElem?_eq_getElem hk2]
  rfl
/-- The words of the lines of a text. -/
def wordsL (t : List UInt8) : List (List (List UInt8)) := (linesN t).map fun x => splitC 32 (Lib.trimSuffix x [10])
theorem trim_line (x : List UInt8) : Lib.trimSuffix (x ++ [10]) [10] = x := by simp [Lib.trimSuffix, Lib.hasSuffix]
theorem trim_none {x : List UInt8} (h : (10 : UInt8) ∉ x) : Lib.trimSuffix x [10] = x := by
  unfold Lib.trimSuffix
  rw [if_neg]
  intro hs
  have : [10] <:+ x := by simpa [Lib.hasSuffix] using hs
  obtain ⟨y, hy⟩ := this
  exact h (by rw [← hy]; simp)
theorem splitC_no (c : UInt8) (l : List UInt8) : ∀ x ∈ splitC c l, c ∉ x := by
  induction l with
  | nil => intro x hx; simp [splitC] at hx; subst hx; simp
  | cons b r ih =>
    intro x hx
    unfold splitC at hx
    split at hx
    · rcases List.mem_cons.1 hx with rfl | hx
      · simp
      · exact ih x hx
    · rename_i hb
      split at hx
      · simp at hx; subst hx; simp; exact fun e => hb e.symm
      · rename_i y ys he
        rcases List.mem_cons.1 hx with rfl | hx
        · simp only [List.mem_cons, not_or]
          exact ⟨fun e => hb e.symm, ih y (by rw [he]; simp)⟩
        · exact ih x (by rw [he]; simp [hx])
theorem wordsL_rows (t : List UInt8) : wordsL t = (Sv.rowsS t).map (splitC 32) := by
  have hno := splitC_no 10 t
  have hne := Ost.splitC_ne 10 t
  unfold wordsL linesN Sv.rowsS
  generalize splitC 10 t = p at *
  have hm : (p.dropLast.map (· ++ [10])).map (fun x => splitC 32 (Lib.trimSuffix x [10])) = p.dropLast.map (splitC 32) := by
    rw [List.map_map]
    exact List.map_congr_left fun x _ => by simp only [Function.comp, trim_line]
  by_cases h : p.getLast? = some []
  · rw [if_pos h, if_pos h, List.append_nil, hm]
  · rw [if_neg h, if_neg h, List.map_append, hm]
    obtain ⟨l, hl⟩ : ∃ l, p.getLast? = some l := ⟨_, List.getLast?_eq_some_getLast hne⟩
    have hd : p.getLastD [] = l := by rw [List.getLastD_eq_getLast?, hl]; rfl
    have hml : l ∈ p := List.mem_of_getLast? hl
    rw [hd, List.map_singleton, trim_none (hno l hml), ← List.map_singleton, ← List.map_append]
    congr 1
    rw [List.getLast?_eq_some_getLast hne] at hl
    injection hl with hl
    rw [← hl]
    exact List.dropLast_concat_getLast hne
theorem readS_words (t : List UInt8) : Sv.readS t = Sv.steps Sv.numS Sv.needS [] (wordsL t) := by rw [wordsL_rows]; rfl
end Go.Proofs.YtlljniaobbbjgaaGreatDoor

