/- What combine answers: no place that comes out is better than the one that is told. -/
import Derived.Test.YtlpogejkmigimaaTM1
import Derived.Test.YtlpogejkmigimaaMW3
import Derived.Deep.RegionHeld3
namespace Go.Proofs.Ytlpogejkmigimaa
open Go.RowKit
open Ost (Hi Wi wi0 Low bet pop8 key com reach told)
def CTrue (w : World) (e : Ending) (w' : World) : Prop := e = .returned (.bool true) ∧ Below w.heap.size w w'
abbrev cWorld (w : World) (m : Nat) (g : Bool) (n : Nat) (f : Bool) : World := (w.alloc (.cells #[.int .u8 (m : Nat), .bool g] 60)).alloc (.cells #[.int .u8 (n : Nat), .bool f] 60)
theorem cBelow (w : World) (m : Nat) (g : Bool) (n : Nat) (f : Bool) : Below w.heap.size w (cWorld w m g n f) := ((Below.refl _ _).alloc (Nat.le_refl _) _).alloc (by simp) _
theorem cCells (w : World) (m : Nat) (g : Bool) (n : Nat) (f : Bool) : (cWorld w m g n f).cell? ⟨w.heap.size, 0, none⟩ = some (.int .u8 (m : Nat)) ∧ (cWorld w m g n f).cell? ⟨w.heap.size, 1, none⟩ = some (.bool g) ∧ (cWorld w m g n f).cell? ⟨w.heap.size + 1, 0, none⟩ = some (.int .u8 (n : Nat)) ∧ (cWorld w m g n f).cell? ⟨w.heap.size + 1, 1, none⟩ = some (.bool f) := by
  unfold cWorld
  refine ⟨?_, ?_, ?_, ?_⟩ <;> go_simp
set_option maxRecDepth 100000 in
set_option maxHeartbeats 1000000 in
theorem combine_zero (nodes : Nat) (ao : Option Addr) (r c : Nat) (g : Bool) (n : Nat) (f : Bool) (w : World) :
    Calls Try.prog 38 #[.int .u8 nodes, .slice ao r c, .agg #[.int .u8 0, .bool g], .agg #[.int .u8 (n : Nat), .bool f]] w fun e w' => CTrue w e w' := by
  have HB := hideIt (cBelow w 0 g n f)
  unfold cWorld at HB
  go_enter Try.func38, Try.ntmps38
  go_wp2_with fail
  go_ret
  exact ⟨rfl, HB.out⟩
set_option maxRecDepth 100000 in
set_option maxHeartbeats 1000000 in
theorem combine_end (nodes : Nat) (ao : Option Addr) (c : Nat) (m : Nat) (g : Bool) (n : Nat) (f : Bool) (w : World) (hm : m < 256) (hn : n < 256) (h0 : m ≠ 0) (hk : key (n, f) ≤ key (m, g)) :
    Calls Try.prog 38 #[.int .u8 nodes, .slice ao 0 c, .agg #[.int .u8 (m : Nat), .bool g], .agg #[.int .u8 (n : Nat), .bool f]] w fun e w' => CTrue w e w' := by
  have HB := hideIt (cBelow w m g n f)
  have HC := hideIt (cCells w m g n f)
  have hz : ((m : Int) == 0) = false := by rw [beq_eq_false_iff_ne]; omega
  have hp8 := Ost.pop8_le m
  have hq8 := Ost.pop8_le n
  unfold key at hk
  simp only at hk
  have HPm := hideIt (fun w => nodesH_any m w hm)
  have HPn := hideIt (fun w => nodesH_any n w hn)
  unfold cWorld at *
  go_enter Try.func38, Try.ntmps38
  have hcase : (g = f ∧ pop8 n < pop8 m) ∨ (g = f ∧ pop8 m = pop8 n ∧ n ≤ m) ∨ (g = false ∧ f = true) := by
    cases g <;> cases f <;> simp at hk ⊢ <;> omega
  clear hk
  obtain ⟨k0, k1, k2, k3⟩ := HC.out
  clear HC
  rcases hcase with ⟨rfl, hlt⟩ | ⟨rfl, heq, hle⟩ | ⟨rfl, rfl⟩
  · go_wp2_with fail
    generalize ((w.alloc (.cells #[.int .u8 (m : Nat), .bool g] 60)).alloc (.cells #[.int .u8 (n : Nat), .bool g] 60)) = W0 at *
    have hgt : (decide ((pop8 n : Int) < (pop8 m : Int))) = true := by rw [decide_eq_true_eq]; omega
    have hgt2 : (pop8 n : Int) < (pop8 m : Int) := by omega
    generalize pop8 m = pm at *
    generalize pop8 n = pn at *
    go_quiet (first | (go_at_call_of 30 m; exact Calls.quiet_of_same (HPm.out _)) | (go_at_call_of 30 n; exact Calls.quiet_of_same (HPn.out _)))
    go_wp2_with fail
    go_ret
    exact ⟨rfl, below_drewN HB.out _⟩
  · go_wp2_with fail
    generalize ((w.alloc (.cells #[.int .u8 (m : Nat), .bool g] 60)).alloc (.cells #[.int .u8 (n : Nat), .bool g] 60)) = W0 at *
    rw [heq] at HPm
    have hgt : (decide ((n : Int) ≤ (m : Int))) = true := by rw [decide_eq_true_eq]; omega
    have hgt2 : (n : Int) ≤ (m : Int) := by omega
    clear heq hp8
    generalize pop8 n = pn at *
    go_quiet (first | (go_at_call_of 30 m; exact Calls.quiet_of_same (HPm.out _)) | (go_at_call_of 30 n; exact Calls.quiet_of_same (HPn.out _)))
    go_wp2_with fail
    go_ret
    exact ⟨rfl, below_drewN HB.out _⟩
  · go_wp2_with fail
    generalize ((w.alloc (.cells #[.int .u8 (m : Nat), .bool false] 60)).alloc (.cells #[.int .u8 (n : Nat), .bool true] 60)) = W0 at *
    go_quiet (first | (go_at_call_of 30 m; exact Calls.quiet_of_same (HPm.out _)) | (go_at_call_of 30 n; exact Calls.quiet_of_same (HPn.out _)))
    go_wp2_with fail
    go_ret
    exact ⟨rfl, below_drewN HB.out _⟩
set_option maxRecDepth 100000 in
set_option maxHeartbeats 2000000 in
theorem combine_pass (nodes : Nat) (b o r c : Nat) (a1 : Option Addr) (ha1 : (if c = 1 then some (⟨b, o, none⟩ : Addr) else some ⟨b, o + 2, none⟩) = a1) (any : Bool) (ao2 : Option Addr) (l2 c2 : Nat) (m : Nat) (g : Bool) (n : Nat) (f : Bool) (w : World) (h0 : m ≠ 0) (hr : r ≤ 4)
    (hc0 : w.cell? ⟨b, o, none⟩ = some (.bool any)) (hc1 : w.cell? ⟨b, o + 1, none⟩ = some (.slice ao2 l2 c2)) (hl2 : l2 ≤ 16) (hpass : any = true ∨ (any = false ∧ l2 = 0))
    (IH : ∀ W, Below w.heap.size w W → Calls Try.prog 38 #[.int .u8 nodes, .slice a1 r (c - 1), .agg #[.int .u8 (m : Nat), .bool (g && any)], .agg #[.int .u8 (n : Nat), .bool f]] W fun e w' => CTrue W e w') :
    Calls Try.prog 38 #[.int .u8 nodes, .slice (some ⟨b, o, none⟩) (r + 1) c, .agg #[.int .u8 (m : Nat), .bool g], .agg #[.int .u8 (n : Nat), .bool f]] w fun e w' => CTrue w e w' := by
  have HB := hideIt (cBelow w m g n f)
  have HC := hideIt (cCells w m g n f)
  have hz : ((m : Int) == 0) = false := by rw [beq_eq_false_iff_ne]; omega
  have c0 := (HB.out.cell (p := ⟨b, o, none⟩) (World.block_lt_of_cell? _ _ hc0)).trans hc0
  have c1 := (HB.out.cell (p := ⟨b, o + 1, none⟩) (World.block_lt_of_cell? _ _ hc1)).trans hc1
  have HIH := hideIt IH
  have h1r : (1 : Int) ≤ (r : Int) + 1 := by omega
  clear IH hc0 hc1
  unfold cWorld at *
  go_enter Try.func38, Try.ntmps38
  obtain ⟨k0, k1, k2, k3⟩ := HC.out
  clear HC
  rcases two g with hg | hg
  · subst hg
    rcases hpass with rfl | ⟨rfl, rfl⟩
    · go_wp2_with fail
      generalize ((w.alloc (.cells #[.int .u8 (m : Nat), .bool true] 60)).alloc (.cells #[.int .u8 (n : Nat), .bool f] 60)) = W0 at *
      refine wp_region_held_drew (S := (fun w' => w'.cell? ⟨w.heap.size, 0, none⟩ = some (.int .u8 (m : Nat)) ∧ w'.cell? ⟨w.heap.size, 1, none⟩ = some (.bool true) ∧ w'.cell? ⟨w.heap.size + 1, 0, none⟩ = some (.int .u8 (n : Nat)) ∧ w'.cell? ⟨w.heap.size + 1, 1, none⟩ = some (.bool f) ∧ w'.cell? ⟨b, o, none⟩ = some (.bool true))) (by kernel_rfl) ⟨k0, k1, k2, k3, c0⟩ (fun hHeld => ?_)
      refine wpAnyH_take (i := 0) (oi := { dst := some 71, op := Op.move (Operand.tmp 0), type := 23, pos := "parts.go:211", after := #[], guard := none }) (v := ?v1x0) rfl (by kernel_rfl) (by kernel_rfl) (by kernel_rfl) (fun _ _ _ h => h) (Or.inl ⟨by rfl, ?h1x0⟩) (by assumption) ?r1x0
      case h1x0 =>
        intro w' hSw
        (try dsimp only at hSw)
        go_simp
        first | done | with_reducible rfl | rfl
      (try simp only [Act.put, List.setIfInBounds_toArray, List.set_cons_zero, List.set_cons_succ])
      refine wpAnyH_take (i := 1) (oi := { dst := some 72, op := Op.move (Operand.tmp 1), type := 57, pos := "parts.go:211", after := #[], guard := none }) (v := ?v2x1) rfl (by kernel_rfl) (by kernel_rfl) (by kernel_rfl) (fun _ _ _ h => h) (Or.inl ⟨by rfl, ?h2x1⟩) (by assumption) ?r2x1
      case h2x1 =>
        intro w' hSw
        (try dsimp only at hSw)
        go_simp
        first | done | with_reducible rfl | rfl
      (try simp only [Act.put, List.setIfInBounds_toArray, List.set_cons_zero, List.set_cons_succ])
      refine wpAnyH_take (i := 2) (oi := { dst := some 73, op := Op.slice 57 (Operand.tmp 72) (some (Operand.const (Value.int IntKind.i64 1))) none none, type := 57, pos := "parts.go:211", after := #[{ on := 1, ground := Ground.data }], guard := none }) (v := ?v3x2) rfl (by kernel_rfl) (by kernel_rfl) (by kernel_rfl) (fun _ _ _ h => h) (Or.inl ⟨by rfl, ?h3x2⟩) (by assumption) ?r3x2
      case h3x2 =>
        intro w' hSw
        (try dsimp only at hSw)
        go_simp
        first | done | with_reducible rfl | rfl
      (try simp only [Act.put, List.setIfInBounds_toArray, List.set_cons_zero, List.set_cons_succ])
      refine wpAnyH_take (i := 3) (oi := { dst := some 74, op := Op.fieldAddr 60 (Operand.tmp 6) 0, type := 0, pos := "parts.go:211", after := #[], guard := none }) (v := ?v4x3) rfl (by kernel_rfl) (by kernel_rfl) (by kernel_rfl) (fun _ _ _ h => h) (Or.inl ⟨by rfl, ?h4x3⟩) (by assumption) ?r4x3
      case h4x3 =>
        intro w' hSw
        (try dsimp only at hSw)
        go_simp
        first | done | with_reducible rfl | rfl
      (try simp only [Act.put, List.setIfInBounds_toArray, List.set_cons_zero, List.set_cons_succ])
      refine wpAnyH_take (i := 4) (oi := { dst := some 75, op := Op.load 23 (Operand.tmp 74), type := 23, pos := "parts.go:211", after := #[{ on := 3, ground := Ground.data }], guard := none }) (v := ?v5x4) rfl (by kernel_rfl) (by kernel_rfl) (by kernel_rfl) (fun _ _ _ h => h) (Or.inl ⟨by rfl, ?h5x4⟩) (by assumption) ?r5x4
      case h5x4 =>
        intro w' hSw
        (try dsimp only at hSw)
        go_simp
        first | done | with_reducible rfl | rfl
      (try simp only [Act.put, List.setIfInBounds_toArray, List.set_cons_zero, List.set_cons_succ])
      refine wpAnyH_take (i := 5) (oi := { dst := some 76, op := Op.fieldAddr 60 (Operand.tmp 6) 1, type := 0, pos := "parts.go:211", after := #[], guard := none }) (v := ?v6x5) rfl (by kernel_rfl) (by kernel_rfl) (by kernel_rfl) (fun _ _ _ h => h) (Or.inl ⟨by rfl, ?h6x5⟩) (by assumption) ?r6x5
      case h6x5 =>
        intro w' hSw
        (try dsimp only at hSw)
        go_simp
        first | done | with_reducible rfl | rfl
      (try simp only [Act.put, List.setIfInBounds_toArray, List.set_cons_zero, List.set_cons_succ])
      refine wpAnyH_take (i := 6) (oi := { dst := some 77, op := Op.load 4 (Operand.tmp 76), type := 4, pos := "parts.go:211", after := #[{ on := 5, ground := Ground.data }], guard := none }) (v := ?v7x6) rfl (by kernel_rfl) (by kernel_rfl) (by kernel_rfl) (fun _ _ _ h => h) (Or.inl ⟨by rfl, ?h7x6⟩) (by assumption) ?r7x6
      case h7x6 =>
        intro w' hSw
        (try dsimp only at hSw)
        go_simp
        first | done | with_reducible rfl | rfl
      (try simp only [Act.put, List.setIfInBounds_toArray, List.set_cons_zero, List.set_cons_succ])
      refine wpAnyH_take (i := 7) (oi := { dst := some 78, op := Op.move (Operand.tmp 77), type := 4, pos := "parts.go:211", after := #[{ on := 6, ground := Ground.data }], guard := none }) (v := ?v8x7) rfl (by kernel_rfl) (by kernel_rfl) (by kernel_rfl) (fun _ _ _ h => h) (Or.inl ⟨by rfl, ?h8x7⟩) (by assumption) ?r8x7
      case h8x7 =>
        intro w' hSw
        (try dsimp only at hSw)
        go_simp
        first | done | with_reducible rfl | rfl
      (try simp only [Act.put, List.setIfInBounds_toArray, List.set_cons_zero, List.set_cons_succ])
      refine wpAnyH_take (i := 8) (oi := { dst := some 79, op := Op.move (Operand.tmp 1), type := 57, pos := "parts.go:211", after := #[{ on := 7, ground := Ground.guard }], guard := some (7, true) }) (v := ?v9x8) rfl (by kernel_rfl) (by kernel_rfl) (by kernel_rfl) (fun _ _ _ h => h) (Or.inl ⟨by rfl, ?h9x8⟩) (by assumption) ?r9x8
      case h9x8 =>
        intro w' hSw
        (try dsimp only at hSw)
        go_simp
        first | done | with_reducible rfl | rfl
      (try simp only [Act.put, List.setIfInBounds_toArray, List.set_cons_zero, List.set_cons_succ])
      refine wpAnyH_take (i := 9) (oi := { dst := some 80, op := Op.indexAddr 57 (Operand.tmp 79) (Operand.const (Value.int IntKind.i64 0)), type := 0, pos := "parts.go:211", after := #[{ on := 8, ground := Ground.data }, { on := 7, ground := Ground.guard }], guard := some (7, true) }) (v := ?v10x9) rfl (by kernel_rfl) (by kernel_rfl) (by kernel_rfl) (fun _ _ _ h => h) (Or.inl ⟨by rfl, ?h10x9⟩) (by assumption) ?r10x9
      case h10x9 =>
        intro w' hSw
        (try dsimp only at hSw)
        go_simp
        first | done | with_reducible rfl | rfl
      (try simp only [Act.put, List.setIfInBounds_toArray, List.set_cons_zero, List.set_cons_succ])
      refine wpAnyH_take (i := 10) (oi := { dst := some 81, op := Op.fieldAddr 53 (Operand.tmp 80) 0, type := 0, pos := "parts.go:211", after := #[{ on := 9, ground := Ground.data }, { on := 7, ground := Ground.guard }], guard := some (7, true) }) (v := ?v11x10) rfl (by kernel_rfl) (by kernel_rfl) (by kernel_rfl) (fun _ _ _ h => h) (Or.inl ⟨by rfl, ?h11x10⟩) (by assumption) ?r11x10
      case h11x10 =>
        intro w' hSw
        (try dsimp only at hSw)
        go_simp
        first | done | with_reducible rfl | rfl
      (try simp only [Act.put, List.setIfInBounds_toArray, List.set_cons_zero, List.set_cons_succ])
      refine wpAnyH_take (i := 11) (oi := { dst := some 82, op := Op.load 4 (Operand.tmp 81), type := 4, pos := "parts.go:211", after := #[{ on := 10, ground := Ground.data }, { on := 7, ground := Ground.guard }], guard := some (7, true) }) (v := ?v12x11) rfl (by kernel_rfl) (by kernel_rfl) (by kernel_rfl) (fun _ _ _ h => h) (Or.inl ⟨by rfl, ?h12x11⟩) (by assumption) ?r12x11
      case h12x11 =>
        intro w' hSw
        (try dsimp only at hSw)
        go_simp
        first | done | with_reducible rfl | rfl
      (try simp only [Act.put, List.setIfInBounds_toArray, List.set_cons_zero, List.set_cons_succ])
      refine wpAnyH_take (i := 12) (oi := { dst := some 83, op := Op.pick (Operand.tmp 78) (Operand.tmp 82) (Operand.const (Value.bool false)), type := 4, pos := "parts.go:211", after := #[{ on := 7, ground := Ground.data }, { on := 11, ground := Ground.data }], guard := none }) (v := ?v13x12) rfl (by kernel_rfl) (by kernel_rfl) (by kernel_rfl) (fun _ _ _ h => h) (Or.inl ⟨by rfl, ?h13x12⟩) (by assumption) ?r13x12
      case h13x12 =>
        intro w' hSw
        (try dsimp only at hSw)
        go_simp
        first | done | with_reducible rfl | rfl
      (try simp only [Act.put, List.setIfInBounds_toArray, List.set_cons_zero, List.set_cons_succ])
      refine wpAnyH_take (i := 13) (oi := { dst := some 84, op := Op.build 60 #[(0, Operand.tmp 75), (1, Operand.tmp 83)], type := 60, pos := "parts.go:211", after := #[{ on := 4, ground := Ground.data }, { on := 12, ground := Ground.data }], guard := none }) (v := ?v14x13) rfl (by kernel_rfl) (by kernel_rfl) (by kernel_rfl) (fun _ _ _ h => h) (Or.inl ⟨by rfl, ?h14x13⟩) (by assumption) ?r14x13
      case h14x13 =>
        intro w' hSw
        (try dsimp only at hSw)
        go_simp
        first | done | with_reducible rfl | rfl
      (try simp only [Act.put, List.setIfInBounds_toArray, List.set_cons_zero, List.set_cons_succ])
      refine wpAnyH_take (i := 14) (oi := { dst := some 85, op := Op.load 60 (Operand.tmp 7), type := 60, pos := "parts.go:211", after := #[], guard := none }) (v := ?v15x14) rfl (by kernel_rfl) (by kernel_rfl) (by kernel_rfl) (fun _ _ _ h => h) (Or.inl ⟨by rfl, ?h15x14⟩) (by assumption) ?r15x14
      case h15x14 =>
        intro w' hSw
        (try dsimp only at hSw)
        go_simp
        first | done | with_reducible rfl | rfl
      (try simp only [Act.put, List.setIfInBounds_toArray, List.set_cons_zero, List.set_cons_succ])
      refine wpAnyH_ready (rs := [15]) (by kernel_rfl) (by simp) (AllReadyH.cons rfl (fun K hK => ?_) AllReadyH.nil)
      go_simp
      go_wp2_with fail
      refine (HIH.out _ HB.out.drew).mono ?_
      rintro e w9 ⟨rfl, hb9⟩
      have x0 := (hb9.cell (p := ⟨w.heap.size, 0, none⟩) (World.block_lt_of_cell? _ _ k0)).trans k0
      have x1 := (hb9.cell (p := ⟨w.heap.size, 1, none⟩) (World.block_lt_of_cell? _ _ k1)).trans k1
      have x2 := (hb9.cell (p := ⟨w.heap.size + 1, 0, none⟩) (World.block_lt_of_cell? _ _ k2)).trans k2
      have x3 := (hb9.cell (p := ⟨w.heap.size + 1, 1, none⟩) (World.block_lt_of_cell? _ _ k3)).trans k3
      have x4 := (hb9.cell (p := ⟨b, o, none⟩) (World.block_lt_of_cell? _ _ c0)).trans c0
      go_wp2_with fail
      refine hK.out _ _ ⟨x0, x1, x2, x3, x4⟩ (fun hHeld => ?_)
      clear hK K
      refine wpAnyH_take (i := 16) (oi := { dst := some 8, op := Op.assign (Operand.tmp 86), type := 4, pos := "parts.go:211", after := #[{ on := 15, ground := Ground.data }, { on := 15, ground := Ground.chain }, { on := 0, ground := Ground.phase }, { on := 1, ground := Ground.phase }, { on := 2, ground := Ground.phase }, { on := 3, ground := Ground.phase }, { on := 4, ground := Ground.phase }, { on := 5, ground := Ground.phase }, { on := 6, ground := Ground.phase }, { on := 7, ground := Ground.phase }, { on := 8, ground := Ground.phase }, { on := 9, ground := Ground.phase }, { on := 10, ground := Ground.phase }, { on := 11, ground := Ground.phase }, { on := 12, ground := Ground.phase }, { on := 13, ground := Ground.phase }, { on := 14, ground := Ground.phase }, { on := 15, ground := Ground.phase }], guard := none }) (v := ?v16x16) rfl (by kernel_rfl) (by kernel_rfl) (by kernel_rfl) (fun _ _ _ h => h) (Or.inl ⟨by rfl, ?h16x16⟩) (by assumption) ?r16x16
      case h16x16 =>
        intro w' hSw
        (try dsimp only at hSw)
        go_simp
        first | done | with_reducible rfl | rfl
      (try simp only [Act.put, List.setIfInBounds_toArray, List.set_cons_zero, List.set_cons_succ])
      refine wpAnyH_done (by kernel_rfl) ?_ _
      have HBz := hideIt (HB.out.drew.trans (hb9.mono HB.out.size))
      clear hb9 hHeld
      go_wp2_with fail
      go_ret
      exact ⟨rfl, HBz.out⟩
    · go_wp2_with fail
      generalize ((w.alloc (.cells #[.int .u8 (m : Nat), .bool true] 60)).alloc (.cells #[.int .u8 (n : Nat), .bool f] 60)) = W0 at *
      refine wp_region_held_drew (S := (fun w' => w'.cell? ⟨w.heap.size, 0, none⟩ = some (.int .u8 (m : Nat)) ∧ w'.cell? ⟨w.heap.size, 1, none⟩ = some (.bool true) ∧ w'.cell? ⟨w.heap.size + 1, 0, none⟩ = some (.int .u8 (n : Nat)) ∧ w'.cell? ⟨w.heap.size + 1, 1, none⟩ = some (.bool f) ∧ w'.cell? ⟨b, o, none⟩ = some (.bool false))) (by kernel_rfl) ⟨k0, k1, k2, k3, c0⟩ (fun hHeld => ?_)
      refine wpAnyH_take (i := 0) (oi := { dst := some 71, op := Op.move (Operand.tmp 0), type := 23, pos := "parts.go:211", after := #[], guard := none }) (v := ?v17x0) rfl (by kernel_rfl) (by kernel_rfl) (by kernel_rfl) (fun _ _ _ h => h) (Or.inl ⟨by rfl, ?h17x0⟩) (by assumption) ?r17x0
      case h17x0 =>
        intro w' hSw
        (try dsimp only at hSw)
        go_simp
        first | done | with_reducible rfl | rfl
      (try simp only [Act.put, List.setIfInBounds_toArray, List.set_cons_zero, List.set_cons_succ])
      refine wpAnyH_take (i := 1) (oi := { dst := some 72, op := Op.move (Operand.tmp 1), type := 57, pos := "parts.go:211", after := #[], guard := none }) (v := ?v18x1) rfl (by kernel_rfl) (by kernel_rfl) (by kernel_rfl) (fun _ _ _ h => h) (Or.inl ⟨by rfl, ?h18x1⟩) (by assumption) ?r18x1
      case h18x1 =>
        intro w' hSw
        (try dsimp only at hSw)
        go_simp
        first | done | with_reducible rfl | rfl
      (try simp only [Act.put, List.setIfInBounds_toArray, List.set_cons_zero, List.set_cons_succ])
      refine wpAnyH_take (i := 2) (oi := { dst := some 73, op := Op.slice 57 (Operand.tmp 72) (some (Operand.const (Value.int IntKind.i64 1))) none none, type := 57, pos := "parts.go:211", after := #[{ on := 1, ground := Ground.data }], guard := none }) (v := ?v19x2) rfl (by kernel_rfl) (by kernel_rfl) (by kernel_rfl) (fun _ _ _ h => h) (Or.inl ⟨by rfl, ?h19x2⟩) (by assumption) ?r19x2
      case h19x2 =>
        intro w' hSw
        (try dsimp only at hSw)
        go_simp
        first | done | with_reducible rfl | rfl
      (try simp only [Act.put, List.setIfInBounds_toArray, List.set_cons_zero, List.set_cons_succ])
      refine wpAnyH_take (i := 3) (oi := { dst := some 74, op := Op.fieldAddr 60 (Operand.tmp 6) 0, type := 0, pos := "parts.go:211", after := #[], guard := none }) (v := ?v20x3) rfl (by kernel_rfl) (by kernel_rfl) (by kernel_rfl) (fun _ _ _ h => h) (Or.inl ⟨by rfl, ?h20x3⟩) (by assumption) ?r20x3
      case h20x3 =>
        intro w' hSw
        (try dsimp only at hSw)
        go_simp
        first | done | with_reducible rfl | rfl
      (try simp only [Act.put, List.setIfInBounds_toArray, List.set_cons_zero, List.set_cons_succ])
      refine wpAnyH_take (i := 4) (oi := { dst := some 75, op := Op.load 23 (Operand.tmp 74), type := 23, pos := "parts.go:211", after := #[{ on := 3, ground := Ground.data }], guard := none }) (v := ?v21x4) rfl (by kernel_rfl) (by kernel_rfl) (by kernel_rfl) (fun _ _ _ h => h) (Or.inl ⟨by rfl, ?h21x4⟩) (by assumption) ?r21x4
      case h21x4 =>
        intro w' hSw
        (try dsimp only at hSw)
        go_simp
        first | done | with_reducible rfl | rfl
      (try simp only [Act.put, List.setIfInBounds_toArray, List.set_cons_zero, List.set_cons_succ])
      refine wpAnyH_take (i := 5) (oi := { dst := some 76, op := Op.fieldAddr 60 (Operand.tmp 6) 1, type := 0, pos := "parts.go:211", after := #[], guard := none }) (v := ?v22x5) rfl (by kernel_rfl) (by kernel_rfl) (by kernel_rfl) (fun _ _ _ h => h) (Or.inl ⟨by rfl, ?h22x5⟩) (by assumption) ?r22x5
      case h22x5 =>
        intro w' hSw
        (try dsimp only at hSw)
        go_simp
        first | done | with_reducible rfl | rfl
      (try simp only [Act.put, List.setIfInBounds_toArray, List.set_cons_zero, List.set_cons_succ])
      refine wpAnyH_take (i := 6) (oi := { dst := some 77, op := Op.load 4 (Operand.tmp 76), type := 4, pos := "parts.go:211", after := #[{ on := 5, ground := Ground.data }], guard := none }) (v := ?v23x6) rfl (by kernel_rfl) (by kernel_rfl) (by kernel_rfl) (fun _ _ _ h => h) (Or.inl ⟨by rfl, ?h23x6⟩) (by assumption) ?r23x6
      case h23x6 =>
        intro w' hSw
        (try dsimp only at hSw)
        go_simp
        first | done | with_reducible rfl | rfl
      (try simp only [Act.put, List.setIfInBounds_toArray, List.set_cons_zero, List.set_cons_succ])
      refine wpAnyH_take (i := 7) (oi := { dst := some 78, op := Op.move (Operand.tmp 77), type := 4, pos := "parts.go:211", after := #[{ on := 6, ground := Ground.data }], guard := none }) (v := ?v24x7) rfl (by kernel_rfl) (by kernel_rfl) (by kernel_rfl) (fun _ _ _ h => h) (Or.inl ⟨by rfl, ?h24x7⟩) (by assumption) ?r24x7
      case h24x7 =>
        intro w' hSw
        (try dsimp only at hSw)
        go_simp
        first | done | with_reducible rfl | rfl
      (try simp only [Act.put, List.setIfInBounds_toArray, List.set_cons_zero, List.set_cons_succ])
      refine wpAnyH_take (i := 8) (oi := { dst := some 79, op := Op.move (Operand.tmp 1), type := 57, pos := "parts.go:211", after := #[{ on := 7, ground := Ground.guard }], guard := some (7, true) }) (v := ?v25x8) rfl (by kernel_rfl) (by kernel_rfl) (by kernel_rfl) (fun _ _ _ h => h) (Or.inl ⟨by rfl, ?h25x8⟩) (by assumption) ?r25x8
      case h25x8 =>
        intro w' hSw
        (try dsimp only at hSw)
        go_simp
        first | done | with_reducible rfl | rfl
      (try simp only [Act.put, List.setIfInBounds_toArray, List.set_cons_zero, List.set_cons_succ])
      refine wpAnyH_take (i := 9) (oi := { dst := some 80, op := Op.indexAddr 57 (Operand.tmp 79) (Operand.const (Value.int IntKind.i64 0)), type := 0, pos := "parts.go:211", after := #[{ on := 8, ground := Ground.data }, { on := 7, ground := Ground.guard }], guard := some (7, true) }) (v := ?v26x9) rfl (by kernel_rfl) (by kernel_rfl) (by kernel_rfl) (fun _ _ _ h => h) (Or.inl ⟨by rfl, ?h26x9⟩) (by assumption) ?r26x9
      case h26x9 =>
        intro w' hSw
        (try dsimp only at hSw)
        go_simp
        first | done | with_reducible rfl | rfl
      (try simp only [Act.put, List.setIfInBounds_toArray, List.set_cons_zero, List.set_cons_succ])
      refine wpAnyH_take (i := 10) (oi := { dst := some 81, op := Op.fieldAddr 53 (Operand.tmp 80) 0, type := 0, pos := "parts.go:211", after := #[{ on := 9, ground := Ground.data }, { on := 7, ground := Ground.guard }], guard := some (7, true) }) (v := ?v27x10) rfl (by kernel_rfl) (by kernel_rfl) (by kernel_rfl) (fun _ _ _ h => h) (Or.inl ⟨by rfl, ?h27x10⟩) (by assumption) ?r27x10
      case h27x10 =>
        intro w' hSw
        (try dsimp only at hSw)
        go_simp
        first | done | with_reducible rfl | rfl
      (try simp only [Act.put, List.setIfInBounds_toArray, List.set_cons_zero, List.set_cons_succ])
      refine wpAnyH_take (i := 11) (oi := { dst := some 82, op := Op.load 4 (Operand.tmp 81), type := 4, pos := "parts.go:211", after := #[{ on := 10, ground := Ground.data }, { on := 7, ground := Ground.guard }], guard := some (7, true) }) (v := ?v28x11) rfl (by kernel_rfl) (by kernel_rfl) (by kernel_rfl) (fun _ _ _ h => h) (Or.inl ⟨by rfl, ?h28x11⟩) (by assumption) ?r28x11
      case h28x11 =>
        intro w' hSw
        (try dsimp only at hSw)
        go_simp
        first | done | with_reducible rfl | rfl
      (try simp only [Act.put, List.setIfInBounds_toArray, List.set_cons_zero, List.set_cons_succ])
      refine wpAnyH_take (i := 12) (oi := { dst := some 83, op := Op.pick (Operand.tmp 78) (Operand.tmp 82) (Operand.const (Value.bool false)), type := 4, pos := "parts.go:211", after := #[{ on := 7, ground := Ground.data }, { on := 11, ground := Ground.data }], guard := none }) (v := ?v29x12) rfl (by kernel_rfl) (by kernel_rfl) (by kernel_rfl) (fun _ _ _ h => h) (Or.inl ⟨by rfl, ?h29x12⟩) (by assumption) ?r29x12
      case h29x12 =>
        intro w' hSw
        (try dsimp only at hSw)
        go_simp
        first | done | with_reducible rfl | rfl
      (try simp only [Act.put, List.setIfInBounds_toArray, List.set_cons_zero, List.set_cons_succ])
      refine wpAnyH_take (i := 13) (oi := { dst := some 84, op := Op.build 60 #[(0, Operand.tmp 75), (1, Operand.tmp 83)], type := 60, pos := "parts.go:211", after := #[{ on := 4, ground := Ground.data }, { on := 12, ground := Ground.data }], guard := none }) (v := ?v30x13) rfl (by kernel_rfl) (by kernel_rfl) (by kernel_rfl) (fun _ _ _ h => h) (Or.inl ⟨by rfl, ?h30x13⟩) (by assumption) ?r30x13
      case h30x13 =>
        intro w' hSw
        (try dsimp only at hSw)
        go_simp
        first | done | with_reducible rfl | rfl
      (try simp only [Act.put, List.setIfInBounds_toArray, List.set_cons_zero, List.set_cons_succ])
      refine wpAnyH_take (i := 14) (oi := { dst := some 85, op := Op.load 60 (Operand.tmp 7), type := 60, pos := "parts.go:211", after := #[], guard := none }) (v := ?v31x14) rfl (by kernel_rfl) (by kernel_rfl) (by kernel_rfl) (fun _ _ _ h => h) (Or.inl ⟨by rfl, ?h31x14⟩) (by assumption) ?r31x14
      case h31x14 =>
        intro w' hSw
        (try dsimp only at hSw)
        go_simp
        first | done | with_reducible rfl | rfl
      (try simp only [Act.put, List.setIfInBounds_toArray, List.set_cons_zero, List.set_cons_succ])
      refine wpAnyH_ready (rs := [15]) (by kernel_rfl) (by simp) (AllReadyH.cons rfl (fun K hK => ?_) AllReadyH.nil)
      go_simp
      go_wp2_with fail
      refine (HIH.out _ HB.out.drew).mono ?_
      rintro e w9 ⟨rfl, hb9⟩
      have x0 := (hb9.cell (p := ⟨w.heap.size, 0, none⟩) (World.block_lt_of_cell? _ _ k0)).trans k0
      have x1 := (hb9.cell (p := ⟨w.heap.size, 1, none⟩) (World.block_lt_of_cell? _ _ k1)).trans k1
      have x2 := (hb9.cell (p := ⟨w.heap.size + 1, 0, none⟩) (World.block_lt_of_cell? _ _ k2)).trans k2
      have x3 := (hb9.cell (p := ⟨w.heap.size + 1, 1, none⟩) (World.block_lt_of_cell? _ _ k3)).trans k3
      have x4 := (hb9.cell (p := ⟨b, o, none⟩) (World.block_lt_of_cell? _ _ c0)).trans c0
      go_wp2_with fail
      refine hK.out _ _ ⟨x0, x1, x2, x3, x4⟩ (fun hHeld => ?_)
      clear hK K
      refine wpAnyH_take (i := 16) (oi := { dst := some 8, op := Op.assign (Operand.tmp 86), type := 4, pos := "parts.go:211", after := #[{ on := 15, ground := Ground.data }, { on := 15, ground := Ground.chain }, { on := 0, ground := Ground.phase }, { on := 1, ground := Ground.phase }, { on := 2, ground := Ground.phase }, { on := 3, ground := Ground.phase }, { on := 4, ground := Ground.phase }, { on := 5, ground := Ground.phase }, { on := 6, ground := Ground.phase }, { on := 7, ground := Ground.phase }, { on := 8, ground := Ground.phase }, { on := 9, ground := Ground.phase }, { on := 10, ground := Ground.phase }, { on := 11, ground := Ground.phase }, { on := 12, ground := Ground.phase }, { on := 13, ground := Ground.phase }, { on := 14, ground := Ground.phase }, { on := 15, ground := Ground.phase }], guard := none }) (v := ?v32x16) rfl (by kernel_rfl) (by kernel_rfl) (by kernel_rfl) (fun _ _ _ h => h) (Or.inl ⟨by rfl, ?h32x16⟩) (by assumption) ?r32x16
      case h32x16 =>
        intro w' hSw
        (try dsimp only at hSw)
        go_simp
        first | done | with_reducible rfl | rfl
      (try simp only [Act.put, List.setIfInBounds_toArray, List.set_cons_zero, List.set_cons_succ])
      refine wpAnyH_done (by kernel_rfl) ?_ _
      have HBz := hideIt (HB.out.drew.trans (hb9.mono HB.out.size))
      clear hb9 hHeld
      go_wp2_with fail
      go_ret
      exact ⟨rfl, HBz.out⟩
  · subst hg
    rcases hpass with rfl | ⟨rfl, rfl⟩
    · go_wp2_with fail
      generalize ((w.alloc (.cells #[.int .u8 (m : Nat), .bool false] 60)).alloc (.cells #[.int .u8 (n : Nat), .bool f] 60)) = W0 at *
      refine wp_region_held_drew (S := (fun w' => w'.cell? ⟨w.heap.size, 0, none⟩ = some (.int .u8 (m : Nat)) ∧ w'.cell? ⟨w.heap.size, 1, none⟩ = some (.bool false) ∧ w'.cell? ⟨w.heap.size + 1, 0, none⟩ = some (.int .u8 (n : Nat)) ∧ w'.cell? ⟨w.heap.size + 1, 1, none⟩ = some (.bool f) ∧ w'.cell? ⟨b, o, none⟩ = some (.bool true))) (by kernel_rfl) ⟨k0, k1, k2, k3, c0⟩ (fun hHeld => ?_)
      refine wpAnyH_take (i := 0) (oi := { dst := some 71, op := Op.move (Operand.tmp 0), type := 23, pos := "parts.go:211", after := #[], guard := none }) (v := ?v33x0) rfl (by kernel_rfl) (by kernel_rfl) (by kernel_rfl) (fun _ _ _ h => h) (Or.inl ⟨by rfl, ?h33x0⟩) (by assumption) ?r33x0
      case h33x0 =>
        intro w' hSw
        (try dsimp only at hSw)
        go_simp
        first | done | with_reducible rfl | rfl
      (try simp only [Act.put, List.setIfInBounds_toArray, List.set_cons_zero, List.set_cons_succ])
      refine wpAnyH_take (i := 1) (oi := { dst := some 72, op := Op.move (Operand.tmp 1), type := 57, pos := "parts.go:211", after := #[], guard := none }) (v := ?v34x1) rfl (by kernel_rfl) (by kernel_rfl) (by kernel_rfl) (fun _ _ _ h => h) (Or.inl ⟨by rfl, ?h34x1⟩) (by assumption) ?r34x1
      case h34x1 =>
        intro w' hSw
        (try dsimp only at hSw)
        go_simp
        first | done | with_reducible rfl | rfl
      (try simp only [Act.put, List.setIfInBounds_toArray, List.set_cons_zero, List.set_cons_succ])
      refine wpAnyH_take (i := 2) (oi := { dst := some 73, op := Op.slice 57 (Operand.tmp 72) (some (Operand.const (Value.int IntKind.i64 1))) none none, type := 57, pos := "parts.go:211", after := #[{ on := 1, ground := Ground.data }], guard := none }) (v := ?v35x2) rfl (by kernel_rfl) (by kernel_rfl) (by kernel_rfl) (fun _ _ _ h => h) (Or.inl ⟨by rfl, ?h35x2⟩) (by assumption) ?r35x2
      case h35x2 =>
        intro w' hSw
        (try dsimp only at hSw)
        go_simp
        first | done | with_reducible rfl | rfl
      (try simp only [Act.put, List.setIfInBounds_toArray, List.set_cons_zero, List.set_cons_succ])
      refine wpAnyH_take (i := 3) (oi := { dst := some 74, op := Op.fieldAddr 60 (Operand.tmp 6) 0, type := 0, pos := "parts.go:211", after := #[], guard := none }) (v := ?v36x3) rfl (by kernel_rfl) (by kernel_rfl) (by kernel_rfl) (fun _ _ _ h => h) (Or.inl ⟨by rfl, ?h36x3⟩) (by assumption) ?r36x3
      case h36x3 =>
        intro w' hSw
        (try dsimp only at hSw)
        go_simp
        first | done | with_reducible rfl | rfl
      (try simp only [Act.put, List.setIfInBounds_toArray, List.set_cons_zero, List.set_cons_succ])
      refine wpAnyH_take (i := 4) (oi := { dst := some 75, op := Op.load 23 (Operand.tmp 74), type := 23, pos := "parts.go:211", after := #[{ on := 3, ground := Ground.data }], guard := none }) (v := ?v37x4) rfl (by kernel_rfl) (by kernel_rfl) (by kernel_rfl) (fun _ _ _ h => h) (Or.inl ⟨by rfl, ?h37x4⟩) (by assumption) ?r37x4
      case h37x4 =>
        intro w' hSw
        (try dsimp only at hSw)
        go_simp
        first | done | with_reducible rfl | rfl
      (try simp only [Act.put, List.setIfInBounds_toArray, List.set_cons_zero, List.set_cons_succ])
      refine wpAnyH_take (i := 5) (oi := { dst := some 76, op := Op.fieldAddr 60 (Operand.tmp 6) 1, type := 0, pos := "parts.go:211", after := #[], guard := none }) (v := ?v38x5) rfl (by kernel_rfl) (by kernel_rfl) (by kernel_rfl) (fun _ _ _ h => h) (Or.inl ⟨by rfl, ?h38x5⟩) (by assumption) ?r38x5
      case h38x5 =>
        intro w' hSw
        (try dsimp only at hSw)
        go_simp
        first | done | with_reducible rfl | rfl
      (try simp only [Act.put, List.setIfInBounds_toArray, List.set_cons_zero, List.set_cons_succ])
      refine wpAnyH_take (i := 6) (oi := { dst := some 77, op := Op.load 4 (Operand.tmp 76), type := 4, pos := "parts.go:211", after := #[{ on := 5, ground := Ground.data }], guard := none }) (v := ?v39x6) rfl (by kernel_rfl) (by kernel_rfl) (by kernel_rfl) (fun _ _ _ h => h) (Or.inl ⟨by rfl, ?h39x6⟩) (by assumption) ?r39x6
      case h39x6 =>
        intro w' hSw
        (try dsimp only at hSw)
        go_simp
        first | done | with_reducible rfl | rfl
      (try simp only [Act.put, List.setIfInBounds_toArray, List.set_cons_zero, List.set_cons_succ])
      refine wpAnyH_take (i := 7) (oi := { dst := some 78, op := Op.move (Operand.tmp 77), type := 4, pos := "parts.go:211", after := #[{ on := 6, ground := Ground.data }], guard := none }) (v := ?v40x7) rfl (by kernel_rfl) (by kernel_rfl) (by kernel_rfl) (fun _ _ _ h => h) (Or.inl ⟨by rfl, ?h40x7⟩) (by assumption) ?r40x7
      case h40x7 =>
        intro w' hSw
        (try dsimp only at hSw)
        go_simp
        first | done | with_reducible rfl | rfl
      (try simp only [Act.put, List.setIfInBounds_toArray, List.set_cons_zero, List.set_cons_succ])
      refine wpAnyH_take (i := 8) (oi := { dst := some 79, op := Op.move (Operand.tmp 1), type := 57, pos := "parts.go:211", after := #[{ on := 7, ground := Ground.guard }], guard := some (7, true) }) (v := undef) rfl (by kernel_rfl) (by kernel_rfl) (by kernel_rfl) (fun _ _ _ h => h) (Or.inr ⟨by rfl, rfl⟩) (by assumption) ?_
      (try simp only [Act.put, List.setIfInBounds_toArray, List.set_cons_zero, List.set_cons_succ])
      refine wpAnyH_take (i := 9) (oi := { dst := some 80, op := Op.indexAddr 57 (Operand.tmp 79) (Operand.const (Value.int IntKind.i64 0)), type := 0, pos := "parts.go:211", after := #[{ on := 8, ground := Ground.data }, { on := 7, ground := Ground.guard }], guard := some (7, true) }) (v := undef) rfl (by kernel_rfl) (by kernel_rfl) (by kernel_rfl) (fun _ _ _ h => h) (Or.inr ⟨by rfl, rfl⟩) (by assumption) ?_
      (try simp only [Act.put, List.setIfInBounds_toArray, List.set_cons_zero, List.set_cons_succ])
      refine wpAnyH_take (i := 10) (oi := { dst := some 81, op := Op.fieldAddr 53 (Operand.tmp 80) 0, type := 0, pos := "parts.go:211", after := #[{ on := 9, ground := Ground.data }, { on := 7, ground := Ground.guard }], guard := some (7, true) }) (v := undef) rfl (by kernel_rfl) (by kernel_rfl) (by kernel_rfl) (fun _ _ _ h => h) (Or.inr ⟨by rfl, rfl⟩) (by assumption) ?_
      (try simp only [Act.put, List.setIfInBounds_toArray, List.set_cons_zero, List.set_cons_succ])
      refine wpAnyH_take (i := 11) (oi := { dst := some 82, op := Op.load 4 (Operand.tmp 81), type := 4, pos := "parts.go:211", after := #[{ on := 10, ground := Ground.data }, { on := 7, ground := Ground.guard }], guard := some (7, true) }) (v := undef) rfl (by kernel_rfl) (by kernel_rfl) (by kernel_rfl) (fun _ _ _ h => h) (Or.inr ⟨by rfl, rfl⟩) (by assumption) ?_
      (try simp only [Act.put, List.setIfInBounds_toArray, List.set_cons_zero, List.set_cons_succ])
      refine wpAnyH_take (i := 12) (oi := { dst := some 83, op := Op.pick (Operand.tmp 78) (Operand.tmp 82) (Operand.const (Value.bool false)), type := 4, pos := "parts.go:211", after := #[{ on := 7, ground := Ground.data }, { on := 11, ground := Ground.data }], guard := none }) (v := ?v41x12) rfl (by kernel_rfl) (by kernel_rfl) (by kernel_rfl) (fun _ _ _ h => h) (Or.inl ⟨by rfl, ?h41x12⟩) (by assumption) ?r41x12
      case h41x12 =>
        intro w' hSw
        (try dsimp only at hSw)
        go_simp
        first | done | with_reducible rfl | rfl
      (try simp only [Act.put, List.setIfInBounds_toArray, List.set_cons_zero, List.set_cons_succ])
      refine wpAnyH_take (i := 13) (oi := { dst := some 84, op := Op.build 60 #[(0, Operand.tmp 75), (1, Operand.tmp 83)], type := 60, pos := "parts.go:211", after := #[{ on := 4, ground := Ground.data }, { on := 12, ground := Ground.data }], guard := none }) (v := ?v42x13) rfl (by kernel_rfl) (by kernel_rfl) (by kernel_rfl) (fun _ _ _ h => h) (Or.inl ⟨by rfl, ?h42x13⟩) (by assumption) ?r42x13
      case h42x13 =>
        intro w' hSw
        (try dsimp only at hSw)
        go_simp
        first | done | with_reducible rfl | rfl
      (try simp only [Act.put, List.setIfInBounds_toArray, List.set_cons_zero, List.set_cons_succ])
      refine wpAnyH_take (i := 14) (oi := { dst := some 85, op := Op.load 60 (Operand.tmp 7), type := 60, pos := "parts.go:211", after := #[], guard := none }) (v := ?v43x14) rfl (by kernel_rfl) (by kernel_rfl) (by kernel_rfl) (fun _ _ _ h => h) (Or.inl ⟨by rfl, ?h43x14⟩) (by assumption) ?r43x14
      case h43x14 =>
        intro w' hSw
        (try dsimp only at hSw)
        go_simp
        first | done | with_reducible rfl | rfl
      (try simp only [Act.put, List.setIfInBounds_toArray, List.set_cons_zero, List.set_cons_succ])
      refine wpAnyH_ready (rs := [15]) (by kernel_rfl) (by simp) (AllReadyH.cons rfl (fun K hK => ?_) AllReadyH.nil)
      go_simp
      go_wp2_with fail
      refine (HIH.out _ HB.out.drew).mono ?_
      rintro e w9 ⟨rfl, hb9⟩
      have x0 := (hb9.cell (p := ⟨w.heap.size, 0, none⟩) (World.block_lt_of_cell? _ _ k0)).trans k0
      have x1 := (hb9.cell (p := ⟨w.heap.size, 1, none⟩) (World.block_lt_of_cell? _ _ k1)).trans k1
      have x2 := (hb9.cell (p := ⟨w.heap.size + 1, 0, none⟩) (World.block_lt_of_cell? _ _ k2)).trans k2
      have x3 := (hb9.cell (p := ⟨w.heap.size + 1, 1, none⟩) (World.block_lt_of_cell? _ _ k3)).trans k3
      have x4 := (hb9.cell (p := ⟨b, o, none⟩) (World.block_lt_of_cell? _ _ c0)).trans c0
      go_wp2_with fail
      refine hK.out _ _ ⟨x0, x1, x2, x3, x4⟩ (fun hHeld => ?_)
      clear hK K
      refine wpAnyH_take (i := 16) (oi := { dst := some 8, op := Op.assign (Operand.tmp 86), type := 4, pos := "parts.go:211", after := #[{ on := 15, ground := Ground.data }, { on := 15, ground := Ground.chain }, { on := 0, ground := Ground.phase }, { on := 1, ground := Ground.phase }, { on := 2, ground := Ground.phase }, { on := 3, ground := Ground.phase }, { on := 4, ground := Ground.phase }, { on := 5, ground := Ground.phase }, { on := 6, ground := Ground.phase }, { on := 7, ground := Ground.phase }, { on := 8, ground := Ground.phase }, { on := 9, ground := Ground.phase }, { on := 10, ground := Ground.phase }, { on := 11, ground := Ground.phase }, { on := 12, ground := Ground.phase }, { on := 13, ground := Ground.phase }, { on := 14, ground := Ground.phase }, { on := 15, ground := Ground.phase }], guard := none }) (v := ?v44x16) rfl (by kernel_rfl) (by kernel_rfl) (by kernel_rfl) (fun _ _ _ h => h) (Or.inl ⟨by rfl, ?h44x16⟩) (by assumption) ?r44x16
      case h44x16 =>
        intro w' hSw
        (try dsimp only at hSw)
        go_simp
        first | done | with_reducible rfl | rfl
      (try simp only [Act.put, List.setIfInBounds_toArray, List.set_cons_zero, List.set_cons_succ])
      refine wpAnyH_done (by kernel_rfl) ?_ _
      have HBz := hideIt (HB.out.drew.trans (hb9.mono HB.out.size))
      clear hb9 hHeld
      go_wp2_with fail
      go_ret
      exact ⟨rfl, HBz.out⟩
    · go_wp2_with fail
      generalize ((w.alloc (.cells #[.int .u8 (m : Nat), .bool false] 60)).alloc (.cells #[.int .u8 (n : Nat), .bool f] 60)) = W0 at *
      refine wp_region_held_drew (S := (fun w' => w'.cell? ⟨w.heap.size, 0, none⟩ = some (.int .u8 (m : Nat)) ∧ w'.cell? ⟨w.heap.size, 1, none⟩ = some (.bool false) ∧ w'.cell? ⟨w.heap.size + 1, 0, none⟩ = some (.int .u8 (n : Nat)) ∧ w'.cell? ⟨w.heap.size + 1, 1, none⟩ = some (.bool f) ∧ w'.cell? ⟨b, o, none⟩ = some (.bool false))) (by kernel_rfl) ⟨k0, k1, k2, k3, c0⟩ (fun hHeld => ?_)
      refine wpAnyH_take (i := 0) (oi := { dst := some 71, op := Op.move (Operand.tmp 0), type := 23, pos := "parts.go:211", after := #[], guard := none }) (v := ?v45x0) rfl (by kernel_rfl) (by kernel_rfl) (by kernel_rfl) (fun _ _ _ h => h) (Or.inl ⟨by rfl, ?h45x0⟩) (by assumption) ?r45x0
      case h45x0 =>
        intro w' hSw
        (try dsimp only at hSw)
        go_simp
        first | done | with_reducible rfl | rfl
      (try simp only [Act.put, List.setIfInBounds_toArray, List.set_cons_zero, List.set_cons_succ])
      refine wpAnyH_take (i := 1) (oi := { dst := some 72, op := Op.move (Operand.tmp 1), type := 57, pos := "parts.go:211", after := #[], guard := none }) (v := ?v46x1) rfl (by kernel_rfl) (by kernel_rfl) (by kernel_rfl) (fun _ _ _ h => h) (Or.inl ⟨by rfl, ?h46x1⟩) (by assumption) ?r46x1
      case h46x1 =>
        intro w' hSw
        (try dsimp only at hSw)
        go_simp
        first | done | with_reducible rfl | rfl
      (try simp only [Act.put, List.setIfInBounds_toArray, List.set_cons_zero, List.set_cons_succ])
      refine wpAnyH_take (i := 2) (oi := { dst := some 73, op := Op.slice 57 (Operand.tmp 72) (some (Operand.const (Value.int IntKind.i64 1))) none none, type := 57, pos := "parts.go:211", after := #[{ on := 1, ground := Ground.data }], guard := none }) (v := ?v47x2) rfl (by kernel_rfl) (by kernel_rfl) (by kernel_rfl) (fun _ _ _ h => h) (Or.inl ⟨by rfl, ?h47x2⟩) (by assumption) ?r47x2
      case h47x2 =>
        intro w' hSw
        (try dsimp only at hSw)
        go_simp
        first | done | with_reducible rfl | rfl
      (try simp only [Act.put, List.setIfInBounds_toArray, List.set_cons_zero, List.set_cons_succ])
      refine wpAnyH_take (i := 3) (oi := { dst := some 74, op := Op.fieldAddr 60 (Operand.tmp 6) 0, type := 0, pos := "parts.go:211", after := #[], guard := none }) (v := ?v48x3) rfl (by kernel_rfl) (by kernel_rfl) (by kernel_rfl) (fun _ _ _ h => h) (Or.inl ⟨by rfl, ?h48x3⟩) (by assumption) ?r48x3
      case h48x3 =>
        intro w' hSw
        (try dsimp only at hSw)
        go_simp
        first | done | with_reducible rfl | rfl
      (try simp only [Act.put, List.setIfInBounds_toArray, List.set_cons_zero, List.set_cons_succ])
      refine wpAnyH_take (i := 4) (oi := { dst := some 75, op := Op.load 23 (Operand.tmp 74), type := 23, pos := "parts.go:211", after := #[{ on := 3, ground := Ground.data }], guard := none }) (v := ?v49x4) rfl (by kernel_rfl) (by kernel_rfl) (by kernel_rfl) (fun _ _ _ h => h) (Or.inl ⟨by rfl, ?h49x4⟩) (by assumption) ?r49x4
      case h49x4 =>
        intro w' hSw
        (try dsimp only at hSw)
        go_simp
        first | done | with_reducible rfl | rfl
      (try simp only [Act.put, List.setIfInBounds_toArray, List.set_cons_zero, List.set_cons_succ])
      refine wpAnyH_take (i := 5) (oi := { dst := some 76, op := Op.fieldAddr 60 (Operand.tmp 6) 1, type := 0, pos := "parts.go:211", after := #[], guard := none }) (v := ?v50x5) rfl (by kernel_rfl) (by kernel_rfl) (by kernel_rfl) (fun _ _ _ h => h) (Or.inl ⟨by rfl, ?h50x5⟩) (by assumption) ?r50x5
      case h50x5 =>
        intro w' hSw
        (try dsimp only at hSw)
        go_simp
        first | done | with_reducible rfl | rfl
      (try simp only [Act.put, List.setIfInBounds_toArray, List.set_cons_zero, List.set_cons_succ])
      refine wpAnyH_take (i := 6) (oi := { dst := some 77, op := Op.load 4 (Operand.tmp 76), type := 4, pos := "parts.go:211", after := #[{ on := 5, ground := Ground.data }], guard := none }) (v := ?v51x6) rfl (by kernel_rfl) (by kernel_rfl) (by kernel_rfl) (fun _ _ _ h => h) (Or.inl ⟨by rfl, ?h51x6⟩) (by assumption) ?r51x6
      case h51x6 =>
        intro w' hSw
        (try dsimp only at hSw)
        go_simp
        first | done | with_reducible rfl | rfl
      (try simp only [Act.put, List.setIfInBounds_toArray, List.set_cons_zero, List.set_cons_succ])
      refine wpAnyH_take (i := 7) (oi := { dst := some 78, op := Op.move (Operand.tmp 77), type := 4, pos := "parts.go:211", after := #[{ on := 6, ground := Ground.data }], guard := none }) (v := ?v52x7) rfl (by kernel_rfl) (by kernel_rfl) (by kernel_rfl) (fun _ _ _ h => h) (Or.inl ⟨by rfl, ?h52x7⟩) (by assumption) ?r52x7
      case h52x7 =>
        intro w' hSw
        (try dsimp only at hSw)
        go_simp
        first | done | with_reducible rfl | rfl
      (try simp only [Act.put, List.setIfInBounds_toArray, List.set_cons_zero, List.set_cons_succ])
      refine wpAnyH_take (i := 8) (oi := { dst := some 79, op := Op.move (Operand.tmp 1), type := 57, pos := "parts.go:211", after := #[{ on := 7, ground := Ground.guard }], guard := some (7, true) }) (v := undef) rfl (by kernel_rfl) (by kernel_rfl) (by kernel_rfl) (fun _ _ _ h => h) (Or.inr ⟨by rfl, rfl⟩) (by assumption) ?_
      (try simp only [Act.put, List.setIfInBounds_toArray, List.set_cons_zero, List.set_cons_succ])
      refine wpAnyH_take (i := 9) (oi := { dst := some 80, op := Op.indexAddr 57 (Operand.tmp 79) (Operand.const (Value.int IntKind.i64 0)), type := 0, pos := "parts.go:211", after := #[{ on := 8, ground := Ground.data }, { on := 7, ground := Ground.guard }], guard := some (7, true) }) (v := undef) rfl (by kernel_rfl) (by kernel_rfl) (by kernel_rfl) (fun _ _ _ h => h) (Or.inr ⟨by rfl, rfl⟩) (by assumption) ?_
      (try simp only [Act.put, List.setIfInBounds_toArray, List.set_cons_zero, List.set_cons_succ])
      refine wpAnyH_take (i := 10) (oi := { dst := some 81, op := Op.fieldAddr 53 (Operand.tmp 80) 0, type := 0, pos := "parts.go:211", after := #[{ on := 9, ground := Ground.data }, { on := 7, ground := Ground.guard }], guard := some (7, true) }) (v := undef) rfl (by kernel_rfl) (by kernel_rfl) (by kernel_rfl) (fun _ _ _ h => h) (Or.inr ⟨by rfl, rfl⟩) (by assumption) ?_
      (try simp only [Act.put, List.setIfInBounds_toArray, List.set_cons_zero, List.set_cons_succ])
      refine wpAnyH_take (i := 11) (oi := { dst := some 82, op := Op.load 4 (Operand.tmp 81), type := 4, pos := "parts.go:211", after := #[{ on := 10, ground := Ground.data }, { on := 7, ground := Ground.guard }], guard := some (7, true) }) (v := undef) rfl (by kernel_rfl) (by kernel_rfl) (by kernel_rfl) (fun _ _ _ h => h) (Or.inr ⟨by rfl, rfl⟩) (by assumption) ?_
      (try simp only [Act.put, List.setIfInBounds_toArray, List.set_cons_zero, List.set_cons_succ])
      refine wpAnyH_take (i := 12) (oi := { dst := some 83, op := Op.pick (Operand.tmp 78) (Operand.tmp 82) (Operand.const (Value.bool false)), type := 4, pos := "parts.go:211", after := #[{ on := 7, ground := Ground.data }, { on := 11, ground := Ground.data }], guard := none }) (v := ?v53x12) rfl (by kernel_rfl) (by kernel_rfl) (by kernel_rfl) (fun _ _ _ h => h) (Or.inl ⟨by rfl, ?h53x12⟩) (by assumption) ?r53x12
      case h53x12 =>
        intro w' hSw
        (try dsimp only at hSw)
        go_simp
        first | done | with_reducible rfl | rfl
      (try simp only [Act.put, List.setIfInBounds_toArray, List.set_cons_zero, List.set_cons_succ])
      refine wpAnyH_take (i := 13) (oi := { dst := some 84, op := Op.build 60 #[(0, Operand.tmp 75), (1, Operand.tmp 83)], type := 60, pos := "parts.go:211", after := #[{ on := 4, ground := Ground.data }, { on := 12, ground := Ground.data }], guard := none }) (v := ?v54x13) rfl (by kernel_rfl) (by kernel_rfl) (by kernel_rfl) (fun _ _ _ h => h) (Or.inl ⟨by rfl, ?h54x13⟩) (by assumption) ?r54x13
      case h54x13 =>
        intro w' hSw
        (try dsimp only at hSw)
        go_simp
        first | done | with_reducible rfl | rfl
      (try simp only [Act.put, List.setIfInBounds_toArray, List.set_cons_zero, List.set_cons_succ])
      refine wpAnyH_take (i := 14) (oi := { dst := some 85, op := Op.load 60 (Operand.tmp 7), type := 60, pos := "parts.go:211", after := #[], guard := none }) (v := ?v55x14) rfl (by kernel_rfl) (by kernel_rfl) (by kernel_rfl) (fun _ _ _ h => h) (Or.inl ⟨by rfl, ?h55x14⟩) (by assumption) ?r55x14
      case h55x14 =>
        intro w' hSw
        (try dsimp only at hSw)
        go_simp
        first | done | with_reducible rfl | rfl
      (try simp only [Act.put, List.setIfInBounds_toArray, List.set_cons_zero, List.set_cons_succ])
      refine wpAnyH_ready (rs := [15]) (by kernel_rfl) (by simp) (AllReadyH.cons rfl (fun K hK => ?_) AllReadyH.nil)
      go_simp
      go_wp2_with fail
      refine (HIH.out _ HB.out.drew).mono ?_
      rintro e w9 ⟨rfl, hb9⟩
      have x0 := (hb9.cell (p := ⟨w.heap.size, 0, none⟩) (World.block_lt_of_cell? _ _ k0)).trans k0
      have x1 := (hb9.cell (p := ⟨w.heap.size, 1, none⟩) (World.block_lt_of_cell? _ _ k1)).trans k1
      have x2 := (hb9.cell (p := ⟨w.heap.size + 1, 0, none⟩) (World.block_lt_of_cell? _ _ k2)).trans k2
      have x3 := (hb9.cell (p := ⟨w.heap.size + 1, 1, none⟩) (World.block_lt_of_cell? _ _ k3)).trans k3
      have x4 := (hb9.cell (p := ⟨b, o, none⟩) (World.block_lt_of_cell? _ _ c0)).trans c0
      go_wp2_with fail
      refine hK.out _ _ ⟨x0, x1, x2, x3, x4⟩ (fun hHeld => ?_)
      clear hK K
      refine wpAnyH_take (i := 16) (oi := { dst := some 8, op := Op.assign (Operand.tmp 86), type := 4, pos := "parts.go:211", after := #[{ on := 15, ground := Ground.data }, { on := 15, ground := Ground.chain }, { on := 0, ground := Ground.phase }, { on := 1, ground := Ground.phase }, { on := 2, ground := Ground.phase }, { on := 3, ground := Ground.phase }, { on := 4, ground := Ground.phase }, { on := 5, ground := Ground.phase }, { on := 6, ground := Ground.phase }, { on := 7, ground := Ground.phase }, { on := 8, ground := Ground.phase }, { on := 9, ground := Ground.phase }, { on := 10, ground := Ground.phase }, { on := 11, ground := Ground.phase }, { on := 12, ground := Ground.phase }, { on := 13, ground := Ground.phase }, { on := 14, ground := Ground.phase }, { on := 15, ground := Ground.phase }], guard := none }) (v := ?v56x16) rfl (by kernel_rfl) (by kernel_rfl) (by kernel_rfl) (fun _ _ _ h => h) (Or.inl ⟨by rfl, ?h56x16⟩) (by assumption) ?r56x16
      case h56x16 =>
        intro w' hSw
        (try dsimp only at hSw)
        go_simp
        first | done | with_reducible rfl | rfl
      (try simp only [Act.put, List.setIfInBounds_toArray, List.set_cons_zero, List.set_cons_succ])
      refine wpAnyH_done (by kernel_rfl) ?_ _
      have HBz := hideIt (HB.out.drew.trans (hb9.mono HB.out.size))
      clear hb9 hHeld
      go_wp2_with fail
      go_ret
      exact ⟨rfl, HBz.out⟩
set_option maxRecDepth 100000 in
set_option maxHeartbeats 4000000 in
theorem combine_loop (nodes : Nat) (b o r c : Nat) (a1 : Option Addr) (ha1 : (if c = 1 then some (⟨b, o, none⟩ : Addr) else some ⟨b, o + 2, none⟩) = a1) (u : Value) (hs : List Hi) (m : Nat) (g : Bool) (n : Nat) (f : Bool) (w : World) (hm : m < 256) (h0 : m ≠ 0) (hr : r ≤ 4)
    (hc0 : w.cell? ⟨b, o, none⟩ = some (.bool false)) (hc1 : w.cell? ⟨b, o + 1, none⟩ = some u) (hu : HintsAt w u hs) (hlow : Low hs) (hl2 : hs.length ≤ 16) (hpos : 0 < hs.length)
    (IH : ∀ k, k < hs.length → ∀ W, Below w.heap.size w W → Calls Try.prog 38 #[.int .u8 nodes, .slice a1 r (c - 1), .agg #[.int .u8 ((m &&& (hs.getD k (0, false)).1 : Nat) : Int), .bool (g && (hs.getD k (0, false)).2)], .agg #[.int .u8 (n : Nat), .bool f]] W fun e w' => CTrue W e w') :
    Calls Try.prog 38 #[.int .u8 nodes, .slice (some ⟨b, o, none⟩) (r + 1) c, .agg #[.int .u8 (m : Nat), .bool g], .agg #[.int .u8 (n : Nat), .bool f]] w fun e w' => CTrue w e w' := by
  have HB := hideIt (cBelow w m g n f)
  have HC := hideIt (cCells w m g n f)
  have hz : ((m : Int) == 0) = false := by rw [beq_eq_false_iff_ne]; omega
  obtain ⟨ao2, c2, rfl, hcs⟩ := hu.form
  obtain ⟨b2, o2, rfl, hbl2, hcs⟩ := hcs hpos
  have HCs := hideIt hcs
  have HLo := hideIt hlow
  have hbw := World.block_lt_of_cell? _ _ hc0
  have c0 := (HB.out.cell (p := ⟨b, o, none⟩) (World.block_lt_of_cell? _ _ hc0)).trans hc0
  have c1 := (HB.out.cell (p := ⟨b, o + 1, none⟩) (World.block_lt_of_cell? _ _ hc1)).trans hc1
  have HIH := hideIt IH
  have h1r : (1 : Int) ≤ (r : Int) + 1 := by omega
  have hne : ((hs.length : Int) == 0) = false := by rw [beq_eq_false_iff_ne]; omega
  have hSz : (cWorld w m g n f).heap.size = w.heap.size + 2 := by simp
  clear IH hc0 hc1 hu hcs hlow
  unfold cWorld at *
  go_enter Try.func38, Try.ntmps38
  obtain ⟨k0, k1, k2, k3⟩ := HC.out
  clear HC
  go_wp2_with fail
  generalize ((w.alloc (.cells #[.int .u8 (m : Nat), .bool g] 60)).alloc (.cells #[.int .u8 (n : Nat), .bool f] 60)) = W0 at *
  have HK := hideIt (And.intro k0 (And.intro k1 (And.intro k2 (And.intro k3 (And.intro c0 c1)))))
  clear k0 k1 k2 k3 c0 c1
  go_loopw [10] (fun i wr => ∃ k : Nat, k ≤ hs.length ∧ i = .int .i64 k ∧ Hid (Below (w.heap.size + 2) W0 wr)) (fun i _ => hs.length - (intOf i).toNat)
  case atStart => exact ⟨0, by omega, rfl, Below.refl _ _⟩
  case round =>
    obtain ⟨k, hk, rfl, HBr⟩ := hrel
    obtain ⟨k0, k1, k2, k3, c0, c1⟩ := HK.out
    have hszr : w.heap.size + 2 ≤ wr.heap.size := Nat.le_trans (Nat.le_of_eq hSz.symm) HBr.out.size
    replace c0 := (HBr.out.cell (p := ⟨b, o, none⟩) (by show b < w.heap.size + 2; exact Nat.lt_of_lt_of_le hbw (by omega))).trans c0
    replace c1 := (HBr.out.cell (p := ⟨b, o + 1, none⟩) (by show b < w.heap.size + 2; exact Nat.lt_of_lt_of_le hbw (by omega))).trans c1
    replace k0 := (HBr.out.cell (p := ⟨w.heap.size, 0, none⟩) (by show w.heap.size < w.heap.size + 2; omega)).trans k0
    replace k1 := (HBr.out.cell (p := ⟨w.heap.size, 1, none⟩) (by show w.heap.size < w.heap.size + 2; omega)).trans k1
    replace k2 := (HBr.out.cell (p := ⟨w.heap.size + 1, 0, none⟩) (by show w.heap.size + 1 < w.heap.size + 2; omega)).trans k2
    replace k3 := (HBr.out.cell (p := ⟨w.heap.size + 1, 1, none⟩) (by show w.heap.size + 1 < w.heap.size + 2; omega)).trans k3
    by_cases hlt : k < hs.length
    · obtain ⟨d0, d1⟩ := HCs.out k hlt
      replace d0 := (HBr.out.cell (p := ⟨b2, o2 + k * 2, none⟩) (by show b2 < w.heap.size + 2; omega)).trans ((HB.out.cell (p := ⟨b2, o2 + k * 2, none⟩) hbl2).trans d0)
      replace d1 := (HBr.out.cell (p := ⟨b2, o2 + k * 2 + 1, none⟩) (by show b2 < w.heap.size + 2; omega)).trans ((HB.out.cell (p := ⟨b2, o2 + k * 2 + 1, none⟩) hbl2).trans d1)
      have HI := hideIt (HIH.out k hlt)
      have hp := HLo.out _ (Ost.getD_mem hs (0, false) k hlt)
      generalize hs.getD k (0, false) = x at *
      obtain ⟨p, q⟩ := x
      simp only at d0 d1 hp HI
      have hand := and8' m p hm hp
      have HX := hideIt ((Below.refl wr.heap.size wr).alloc (Nat.le_refl _) (.cells #[.int .u8 (p : Nat), .bool q] 60))
      have HBa := hideIt (HBr.out.trans (HX.out.mono hszr))
      have e0 := cell_alloc k0 (.cells #[.int .u8 (p : Nat), .bool q] 60)
      have e1 := cell_alloc k1 (.cells #[.int .u8 (p : Nat), .bool q] 60)
      have e2 := cell_alloc k2 (.cells #[.int .u8 (p : Nat), .bool q] 60)
      have e3 := cell_alloc k3 (.cells #[.int .u8 (p : Nat), .bool q] 60)
      have e4 : (wr.alloc (.cells #[.int .u8 (p : Nat), .bool q] 60)).cell? ⟨wr.heap.size, 0, none⟩ = some (.int .u8 (p : Nat)) := by simp
      have e5 : (wr.alloc (.cells #[.int .u8 (p : Nat), .bool q] 60)).cell? ⟨wr.heap.size, 1, none⟩ = some (.bool q) := by simp
      clear HBr
      go_wp2_with fail
      clear k0 k1 k2 k3 c0 c1 d0 d1 HX
      generalize wr.heap.size = L at *
      generalize wr.alloc (.cells #[.int .u8 (p : Nat), .bool q] 60) = W1 at *
      have HBb := hideIt (HB.out.trans (HBa.out.mono (by omega)))
      rcases two g with hg | hg
      · subst hg
        refine wp_region_held_drew (S := (fun w' => w'.cell? ⟨w.heap.size, 0, none⟩ = some (.int .u8 (m : Nat)) ∧ w'.cell? ⟨w.heap.size, 1, none⟩ = some (.bool true) ∧ w'.cell? ⟨w.heap.size + 1, 0, none⟩ = some (.int .u8 (n : Nat)) ∧ w'.cell? ⟨w.heap.size + 1, 1, none⟩ = some (.bool f) ∧ w'.cell? ⟨L, 0, none⟩ = some (.int .u8 (p : Nat)) ∧ w'.cell? ⟨L, 1, none⟩ = some (.bool q))) (by kernel_rfl) ⟨e0, e1, e2, e3, e4, e5⟩ (fun hHeld => ?_)
        refine wpAnyH_take (i := 0) (oi := { dst := some 103, op := Op.move (Operand.tmp 0), type := 23, pos := "parts.go:215", after := #[], guard := none }) (v := ?v57x0) rfl (by kernel_rfl) (by kernel_rfl) (by kernel_rfl) (fun _ _ _ h => h) (Or.inl ⟨by rfl, ?h57x0⟩) (by assumption) ?r57x0
        case h57x0 =>
          intro w' hSw
          (try dsimp only at hSw)
          go_simp
          first | done | with_reducible rfl | rfl
        (try simp only [Act.put, List.setIfInBounds_toArray, List.set_cons_zero, List.set_cons_succ])
        refine wpAnyH_take (i := 1) (oi := { dst := some 104, op := Op.move (Operand.tmp 1), type := 57, pos := "parts.go:215", after := #[], guard := none }) (v := ?v58x1) rfl (by kernel_rfl) (by kernel_rfl) (by kernel_rfl) (fun _ _ _ h => h) (Or.inl ⟨by rfl, ?h58x1⟩) (by assumption) ?r58x1
        case h58x1 =>
          intro w' hSw
          (try dsimp only at hSw)
          go_simp
          first | done | with_reducible rfl | rfl
        (try simp only [Act.put, List.setIfInBounds_toArray, List.set_cons_zero, List.set_cons_succ])
        refine wpAnyH_take (i := 2) (oi := { dst := some 105, op := Op.slice 57 (Operand.tmp 104) (some (Operand.const (Value.int IntKind.i64 1))) none none, type := 57, pos := "parts.go:215", after := #[{ on := 1, ground := Ground.data }], guard := none }) (v := ?v59x2) rfl (by kernel_rfl) (by kernel_rfl) (by kernel_rfl) (fun _ _ _ h => h) (Or.inl ⟨by rfl, ?h59x2⟩) (by assumption) ?r59x2
        case h59x2 =>
          intro w' hSw
          (try dsimp only at hSw)
          go_simp
          first | done | with_reducible rfl | rfl
        (try simp only [Act.put, List.setIfInBounds_toArray, List.set_cons_zero, List.set_cons_succ])
        refine wpAnyH_take (i := 3) (oi := { dst := some 106, op := Op.fieldAddr 60 (Operand.tmp 6) 0, type := 0, pos := "parts.go:215", after := #[], guard := none }) (v := ?v60x3) rfl (by kernel_rfl) (by kernel_rfl) (by kernel_rfl) (fun _ _ _ h => h) (Or.inl ⟨by rfl, ?h60x3⟩) (by assumption) ?r60x3
        case h60x3 =>
          intro w' hSw
          (try dsimp only at hSw)
          go_simp
          first | done | with_reducible rfl | rfl
        (try simp only [Act.put, List.setIfInBounds_toArray, List.set_cons_zero, List.set_cons_succ])
        refine wpAnyH_take (i := 4) (oi := { dst := some 107, op := Op.load 23 (Operand.tmp 106), type := 23, pos := "parts.go:215", after := #[{ on := 3, ground := Ground.data }], guard := none }) (v := ?v61x4) rfl (by kernel_rfl) (by kernel_rfl) (by kernel_rfl) (fun _ _ _ h => h) (Or.inl ⟨by rfl, ?h61x4⟩) (by assumption) ?r61x4
        case h61x4 =>
          intro w' hSw
          (try dsimp only at hSw)
          go_simp
          first | done | with_reducible rfl | rfl
        (try simp only [Act.put, List.setIfInBounds_toArray, List.set_cons_zero, List.set_cons_succ])
        refine wpAnyH_take (i := 5) (oi := { dst := some 108, op := Op.fieldAddr 60 (Operand.tmp 11) 0, type := 0, pos := "parts.go:215", after := #[], guard := none }) (v := ?v62x5) rfl (by kernel_rfl) (by kernel_rfl) (by kernel_rfl) (fun _ _ _ h => h) (Or.inl ⟨by rfl, ?h62x5⟩) (by assumption) ?r62x5
        case h62x5 =>
          intro w' hSw
          (try dsimp only at hSw)
          go_simp
          first | done | with_reducible rfl | rfl
        (try simp only [Act.put, List.setIfInBounds_toArray, List.set_cons_zero, List.set_cons_succ])
        refine wpAnyH_take (i := 6) (oi := { dst := some 109, op := Op.load 23 (Operand.tmp 108), type := 23, pos := "parts.go:215", after := #[{ on := 5, ground := Ground.data }], guard := none }) (v := ?v63x6) rfl (by kernel_rfl) (by kernel_rfl) (by kernel_rfl) (fun _ _ _ h => h) (Or.inl ⟨by rfl, ?h63x6⟩) (by assumption) ?r63x6
        case h63x6 =>
          intro w' hSw
          (try dsimp only at hSw)
          go_simp
          first | done | with_reducible rfl | rfl
        (try simp only [Act.put, List.setIfInBounds_toArray, List.set_cons_zero, List.set_cons_succ])
        refine wpAnyH_take (i := 7) (oi := { dst := some 110, op := Op.binOp BinOp.and 23 (Operand.tmp 107) (Operand.tmp 109) 23, type := 23, pos := "parts.go:215", after := #[{ on := 4, ground := Ground.data }, { on := 6, ground := Ground.data }], guard := none }) (v := ?v64x7) rfl (by kernel_rfl) (by kernel_rfl) (by kernel_rfl) (fun _ _ _ h => h) (Or.inl ⟨by rfl, ?h64x7⟩) (by assumption) ?r64x7
        case h64x7 =>
          intro w' hSw
          (try dsimp only at hSw)
          go_simp
          first | done | with_reducible rfl | rfl
        (try simp only [Act.put, List.setIfInBounds_toArray, List.set_cons_zero, List.set_cons_succ])
        refine wpAnyH_take (i := 8) (oi := { dst := some 111, op := Op.fieldAddr 60 (Operand.tmp 6) 1, type := 0, pos := "parts.go:215", after := #[], guard := none }) (v := ?v65x8) rfl (by kernel_rfl) (by kernel_rfl) (by kernel_rfl) (fun _ _ _ h => h) (Or.inl ⟨by rfl, ?h65x8⟩) (by assumption) ?r65x8
        case h65x8 =>
          intro w' hSw
          (try dsimp only at hSw)
          go_simp
          first | done | with_reducible rfl | rfl
        (try simp only [Act.put, List.setIfInBounds_toArray, List.set_cons_zero, List.set_cons_succ])
        refine wpAnyH_take (i := 9) (oi := { dst := some 112, op := Op.load 4 (Operand.tmp 111), type := 4, pos := "parts.go:215", after := #[{ on := 8, ground := Ground.data }], guard := none }) (v := ?v66x9) rfl (by kernel_rfl) (by kernel_rfl) (by kernel_rfl) (fun _ _ _ h => h) (Or.inl ⟨by rfl, ?h66x9⟩) (by assumption) ?r66x9
        case h66x9 =>
          intro w' hSw
          (try dsimp only at hSw)
          go_simp
          first | done | with_reducible rfl | rfl
        (try simp only [Act.put, List.setIfInBounds_toArray, List.set_cons_zero, List.set_cons_succ])
        refine wpAnyH_take (i := 10) (oi := { dst := some 113, op := Op.move (Operand.tmp 112), type := 4, pos := "parts.go:215", after := #[{ on := 9, ground := Ground.data }], guard := none }) (v := ?v67x10) rfl (by kernel_rfl) (by kernel_rfl) (by kernel_rfl) (fun _ _ _ h => h) (Or.inl ⟨by rfl, ?h67x10⟩) (by assumption) ?r67x10
        case h67x10 =>
          intro w' hSw
          (try dsimp only at hSw)
          go_simp
          first | done | with_reducible rfl | rfl
        (try simp only [Act.put, List.setIfInBounds_toArray, List.set_cons_zero, List.set_cons_succ])
        refine wpAnyH_take (i := 11) (oi := { dst := some 114, op := Op.fieldAddr 60 (Operand.tmp 11) 1, type := 0, pos := "parts.go:215", after := #[{ on := 10, ground := Ground.guard }], guard := some (10, true) }) (v := ?v68x11) rfl (by kernel_rfl) (by kernel_rfl) (by kernel_rfl) (fun _ _ _ h => h) (Or.inl ⟨by rfl, ?h68x11⟩) (by assumption) ?r68x11
        case h68x11 =>
          intro w' hSw
          (try dsimp only at hSw)
          go_simp
          first | done | with_reducible rfl | rfl
        (try simp only [Act.put, List.setIfInBounds_toArray, List.set_cons_zero, List.set_cons_succ])
        refine wpAnyH_take (i := 12) (oi := { dst := some 115, op := Op.load 4 (Operand.tmp 114), type := 4, pos := "parts.go:215", after := #[{ on := 11, ground := Ground.data }, { on := 10, ground := Ground.guard }], guard := some (10, true) }) (v := ?v69x12) rfl (by kernel_rfl) (by kernel_rfl) (by kernel_rfl) (fun _ _ _ h => h) (Or.inl ⟨by rfl, ?h69x12⟩) (by assumption) ?r69x12
        case h69x12 =>
          intro w' hSw
          (try dsimp only at hSw)
          go_simp
          first | done | with_reducible rfl | rfl
        (try simp only [Act.put, List.setIfInBounds_toArray, List.set_cons_zero, List.set_cons_succ])
        refine wpAnyH_take (i := 13) (oi := { dst := some 116, op := Op.pick (Operand.tmp 113) (Operand.tmp 115) (Operand.const (Value.bool false)), type := 4, pos := "parts.go:215", after := #[{ on := 10, ground := Ground.data }, { on := 12, ground := Ground.data }], guard := none }) (v := ?v70x13) rfl (by kernel_rfl) (by kernel_rfl) (by kernel_rfl) (fun _ _ _ h => h) (Or.inl ⟨by rfl, ?h70x13⟩) (by assumption) ?r70x13
        case h70x13 =>
          intro w' hSw
          (try dsimp only at hSw)
          go_simp
          first | done | with_reducible rfl | rfl
        (try simp only [Act.put, List.setIfInBounds_toArray, List.set_cons_zero, List.set_cons_succ])
        refine wpAnyH_take (i := 14) (oi := { dst := some 117, op := Op.build 60 #[(0, Operand.tmp 110), (1, Operand.tmp 116)], type := 60, pos := "parts.go:215", after := #[{ on := 7, ground := Ground.data }, { on := 13, ground := Ground.data }], guard := none }) (v := ?v71x14) rfl (by kernel_rfl) (by kernel_rfl) (by kernel_rfl) (fun _ _ _ h => h) (Or.inl ⟨by rfl, ?h71x14⟩) (by assumption) ?r71x14
        case h71x14 =>
          intro w' hSw
          (try dsimp only at hSw)
          go_simp
          first | done | with_reducible rfl | rfl
        (try simp only [Act.put, List.setIfInBounds_toArray, List.set_cons_zero, List.set_cons_succ])
        refine wpAnyH_take (i := 15) (oi := { dst := some 118, op := Op.load 60 (Operand.tmp 7), type := 60, pos := "parts.go:215", after := #[], guard := none }) (v := ?v72x15) rfl (by kernel_rfl) (by kernel_rfl) (by kernel_rfl) (fun _ _ _ h => h) (Or.inl ⟨by rfl, ?h72x15⟩) (by assumption) ?r72x15
        case h72x15 =>
          intro w' hSw
          (try dsimp only at hSw)
          go_simp
          first | done | with_reducible rfl | rfl
        (try simp only [Act.put, List.setIfInBounds_toArray, List.set_cons_zero, List.set_cons_succ])
        refine wpAnyH_ready (rs := [16]) (by kernel_rfl) (by simp) (AllReadyH.cons rfl (fun K hK => ?_) AllReadyH.nil)
        go_simp
        go_wp2_with fail
        refine (HI.out _ HBb.out.drew).mono ?_
        rintro e w9 ⟨rfl, hb9⟩
        have x0 := (hb9.cell (p := ⟨w.heap.size, 0, none⟩) (World.block_lt_of_cell? _ _ e0)).trans e0
        have x1 := (hb9.cell (p := ⟨w.heap.size, 1, none⟩) (World.block_lt_of_cell? _ _ e1)).trans e1
        have x2 := (hb9.cell (p := ⟨w.heap.size + 1, 0, none⟩) (World.block_lt_of_cell? _ _ e2)).trans e2
        have x3 := (hb9.cell (p := ⟨w.heap.size + 1, 1, none⟩) (World.block_lt_of_cell? _ _ e3)).trans e3
        have x4 := (hb9.cell (p := ⟨L, 0, none⟩) (World.block_lt_of_cell? _ _ e4)).trans e4
        have x5 := (hb9.cell (p := ⟨L, 1, none⟩) (World.block_lt_of_cell? _ _ e5)).trans e5
        go_wp2_with fail
        refine hK.out _ _ ⟨x0, x1, x2, x3, x4, x5⟩ (fun hHeld => ?_)
        clear hK K
        refine wpAnyH_take (i := 17) (oi := { dst := some 12, op := Op.assign (Operand.tmp 119), type := 4, pos := "parts.go:215", after := #[{ on := 16, ground := Ground.data }, { on := 16, ground := Ground.chain }, { on := 0, ground := Ground.phase }, { on := 1, ground := Ground.phase }, { on := 2, ground := Ground.phase }, { on := 3, ground := Ground.phase }, { on := 4, ground := Ground.phase }, { on := 5, ground := Ground.phase }, { on := 6, ground := Ground.phase }, { on := 7, ground := Ground.phase }, { on := 8, ground := Ground.phase }, { on := 9, ground := Ground.phase }, { on := 10, ground := Ground.phase }, { on := 11, ground := Ground.phase }, { on := 12, ground := Ground.phase }, { on := 13, ground := Ground.phase }, { on := 14, ground := Ground.phase }, { on := 15, ground := Ground.phase }, { on := 16, ground := Ground.phase }], guard := none }) (v := ?v73x17) rfl (by kernel_rfl) (by kernel_rfl) (by kernel_rfl) (fun _ _ _ h => h) (Or.inl ⟨by rfl, ?h73x17⟩) (by assumption) ?r73x17
        case h73x17 =>
          intro w' hSw
          (try dsimp only at hSw)
          go_simp
          first | done | with_reducible rfl | rfl
        (try simp only [Act.put, List.setIfInBounds_toArray, List.set_cons_zero, List.set_cons_succ])
        refine wpAnyH_done (by kernel_rfl) ?_ _
        have HBz := hideIt (HBa.out.drew.trans (hb9.mono (Nat.le_trans (Nat.le_of_eq hSz.symm) HBa.out.size)))
        clear hb9 hHeld
        go_wp2_with fail
        go_roundw
        case rel => exact ⟨k + 1, by omega, by go_num, HBz.out⟩
        case measure => simp [intOf]; omega
      · subst hg
        refine wp_region_held_drew (S := (fun w' => w'.cell? ⟨w.heap.size, 0, none⟩ = some (.int .u8 (m : Nat)) ∧ w'.cell? ⟨w.heap.size, 1, none⟩ = some (.bool false) ∧ w'.cell? ⟨w.heap.size + 1, 0, none⟩ = some (.int .u8 (n : Nat)) ∧ w'.cell? ⟨w.heap.size + 1, 1, none⟩ = some (.bool f) ∧ w'.cell? ⟨L, 0, none⟩ = some (.int .u8 (p : Nat)) ∧ w'.cell? ⟨L, 1, none⟩ = some (.bool q))) (by kernel_rfl) ⟨e0, e1, e2, e3, e4, e5⟩ (fun hHeld => ?_)
        refine wpAnyH_take (i := 0) (oi := { dst := some 103, op := Op.move (Operand.tmp 0), type := 23, pos := "parts.go:215", after := #[], guard := none }) (v := ?v74x0) rfl (by kernel_rfl) (by kernel_rfl) (by kernel_rfl) (fun _ _ _ h => h) (Or.inl ⟨by rfl, ?h74x0⟩) (by assumption) ?r74x0
        case h74x0 =>
          intro w' hSw
          (try dsimp only at hSw)
          go_simp
          first | done | with_reducible rfl | rfl
        (try simp only [Act.put, List.setIfInBounds_toArray, List.set_cons_zero, List.set_cons_succ])
        refine wpAnyH_take (i := 1) (oi := { dst := some 104, op := Op.move (Operand.tmp 1), type := 57, pos := "parts.go:215", after := #[], guard := none }) (v := ?v75x1) rfl (by kernel_rfl) (by kernel_rfl) (by kernel_rfl) (fun _ _ _ h => h) (Or.inl ⟨by rfl, ?h75x1⟩) (by assumption) ?r75x1
        case h75x1 =>
          intro w' hSw
          (try dsimp only at hSw)
          go_simp
          first | done | with_reducible rfl | rfl
        (try simp only [Act.put, List.setIfInBounds_toArray, List.set_cons_zero, List.set_cons_succ])
        refine wpAnyH_take (i := 2) (oi := { dst := some 105, op := Op.slice 57 (Operand.tmp 104) (some (Operand.const (Value.int IntKind.i64 1))) none none, type := 57, pos := "parts.go:215", after := #[{ on := 1, ground := Ground.data }], guard := none }) (v := ?v76x2) rfl (by kernel_rfl) (by kernel_rfl) (by kernel_rfl) (fun _ _ _ h => h) (Or.inl ⟨by rfl, ?h76x2⟩) (by assumption) ?r76x2
        case h76x2 =>
          intro w' hSw
          (try dsimp only at hSw)
          go_simp
          first | done | with_reducible rfl | rfl
        (try simp only [Act.put, List.setIfInBounds_toArray, List.set_cons_zero, List.set_cons_succ])
        refine wpAnyH_take (i := 3) (oi := { dst := some 106, op := Op.fieldAddr 60 (Operand.tmp 6) 0, type := 0, pos := "parts.go:215", after := #[], guard := none }) (v := ?v77x3) rfl (by kernel_rfl) (by kernel_rfl) (by kernel_rfl) (fun _ _ _ h => h) (Or.inl ⟨by rfl, ?h77x3⟩) (by assumption) ?r77x3
        case h77x3 =>
          intro w' hSw
          (try dsimp only at hSw)
          go_simp
          first | done | with_reducible rfl | rfl
        (try simp only [Act.put, List.setIfInBounds_toArray, List.set_cons_zero, List.set_cons_succ])
        refine wpAnyH_take (i := 4) (oi := { dst := some 107, op := Op.load 23 (Operand.tmp 106), type := 23, pos := "parts.go:215", after := #[{ on := 3, ground := Ground.data }], guard := none }) (v := ?v78x4) rfl (by kernel_rfl) (by kernel_rfl) (by kernel_rfl) (fun _ _ _ h => h) (Or.inl ⟨by rfl, ?h78x4⟩) (by assumption) ?r78x4
        case h78x4 =>
          intro w' hSw
          (try dsimp only at hSw)
          go_simp
          first | done | with_reducible rfl | rfl
        (try simp only [Act.put, List.setIfInBounds_toArray, List.set_cons_zero, List.set_cons_succ])
        refine wpAnyH_take (i := 5) (oi := { dst := some 108, op := Op.fieldAddr 60 (Operand.tmp 11) 0, type := 0, pos := "parts.go:215", after := #[], guard := none }) (v := ?v79x5) rfl (by kernel_rfl) (by kernel_rfl) (by kernel_rfl) (fun _ _ _ h => h) (Or.inl ⟨by rfl, ?h79x5⟩) (by assumption) ?r79x5
        case h79x5 =>
          intro w' hSw
          (try dsimp only at hSw)
          go_simp
          first | done | with_reducible rfl | rfl
        (try simp only [Act.put, List.setIfInBounds_toArray, List.set_cons_zero, List.set_cons_succ])
        refine wpAnyH_take (i := 6) (oi := { dst := some 109, op := Op.load 23 (Operand.tmp 108), type := 23, pos := "parts.go:215", after := #[{ on := 5, ground := Ground.data }], guard := none }) (v := ?v80x6) rfl (by kernel_rfl) (by kernel_rfl) (by kernel_rfl) (fun _ _ _ h => h) (Or.inl ⟨by rfl, ?h80x6⟩) (by assumption) ?r80x6
        case h80x6 =>
          intro w' hSw
          (try dsimp only at hSw)
          go_simp
          first | done | with_reducible rfl | rfl
        (try simp only [Act.put, List.setIfInBounds_toArray, List.set_cons_zero, List.set_cons_succ])
        refine wpAnyH_take (i := 7) (oi := { dst := some 110, op := Op.binOp BinOp.and 23 (Operand.tmp 107) (Operand.tmp 109) 23, type := 23, pos := "parts.go:215", after := #[{ on := 4, ground := Ground.data }, { on := 6, ground := Ground.data }], guard := none }) (v := ?v81x7) rfl (by kernel_rfl) (by kernel_rfl) (by kernel_rfl) (fun _ _ _ h => h) (Or.inl ⟨by rfl, ?h81x7⟩) (by assumption) ?r81x7
        case h81x7 =>
          intro w' hSw
          (try dsimp only at hSw)
          go_simp
          first | done | with_reducible rfl | rfl
        (try simp only [Act.put, List.setIfInBounds_toArray, List.set_cons_zero, List.set_cons_succ])
        refine wpAnyH_take (i := 8) (oi := { dst := some 111, op := Op.fieldAddr 60 (Operand.tmp 6) 1, type := 0, pos := "parts.go:215", after := #[], guard := none }) (v := ?v82x8) rfl (by kernel_rfl) (by kernel_rfl) (by kernel_rfl) (fun _ _ _ h => h) (Or.inl ⟨by rfl, ?h82x8⟩) (by assumption) ?r82x8
        case h82x8 =>
          intro w' hSw
          (try dsimp only at hSw)
          go_simp
          first | done | with_reducible rfl | rfl
        (try simp only [Act.put, List.setIfInBounds_toArray, List.set_cons_zero, List.set_cons_succ])
        refine wpAnyH_take (i := 9) (oi := { dst := some 112, op := Op.load 4 (Operand.tmp 111), type := 4, pos := "parts.go:215", after := #[{ on := 8, ground := Ground.data }], guard := none }) (v := ?v83x9) rfl (by kernel_rfl) (by kernel_rfl) (by kernel_rfl) (fun _ _ _ h => h) (Or.inl ⟨by rfl, ?h83x9⟩) (by assumption) ?r83x9
        case h83x9 =>
          intro w' hSw
          (try dsimp only at hSw)
          go_simp
          first | done | with_reducible rfl | rfl
        (try simp only [Act.put, List.setIfInBounds_toArray, List.set_cons_zero, List.set_cons_succ])
        refine wpAnyH_take (i := 10) (oi := { dst := some 113, op := Op.move (Operand.tmp 112), type := 4, pos := "parts.go:215", after := #[{ on := 9, ground := Ground.data }], guard := none }) (v := ?v84x10) rfl (by kernel_rfl) (by kernel_rfl) (by kernel_rfl) (fun _ _ _ h => h) (Or.inl ⟨by rfl, ?h84x10⟩) (by assumption) ?r84x10
        case h84x10 =>
          intro w' hSw
          (try dsimp only at hSw)
          go_simp
          first | done | with_reducible rfl | rfl
        (try simp only [Act.put, List.setIfInBounds_toArray, List.set_cons_zero, List.set_cons_succ])
        refine wpAnyH_take (i := 11) (oi := { dst := some 114, op := Op.fieldAddr 60 (Operand.tmp 11) 1, type := 0, pos := "parts.go:215", after := #[{ on := 10, ground := Ground.guard }], guard := some (10, true) }) (v := undef) rfl (by kernel_rfl) (by kernel_rfl) (by kernel_rfl) (fun _ _ _ h => h) (Or.inr ⟨by rfl, rfl⟩) (by assumption) ?_
        (try simp only [Act.put, List.setIfInBounds_toArray, List.set_cons_zero, List.set_cons_succ])
        refine wpAnyH_take (i := 12) (oi := { dst := some 115, op := Op.load 4 (Operand.tmp 114), type := 4, pos := "parts.go:215", after := #[{ on := 11, ground := Ground.data }, { on := 10, ground := Ground.guard }], guard := some (10, true) }) (v := undef) rfl (by kernel_rfl) (by kernel_rfl) (by kernel_rfl) (fun _ _ _ h => h) (Or.inr ⟨by rfl, rfl⟩) (by assumption) ?_
        (try simp only [Act.put, List.setIfInBounds_toArray, List.set_cons_zero, List.set_cons_succ])
        refine wpAnyH_take (i := 13) (oi := { dst := some 116, op := Op.pick (Operand.tmp 113) (Operand.tmp 115) (Operand.const (Value.bool false)), type := 4, pos := "parts.go:215", after := #[{ on := 10, ground := Ground.data }, { on := 12, ground := Ground.data }], guard := none }) (v := ?v85x13) rfl (by kernel_rfl) (by kernel_rfl) (by kernel_rfl) (fun _ _ _ h => h) (Or.inl ⟨by rfl, ?h85x13⟩) (by assumption) ?r85x13
        case h85x13 =>
          intro w' hSw
          (try dsimp only at hSw)
          go_simp
          first | done | with_reducible rfl | rfl
        (try simp only [Act.put, List.setIfInBounds_toArray, List.set_cons_zero, List.set_cons_succ])
        refine wpAnyH_take (i := 14) (oi := { dst := some 117, op := Op.build 60 #[(0, Operand.tmp 110), (1, Operand.tmp 116)], type := 60, pos := "parts.go:215", after := #[{ on := 7, ground := Ground.data }, { on := 13, ground := Ground.data }], guard := none }) (v := ?v86x14) rfl (by kernel_rfl) (by kernel_rfl) (by kernel_rfl) (fun _ _ _ h => h) (Or.inl ⟨by rfl, ?h86x14⟩) (by assumption) ?r86x14
        case h86x14 =>
          intro w' hSw
          (try dsimp only at hSw)
          go_simp
          first | done | with_reducible rfl | rfl
        (try simp only [Act.put, List.setIfInBounds_toArray, List.set_cons_zero, List.set_cons_succ])
        refine wpAnyH_take (i := 15) (oi := { dst := some 118, op := Op.load 60 (Operand.tmp 7), type := 60, pos := "parts.go:215", after := #[], guard := none }) (v := ?v87x15) rfl (by kernel_rfl) (by kernel_rfl) (by kernel_rfl) (fun _ _ _ h => h) (Or.inl ⟨by rfl, ?h87x15⟩) (by assumption) ?r87x15
        case h87x15 =>
          intro w' hSw
          (try dsimp only at hSw)
          go_simp
          first | done | with_reducible rfl | rfl
        (try simp only [Act.put, List.setIfInBounds_toArray, List.set_cons_zero, List.set_cons_succ])
        refine wpAnyH_ready (rs := [16]) (by kernel_rfl) (by simp) (AllReadyH.cons rfl (fun K hK => ?_) AllReadyH.nil)
        go_simp
        go_wp2_with fail
        refine (HI.out _ HBb.out.drew).mono ?_
        rintro e w9 ⟨rfl, hb9⟩
        have x0 := (hb9.cell (p := ⟨w.heap.size, 0, none⟩) (World.block_lt_of_cell? _ _ e0)).trans e0
        have x1 := (hb9.cell (p := ⟨w.heap.size, 1, none⟩) (World.block_lt_of_cell? _ _ e1)).trans e1
        have x2 := (hb9.cell (p := ⟨w.heap.size + 1, 0, none⟩) (World.block_lt_of_cell? _ _ e2)).trans e2
        have x3 := (hb9.cell (p := ⟨w.heap.size + 1, 1, none⟩) (World.block_lt_of_cell? _ _ e3)).trans e3
        have x4 := (hb9.cell (p := ⟨L, 0, none⟩) (World.block_lt_of_cell? _ _ e4)).trans e4
        have x5 := (hb9.cell (p := ⟨L, 1, none⟩) (World.block_lt_of_cell? _ _ e5)).trans e5
        go_wp2_with fail
        refine hK.out _ _ ⟨x0, x1, x2, x3, x4, x5⟩ (fun hHeld => ?_)
        clear hK K
        refine wpAnyH_take (i := 17) (oi := { dst := some 12, op := Op.assign (Operand.tmp 119), type := 4, pos := "parts.go:215", after := #[{ on := 16, ground := Ground.data }, { on := 16, ground := Ground.chain }, { on := 0, ground := Ground.phase }, { on := 1, ground := Ground.phase }, { on := 2, ground := Ground.phase }, { on := 3, ground := Ground.phase }, { on := 4, ground := Ground.phase }, { on := 5, ground := Ground.phase }, { on := 6, ground := Ground.phase }, { on := 7, ground := Ground.phase }, { on := 8, ground := Ground.phase }, { on := 9, ground := Ground.phase }, { on := 10, ground := Ground.phase }, { on := 11, ground := Ground.phase }, { on := 12, ground := Ground.phase }, { on := 13, ground := Ground.phase }, { on := 14, ground := Ground.phase }, { on := 15, ground := Ground.phase }, { on := 16, ground := Ground.phase }], guard := none }) (v := ?v88x17) rfl (by kernel_rfl) (by kernel_rfl) (by kernel_rfl) (fun _ _ _ h => h) (Or.inl ⟨by rfl, ?h88x17⟩) (by assumption) ?r88x17
        case h88x17 =>
          intro w' hSw
          (try dsimp only at hSw)
          go_simp
          first | done | with_reducible rfl | rfl
        (try simp only [Act.put, List.setIfInBounds_toArray, List.set_cons_zero, List.set_cons_succ])
        refine wpAnyH_done (by kernel_rfl) ?_ _
        have HBz := hideIt (HBa.out.drew.trans (hb9.mono (Nat.le_trans (Nat.le_of_eq hSz.symm) HBa.out.size)))
        clear hb9 hHeld
        go_wp2_with fail
        go_roundw
        case rel => exact ⟨k + 1, by omega, by go_num, HBz.out⟩
        case measure => simp [intOf]; omega
    · have hkl : k = hs.length := by omega
      subst hkl
      have HBz := hideIt (HB.out.trans (HBr.out.mono (by omega)))
      go_wp2_with fail
      go_ret
      exact ⟨rfl, HBz.out⟩
end Go.Proofs.Ytlpogejkmigimaa
