/- VD8 -/
import Derived.Test.YtlljniaobbbjgaaGreatDoorU20
namespace Go.Proofs.YtlljniaobbbjgaaGreatDoor
open Go.RowKit
theorem wp_storeS4 {W : World} {B p q : Nat} {s : Sd} {z0 z1 z2 z3 : Value} {a : Act} {ty : TypeId} {pos : String} {after : Array Edge} {guard : Option (Nat × Bool)} {K : Act → World → Prop} {Q : Exit → Act → World → Prop}
    (c0 : W.cell? ⟨B, 4, none⟩ = some z0) (c1 : W.cell? ⟨B, 5, none⟩ = some z1) (c2 : W.cell? ⟨B, 6, none⟩ = some z2) (c3 : W.cell? ⟨B, 7, none⟩ = some z3) (f0 : W.frozen? ⟨B, 4, none⟩ = false) (f1 : W.frozen? ⟨B, 5, none⟩ = false) (f2 : W.frozen? ⟨B, 6, none⟩ = false) (f3 : W.frozen? ⟨B, 7, none⟩ = false)
    (hp : a.tmps[p]?.getD undef = .pointer (some ⟨B, 4, none⟩)) (hq : a.tmps[q]?.getD undef = s.agg) (hk : K a (putS W B 4 s)) :
    Oper.wp Tryz.prog { dst := none, op := Op.store 90 (Operand.tmp p) (Operand.tmp q), type := ty, pos := pos, after := after, guard := guard } a W K Q := by
  unfold putS at hk
  unfold Sd.agg at hq
  have HK := hideIt hk
  clear hk
  go_simp
  exact HK.out
set_option maxRecDepth 100000 in
set_option maxHeartbeats 2000000 in
theorem restart_kept (B g cap : Nat) (n k : Sd) (l : Int) (d : Bool) (cw : Bool) (bs : ByteArray) (keep torn : Int) (w : World) (h : DiskW w B n k (.slice (some ⟨g, 0, none⟩) 1 cap) l d) (hc : ChgAt w g cw bs) (hcap : 1 ≤ cap) (hkp : 1 ≤ keep) :
    Calls Tryz.prog 24 #[.pointer (some ⟨B, 0, none⟩), .int .i64 keep, .int .i64 torn] w fun e w' => e = .returned (.tuple #[]) ∧ DiskW w' B (Chg.on ⟨cw, bs⟩ k) (Chg.on ⟨cw, bs⟩ k) (.slice none 0 0) (-1) false ∧ w.grownBy w' (some B) := by
  have HON := hideIt (on_any ⟨cw, bs⟩ k)
  obtain ⟨k', hk'⟩ : ∃ k', k' = Chg.on ⟨cw, bs⟩ k := ⟨_, rfl⟩
  rw [← hk'] at HON ⊢
  unfold Chg.agg at HON
  rw [show k.agg = .agg #[.bool k.ft, .string k.fb, .bool k.dt, .string k.db] from rfl] at HON
  dsimp only at HON
  obtain ⟨a8, _, _⟩ := h.rest
  have HD := hideIt h
  have HC := hideIt hc
  have hlt := h.lt
  clear h hc hk'
  have hm1 : max keep 0 = keep := by omega
  have hm2 : decide (keep < 0) = false := decide_eq_false (by omega)
  have hm3 : min keep 1 = 1 := by omega
  have hm5 : decide (keep < 1) = false := decide_eq_false (by omega)
  rcases Int.lt_or_eq_of_le hkp with hk | hk
  · have hm4 : decide (1 < keep) = true := decide_eq_true hk
    go_enter Tryz.func24, Tryz.ntmps24
    go_wp2_with fail
    go_loopw [23] (fun i wq => (i = .int .i64 0 ∧ wq = w) ∨ (i = .int .i64 1 ∧ DiskW wq B n k' (.slice (some ⟨g, 0, none⟩) 1 cap) l d ∧ w.grownBy wq (some B))) (fun i _ => 1 - (intOf i).toNat)
    case atStart => exact .inl ⟨rfl, rfl⟩
    case round =>
      rcases hrel with ⟨rfl, rfl⟩ | ⟨rfl, hD9, hG9⟩
      · obtain ⟨_, g0, g1⟩ := HC.out
        have hba := (Below.refl wr.heap.size wr).alloc (Nat.le_refl _) (.cells #[.bool cw, .string bs] 111)
        have HD1 := hideIt (HD.out.block (hba.block B hlt))
        have HB1 := hideIt (show B < (wr.alloc (.cells #[.bool cw, .string bs] 111)).drew.heap.size from HD1.out.lt)
        have HG1 := hideIt (show wr.grownBy (wr.alloc (.cells #[.bool cw, .string bs] 111)) (some B) from ⟨hba.os, hba.tape, hba.output, hba.size, fun j hj _ => hba.block j hj⟩)
        obtain ⟨a4, a5, a6, a7⟩ := HD1.out.kept
        clear hba
        go_wp2_with fail
        refine wp_region_held_drew (S := fun _ => True) (by kernel_rfl) trivial (fun hHeld => ?_)
        refine wpAnyH_take (i := 0) (oi := { dst := some 27, op := Op.move (Operand.tmp 0), type := 33, pos := "disk.go:98", after := #[], guard := none }) (v := ?v1x0) rfl (by kernel_rfl) (by kernel_rfl) (by kernel_rfl) (fun _ _ _ h => h) (Or.inl ⟨by rfl, ?h1x0⟩) (by assumption) ?r1x0
        case h1x0 =>
          intro w' hSw
          (try dsimp only at hSw)
          go_simp
          first | done | with_reducible rfl | rfl
        (try simp only [Act.put, List.setIfInBounds_toArray, List.set_cons_zero, List.set_cons_succ])
        refine wpAnyH_take (i := 2) (oi := { dst := some 29, op := Op.move (Operand.tmp 0), type := 33, pos := "disk.go:98", after := #[], guard := none }) (v := ?v2x2) rfl (by kernel_rfl) (by kernel_rfl) (by kernel_rfl) (fun _ _ _ h => h) (Or.inl ⟨by rfl, ?h2x2⟩) (by assumption) ?r2x2
        case h2x2 =>
          intro w' hSw
          (try dsimp only at hSw)
          go_simp
          first | done | with_reducible rfl | rfl
        (try simp only [Act.put, List.setIfInBounds_toArray, List.set_cons_zero, List.set_cons_succ])
        refine wpAnyH_take (i := 3) (oi := { dst := some 30, op := Op.nilCheck (Operand.tmp 29), type := 0, pos := "disk.go:98", after := #[{ on := 2, ground := Ground.data }], guard := none }) (v := ?v3x3) rfl (by kernel_rfl) (by kernel_rfl) (by kernel_rfl) (fun _ _ _ h => h) (Or.inl ⟨by rfl, ?h3x3⟩) (by assumption) ?r3x3
        case h3x3 =>
          intro w' hSw
          (try dsimp only at hSw)
          go_simp
          first | done | with_reducible rfl | rfl
        (try simp only [Act.put, List.setIfInBounds_toArray, List.set_cons_zero, List.set_cons_succ])
        refine wpAnyH_take (i := 4) (oi := { dst := some 31, op := Op.fieldAddr 93 (Operand.tmp 30) 1, type := 0, pos := "disk.go:98", after := #[{ on := 3, ground := Ground.data }], guard := none }) (v := ?v4x4) rfl (by kernel_rfl) (by kernel_rfl) (by kernel_rfl) (fun _ _ _ h => h) (Or.inl ⟨by rfl, ?h4x4⟩) (by assumption) ?r4x4
        case h4x4 =>
          intro w' hSw
          (try dsimp only at hSw)
          go_simp
          first | done | with_reducible rfl | rfl
        (try simp only [Act.put, List.setIfInBounds_toArray, List.set_cons_zero, List.set_cons_succ])
        refine wpAnyH_ready (rs := [1, 5]) (by kernel_rfl) (by simp) (AllReadyH.cons rfl (fun K hK => ?_) (AllReadyH.cons rfl (fun K hK => ?_) AllReadyH.nil))
        · go_simp
          refine hK.out _ _ trivial (fun hHeld => ?_)
          clear hK K
          (try simp only [Act.put, List.setIfInBounds_toArray, List.set_cons_zero, List.set_cons_succ])
          refine wpAnyH_ready (rs := [5]) (by kernel_rfl) (by simp) (AllReadyH.cons rfl (fun K hK => ?_) AllReadyH.nil)
          go_simp
          refine hK.out _ _ trivial (fun hHeld => ?_)
          clear hK K
          (try simp only [Act.put, List.setIfInBounds_toArray, List.set_cons_zero, List.set_cons_succ])
          refine wpAnyH_ready (rs := [6]) (by kernel_rfl) (by simp) (AllReadyH.cons rfl (fun K hK => ?_) AllReadyH.nil)
          go_simp
          go_wp2_with fail
          refine (HON.out _).mono ?_
          rintro e w5 ⟨rfl, hb5⟩
          have hD5 := HD1.out.block (w' := w5) (hb5.block B HB1.out)
          have HG5 := hideIt (grown_belowV HG1.out (below_of_drewD hb5))
          go_wp2_with fail
          refine hK.out _ _ trivial (fun hHeld => ?_)
          clear hK K
          refine wpAnyH_take (i := 7) (oi := { dst := some 34, op := Op.nilCheck (Operand.tmp 27), type := 0, pos := "disk.go:98", after := #[{ on := 0, ground := Ground.data }, { on := 0, ground := Ground.phase }, { on := 1, ground := Ground.phase }, { on := 2, ground := Ground.phase }, { on := 3, ground := Ground.phase }, { on := 4, ground := Ground.phase }, { on := 5, ground := Ground.phase }, { on := 6, ground := Ground.phase }], guard := none }) (v := ?v5x7) rfl (by kernel_rfl) (by kernel_rfl) (by kernel_rfl) (fun _ _ _ h => h) (Or.inl ⟨by rfl, ?h5x7⟩) (by assumption) ?r5x7
          case h5x7 =>
            intro w' hSw
            (try dsimp only at hSw)
            go_simp
            first | done | with_reducible rfl | rfl
          (try simp only [Act.put, List.setIfInBounds_toArray, List.set_cons_zero, List.set_cons_succ])
          refine wpAnyH_take (i := 8) (oi := { dst := some 35, op := Op.fieldAddr 93 (Operand.tmp 34) 1, type := 0, pos := "disk.go:98", after := #[{ on := 7, ground := Ground.data }, { on := 0, ground := Ground.phase }, { on := 1, ground := Ground.phase }, { on := 2, ground := Ground.phase }, { on := 3, ground := Ground.phase }, { on := 4, ground := Ground.phase }, { on := 5, ground := Ground.phase }, { on := 6, ground := Ground.phase }], guard := none }) (v := ?v6x8) rfl (by kernel_rfl) (by kernel_rfl) (by kernel_rfl) (fun _ _ _ h => h) (Or.inl ⟨by rfl, ?h6x8⟩) (by assumption) ?r6x8
          case h6x8 =>
            intro w' hSw
            (try dsimp only at hSw)
            go_simp
            first | done | with_reducible rfl | rfl
          (try simp only [Act.put, List.setIfInBounds_toArray, List.set_cons_zero, List.set_cons_succ])
          obtain ⟨s0, s1, s2, s3⟩ := hD5.kept
          have HD6 := hideIt (hD5.setKept k')
          have HG6 := hideIt (grown_trans HG5.out ((OnlyB.refl B w5).putS 4 k').1)
          refine wpAnyH_ready (rs := [9]) (by kernel_rfl) (by simp) (AllReadyH.cons rfl (fun K hK => ?_) AllReadyH.nil)
          rw [if_pos (by rfl)]
          refine wp_storeS4 s0 s1 s2 s3 (hD5.frozen 4) (hD5.frozen 5) (hD5.frozen 6) (hD5.frozen 7) rfl rfl ?_
          refine hK.out _ _ trivial (fun hHeld => ?_)
          clear hK K hD5 HG5 s0 s1 s2 s3 hb5 HON
          generalize putS w5 B 4 k' = w6 at *
          refine wpAnyH_done (by kernel_rfl) ?_ _
          go_wp2_with fail
          go_roundw
          case rel => exact .inr ⟨rfl, HD6.out, HG6.out⟩
          case measure => simp [intOf]
        · go_simp
          refine hK.out _ _ trivial (fun hHeld => ?_)
          clear hK K
          (try simp only [Act.put, List.setIfInBounds_toArray, List.set_cons_zero, List.set_cons_succ])
          refine wpAnyH_ready (rs := [1]) (by kernel_rfl) (by simp) (AllReadyH.cons rfl (fun K hK => ?_) AllReadyH.nil)
          go_simp
          refine hK.out _ _ trivial (fun hHeld => ?_)
          clear hK K
          (try simp only [Act.put, List.setIfInBounds_toArray, List.set_cons_zero, List.set_cons_succ])
          refine wpAnyH_ready (rs := [6]) (by kernel_rfl) (by simp) (AllReadyH.cons rfl (fun K hK => ?_) AllReadyH.nil)
          go_simp
          go_wp2_with fail
          refine (HON.out _).mono ?_
          rintro e w5 ⟨rfl, hb5⟩
          have hD5 := HD1.out.block (w' := w5) (hb5.block B HB1.out)
          have HG5 := hideIt (grown_belowV HG1.out (below_of_drewD hb5))
          go_wp2_with fail
          refine hK.out _ _ trivial (fun hHeld => ?_)
          clear hK K
          refine wpAnyH_take (i := 7) (oi := { dst := some 34, op := Op.nilCheck (Operand.tmp 27), type := 0, pos := "disk.go:98", after := #[{ on := 0, ground := Ground.data }, { on := 0, ground := Ground.phase }, { on := 1, ground := Ground.phase }, { on := 2, ground := Ground.phase }, { on := 3, ground := Ground.phase }, { on := 4, ground := Ground.phase }, { on := 5, ground := Ground.phase }, { on := 6, ground := Ground.phase }], guard := none }) (v := ?v7x7) rfl (by kernel_rfl) (by kernel_rfl) (by kernel_rfl) (fun _ _ _ h => h) (Or.inl ⟨by rfl, ?h7x7⟩) (by assumption) ?r7x7
          case h7x7 =>
            intro w' hSw
            (try dsimp only at hSw)
            go_simp
            first | done | with_reducible rfl | rfl
          (try simp only [Act.put, List.setIfInBounds_toArray, List.set_cons_zero, List.set_cons_succ])
          refine wpAnyH_take (i := 8) (oi := { dst := some 35, op := Op.fieldAddr 93 (Operand.tmp 34) 1, type := 0, pos := "disk.go:98", after := #[{ on := 7, ground := Ground.data }, { on := 0, ground := Ground.phase }, { on := 1, ground := Ground.phase }, { on := 2, ground := Ground.phase }, { on := 3, ground := Ground.phase }, { on := 4, ground := Ground.phase }, { on := 5, ground := Ground.phase }, { on := 6, ground := Ground.phase }], guard := none }) (v := ?v8x8) rfl (by kernel_rfl) (by kernel_rfl) (by kernel_rfl) (fun _ _ _ h => h) (Or.inl ⟨by rfl, ?h8x8⟩) (by assumption) ?r8x8
          case h8x8 =>
            intro w' hSw
            (try dsimp only at hSw)
            go_simp
            first | done | with_reducible rfl | rfl
          (try simp only [Act.put, List.setIfInBounds_toArray, List.set_cons_zero, List.set_cons_succ])
          obtain ⟨s0, s1, s2, s3⟩ := hD5.kept
          have HD6 := hideIt (hD5.setKept k')
          have HG6 := hideIt (grown_trans HG5.out ((OnlyB.refl B w5).putS 4 k').1)
          refine wpAnyH_ready (rs := [9]) (by kernel_rfl) (by simp) (AllReadyH.cons rfl (fun K hK => ?_) AllReadyH.nil)
          rw [if_pos (by rfl)]
          refine wp_storeS4 s0 s1 s2 s3 (hD5.frozen 4) (hD5.frozen 5) (hD5.frozen 6) (hD5.frozen 7) rfl rfl ?_
          refine hK.out _ _ trivial (fun hHeld => ?_)
          clear hK K hD5 HG5 s0 s1 s2 s3 hb5 HON
          generalize putS w5 B 4 k' = w6 at *
          refine wpAnyH_done (by kernel_rfl) ?_ _
          go_wp2_with fail
          go_roundw
          case rel => exact .inr ⟨rfl, HD6.out, HG6.out⟩
          case measure => simp [intOf]
      · obtain ⟨a0, a1, a2, a3⟩ := hD9.now
        obtain ⟨a4, a5, a6, a7⟩ := hD9.kept
        obtain ⟨b8, b9, b10⟩ := hD9.rest
        have f0 := hD9.frozen 0
        have f1 := hD9.frozen 1
        have f2 := hD9.frozen 2
        have f3 := hD9.frozen 3
        have f8 := hD9.frozen 8
        have f9 := hD9.frozen 9
        have f10 := hD9.frozen 10
        have HZ := hideIt ((((hD9.setNow k').set8 (.slice none 0 0)).set9 (-1)).set10 false)
        have HO := hideIt (grown_trans hG9 (((((OnlyB.refl B wr).putS 0 k').set 8 (.slice none 0 0)).set 9 (.int .i64 (-1))).set 10 (.bool false)).1)
        clear hD9 hG9 HD HC HON
        unfold putS at HZ HO
        simp only [Nat.zero_add] at HZ HO
        rcases Int.lt_or_le 0 torn with ht | ht
        · have ht2 : decide (0 < torn) = true := decide_eq_true ht
          go_wp2_with fail
          go_end0
          exact ⟨rfl, HZ.out, HO.out⟩
        · have ht2 : decide (0 < torn) = false := decide_eq_false (by omega)
          go_wp2_with fail
          go_end0
          exact ⟨rfl, HZ.out, HO.out⟩
  · subst hk
    go_enter Tryz.func24, Tryz.ntmps24
    go_wp2_with fail
    go_loopw [23] (fun i wq => (i = .int .i64 0 ∧ wq = w) ∨ (i = .int .i64 1 ∧ DiskW wq B n k' (.slice (some ⟨g, 0, none⟩) 1 cap) l d ∧ w.grownBy wq (some B))) (fun i _ => 1 - (intOf i).toNat)
    case atStart => exact .inl ⟨rfl, rfl⟩
    case round =>
      rcases hrel with ⟨rfl, rfl⟩ | ⟨rfl, hD9, hG9⟩
      · obtain ⟨_, g0, g1⟩ := HC.out
        have hba := (Below.refl wr.heap.size wr).alloc (Nat.le_refl _) (.cells #[.bool cw, .string bs] 111)
        have HD1 := hideIt (HD.out.block (hba.block B hlt))
        have HB1 := hideIt (show B < (wr.alloc (.cells #[.bool cw, .string bs] 111)).drew.heap.size from HD1.out.lt)
        have HG1 := hideIt (show wr.grownBy (wr.alloc (.cells #[.bool cw, .string bs] 111)) (some B) from ⟨hba.os, hba.tape, hba.output, hba.size, fun j hj _ => hba.block j hj⟩)
        obtain ⟨a4, a5, a6, a7⟩ := HD1.out.kept
        clear hba
        go_wp2_with fail
        refine wp_region_held_drew (S := fun _ => True) (by kernel_rfl) trivial (fun hHeld => ?_)
        refine wpAnyH_take (i := 0) (oi := { dst := some 27, op := Op.move (Operand.tmp 0), type := 33, pos := "disk.go:98", after := #[], guard := none }) (v := ?v9x0) rfl (by kernel_rfl) (by kernel_rfl) (by kernel_rfl) (fun _ _ _ h => h) (Or.inl ⟨by rfl, ?h9x0⟩) (by assumption) ?r9x0
        case h9x0 =>
          intro w' hSw
          (try dsimp only at hSw)
          go_simp
          first | done | with_reducible rfl | rfl
        (try simp only [Act.put, List.setIfInBounds_toArray, List.set_cons_zero, List.set_cons_succ])
        refine wpAnyH_take (i := 2) (oi := { dst := some 29, op := Op.move (Operand.tmp 0), type := 33, pos := "disk.go:98", after := #[], guard := none }) (v := ?v10x2) rfl (by kernel_rfl) (by kernel_rfl) (by kernel_rfl) (fun _ _ _ h => h) (Or.inl ⟨by rfl, ?h10x2⟩) (by assumption) ?r10x2
        case h10x2 =>
          intro w' hSw
          (try dsimp only at hSw)
          go_simp
          first | done | with_reducible rfl | rfl
        (try simp only [Act.put, List.setIfInBounds_toArray, List.set_cons_zero, List.set_cons_succ])
        refine wpAnyH_take (i := 3) (oi := { dst := some 30, op := Op.nilCheck (Operand.tmp 29), type := 0, pos := "disk.go:98", after := #[{ on := 2, ground := Ground.data }], guard := none }) (v := ?v11x3) rfl (by kernel_rfl) (by kernel_rfl) (by kernel_rfl) (fun _ _ _ h => h) (Or.inl ⟨by rfl, ?h11x3⟩) (by assumption) ?r11x3
        case h11x3 =>
          intro w' hSw
          (try dsimp only at hSw)
          go_simp
          first | done | with_reducible rfl | rfl
        (try simp only [Act.put, List.setIfInBounds_toArray, List.set_cons_zero, List.set_cons_succ])
        refine wpAnyH_take (i := 4) (oi := { dst := some 31, op := Op.fieldAddr 93 (Operand.tmp 30) 1, type := 0, pos := "disk.go:98", after := #[{ on := 3, ground := Ground.data }], guard := none }) (v := ?v12x4) rfl (by kernel_rfl) (by kernel_rfl) (by kernel_rfl) (fun _ _ _ h => h) (Or.inl ⟨by rfl, ?h12x4⟩) (by assumption) ?r12x4
        case h12x4 =>
          intro w' hSw
          (try dsimp only at hSw)
          go_simp
          first | done | with_reducible rfl | rfl
        (try simp only [Act.put, List.setIfInBounds_toArray, List.set_cons_zero, List.set_cons_succ])
        refine wpAnyH_ready (rs := [1, 5]) (by kernel_rfl) (by simp) (AllReadyH.cons rfl (fun K hK => ?_) (AllReadyH.cons rfl (fun K hK => ?_) AllReadyH.nil))
        · go_simp
          refine hK.out _ _ trivial (fun hHeld => ?_)
          clear hK K
          (try simp only [Act.put, List.setIfInBounds_toArray, List.set_cons_zero, List.set_cons_succ])
          refine wpAnyH_ready (rs := [5]) (by kernel_rfl) (by simp) (AllReadyH.cons rfl (fun K hK => ?_) AllReadyH.nil)
          go_simp
          refine hK.out _ _ trivial (fun hHeld => ?_)
          clear hK K
          (try simp only [Act.put, List.setIfInBounds_toArray, List.set_cons_zero, List.set_cons_succ])
          refine wpAnyH_ready (rs := [6]) (by kernel_rfl) (by simp) (AllReadyH.cons rfl (fun K hK => ?_) AllReadyH.nil)
          go_simp
          go_wp2_with fail
          refine (HON.out _).mono ?_
          rintro e w5 ⟨rfl, hb5⟩
          have hD5 := HD1.out.block (w' := w5) (hb5.block B HB1.out)
          have HG5 := hideIt (grown_belowV HG1.out (below_of_drewD hb5))
          go_wp2_with fail
          refine hK.out _ _ trivial (fun hHeld => ?_)
          clear hK K
          refine wpAnyH_take (i := 7) (oi := { dst := some 34, op := Op.nilCheck (Operand.tmp 27), type := 0, pos := "disk.go:98", after := #[{ on := 0, ground := Ground.data }, { on := 0, ground := Ground.phase }, { on := 1, ground := Ground.phase }, { on := 2, ground := Ground.phase }, { on := 3, ground := Ground.phase }, { on := 4, ground := Ground.phase }, { on := 5, ground := Ground.phase }, { on := 6, ground := Ground.phase }], guard := none }) (v := ?v13x7) rfl (by kernel_rfl) (by kernel_rfl) (by kernel_rfl) (fun _ _ _ h => h) (Or.inl ⟨by rfl, ?h13x7⟩) (by assumption) ?r13x7
          case h13x7 =>
            intro w' hSw
            (try dsimp only at hSw)
            go_simp
            first | done | with_reducible rfl | rfl
          (try simp only [Act.put, List.setIfInBounds_toArray, List.set_cons_zero, List.set_cons_succ])
          refine wpAnyH_take (i := 8) (oi := { dst := some 35, op := Op.fieldAddr 93 (Operand.tmp 34) 1, type := 0, pos := "disk.go:98", after := #[{ on := 7, ground := Ground.data }, { on := 0, ground := Ground.phase }, { on := 1, ground := Ground.phase }, { on := 2, ground := Ground.phase }, { on := 3, ground := Ground.phase }, { on := 4, ground := Ground.phase }, { on := 5, ground := Ground.phase }, { on := 6, ground := Ground.phase }], guard := none }) (v := ?v14x8) rfl (by kernel_rfl) (by kernel_rfl) (by kernel_rfl) (fun _ _ _ h => h) (Or.inl ⟨by rfl, ?h14x8⟩) (by assumption) ?r14x8
          case h14x8 =>
            intro w' hSw
            (try dsimp only at hSw)
            go_simp
            first | done | with_reducible rfl | rfl
          (try simp only [Act.put, List.setIfInBounds_toArray, List.set_cons_zero, List.set_cons_succ])
          obtain ⟨s0, s1, s2, s3⟩ := hD5.kept
          have HD6 := hideIt (hD5.setKept k')
          have HG6 := hideIt (grown_trans HG5.out ((OnlyB.refl B w5).putS 4 k').1)
          refine wpAnyH_ready (rs := [9]) (by kernel_rfl) (by simp) (AllReadyH.cons rfl (fun K hK => ?_) AllReadyH.nil)
          rw [if_pos (by rfl)]
          refine wp_storeS4 s0 s1 s2 s3 (hD5.frozen 4) (hD5.frozen 5) (hD5.frozen 6) (hD5.frozen 7) rfl rfl ?_
          refine hK.out _ _ trivial (fun hHeld => ?_)
          clear hK K hD5 HG5 s0 s1 s2 s3 hb5 HON
          generalize putS w5 B 4 k' = w6 at *
          refine wpAnyH_done (by kernel_rfl) ?_ _
          go_wp2_with fail
          go_roundw
          case rel => exact .inr ⟨rfl, HD6.out, HG6.out⟩
          case measure => simp [intOf]
        · go_simp
          refine hK.out _ _ trivial (fun hHeld => ?_)
          clear hK K
          (try simp only [Act.put, List.setIfInBounds_toArray, List.set_cons_zero, List.set_cons_succ])
          refine wpAnyH_ready (rs := [1]) (by kernel_rfl) (by simp) (AllReadyH.cons rfl (fun K hK => ?_) AllReadyH.nil)
          go_simp
          refine hK.out _ _ trivial (fun hHeld => ?_)
          clear hK K
          (try simp only [Act.put, List.setIfInBounds_toArray, List.set_cons_zero, List.set_cons_succ])
          refine wpAnyH_ready (rs := [6]) (by kernel_rfl) (by simp) (AllReadyH.cons rfl (fun K hK => ?_) AllReadyH.nil)
          go_simp
          go_wp2_with fail
          refine (HON.out _).mono ?_
          rintro e w5 ⟨rfl, hb5⟩
          have hD5 := HD1.out.block (w' := w5) (hb5.block B HB1.out)
          have HG5 := hideIt (grown_belowV HG1.out (below_of_drewD hb5))
          go_wp2_with fail
          refine hK.out _ _ trivial (fun hHeld => ?_)
          clear hK K
          refine wpAnyH_take (i := 7) (oi := { dst := some 34, op := Op.nilCheck (Operand.tmp 27), type := 0, pos := "disk.go:98", after := #[{ on := 0, ground := Ground.data }, { on := 0, ground := Ground.phase }, { on := 1, ground := Ground.phase }, { on := 2, ground := Ground.phase }, { on := 3, ground := Ground.phase }, { on := 4, ground := Ground.phase }, { on := 5, ground := Ground.phase }, { on := 6, ground := Ground.phase }], guard := none }) (v := ?v15x7) rfl (by kernel_rfl) (by kernel_rfl) (by kernel_rfl) (fun _ _ _ h => h) (Or.inl ⟨by rfl, ?h15x7⟩) (by assumption) ?r15x7
          case h15x7 =>
            intro w' hSw
            (try dsimp only at hSw)
            go_simp
            first | done | with_reducible rfl | rfl
          (try simp only [Act.put, List.setIfInBounds_toArray, List.set_cons_zero, List.set_cons_succ])
          refine wpAnyH_take (i := 8) (oi := { dst := some 35, op := Op.fieldAddr 93 (Operand.tmp 34) 1, type := 0, pos := "disk.go:98", after := #[{ on := 7, ground := Ground.data }, { on := 0, ground := Ground.phase }, { on := 1, ground := Ground.phase }, { on := 2, ground := Ground.phase }, { on := 3, ground := Ground.phase }, { on := 4, ground := Ground.phase }, { on := 5, ground := Ground.phase }, { on := 6, ground := Ground.phase }], guard := none }) (v := ?v16x8) rfl (by kernel_rfl) (by kernel_rfl) (by kernel_rfl) (fun _ _ _ h => h) (Or.inl ⟨by rfl, ?h16x8⟩) (by assumption) ?r16x8
          case h16x8 =>
            intro w' hSw
            (try dsimp only at hSw)
            go_simp
            first | done | with_reducible rfl | rfl
          (try simp only [Act.put, List.setIfInBounds_toArray, List.set_cons_zero, List.set_cons_succ])
          obtain ⟨s0, s1, s2, s3⟩ := hD5.kept
          have HD6 := hideIt (hD5.setKept k')
          have HG6 := hideIt (grown_trans HG5.out ((OnlyB.refl B w5).putS 4 k').1)
          refine wpAnyH_ready (rs := [9]) (by kernel_rfl) (by simp) (AllReadyH.cons rfl (fun K hK => ?_) AllReadyH.nil)
          rw [if_pos (by rfl)]
          refine wp_storeS4 s0 s1 s2 s3 (hD5.frozen 4) (hD5.frozen 5) (hD5.frozen 6) (hD5.frozen 7) rfl rfl ?_
          refine hK.out _ _ trivial (fun hHeld => ?_)
          clear hK K hD5 HG5 s0 s1 s2 s3 hb5 HON
          generalize putS w5 B 4 k' = w6 at *
          refine wpAnyH_done (by kernel_rfl) ?_ _
          go_wp2_with fail
          go_roundw
          case rel => exact .inr ⟨rfl, HD6.out, HG6.out⟩
          case measure => simp [intOf]
      · obtain ⟨a0, a1, a2, a3⟩ := hD9.now
        obtain ⟨a4, a5, a6, a7⟩ := hD9.kept
        obtain ⟨b8, b9, b10⟩ := hD9.rest
        have f0 := hD9.frozen 0
        have f1 := hD9.frozen 1
        have f2 := hD9.frozen 2
        have f3 := hD9.frozen 3
        have f8 := hD9.frozen 8
        have f9 := hD9.frozen 9
        have f10 := hD9.frozen 10
        have HZ := hideIt ((((hD9.setNow k').set8 (.slice none 0 0)).set9 (-1)).set10 false)
        have HO := hideIt (grown_trans hG9 (((((OnlyB.refl B wr).putS 0 k').set 8 (.slice none 0 0)).set 9 (.int .i64 (-1))).set 10 (.bool false)).1)
        clear hD9 hG9 HD HC HON
        unfold putS at HZ HO
        simp only [Nat.zero_add] at HZ HO
        rcases Int.lt_or_le 0 torn with ht | ht
        · have ht2 : decide (0 < torn) = true := decide_eq_true ht
          go_wp2_with fail
          go_end0
          exact ⟨rfl, HZ.out, HO.out⟩
        · have ht2 : decide (0 < torn) = false := decide_eq_false (by omega)
          go_wp2_with fail
          go_end0
          exact ⟨rfl, HZ.out, HO.out⟩
end Go.Proofs.YtlljniaobbbjgaaGreatDoor
