/- VD10 -/
import Derived.Test.YtlljniaobbbjgaaGreatDoorU21
import Derived.Test.YtlljniaobbbjgaaGreatDoorU20
namespace Go.Proofs.YtlljniaobbbjgaaGreatDoor
open Go.RowKit
set_option maxRecDepth 100000 in
set_option maxHeartbeats 4000000 in
theorem restart_torn (B g cap : Nat) (n k : Sd) (l : Int) (d : Bool) (bs : ByteArray) (keep torn : Int) (w : World) (h : DiskW w B n k (.slice (some ⟨g, 0, none⟩) 1 cap) l d) (hc : ChgAt w g true bs) (hcap : 1 ≤ cap) (hgB : g ≠ B) (hkp : keep ≤ 0) (ht : 0 < torn) :
    Calls Tryz.prog 24 #[.pointer (some ⟨B, 0, none⟩), .int .i64 keep, .int .i64 torn] w fun e w' => e = .returned (.tuple #[]) ∧ DiskW w' B (Chg.on ⟨true, bs.extract 0 (min torn bs.size).toNat⟩ k) (Chg.on ⟨true, bs.extract 0 (min torn bs.size).toNat⟩ k) (.slice none 0 0) (-1) false ∧ w.grownBy w' (some B) := by
  have HFI := hideIt (fun w => first_any true bs torn w ht)
  obtain ⟨bt, hbt⟩ : ∃ bt, bt = bs.extract 0 (min torn bs.size).toNat := ⟨_, rfl⟩
  rw [← hbt] at HFI ⊢
  have HON := hideIt (on_any ⟨true, bt⟩ k)
  obtain ⟨k', hk'⟩ : ∃ k', k' = Chg.on ⟨true, bt⟩ k := ⟨_, rfl⟩
  rw [← hk'] at HON ⊢
  unfold Chg.agg at HON
  rw [show k.agg = .agg #[.bool k.ft, .string k.fb, .bool k.dt, .string k.db] from rfl] at HON
  dsimp only at HON
  obtain ⟨c8, _, _⟩ := h.rest
  have HC := hideIt hc
  obtain ⟨_, g0, g1⟩ := hc
  have HD := hideIt h
  have hlt := h.lt
  have HG0 := hideIt (show w.grownBy w (some B) from ⟨rfl, rfl, rfl, Nat.le_refl _, fun _ _ _ => rfl⟩)
  have ht2 : decide (0 < torn) = true := decide_eq_true ht
  clear h hk' hbt
  rcases Int.lt_or_eq_of_le hkp with hk | hk
  · have hm1 : max keep 0 = 0 := by omega
    have hm2 : decide (keep < 0) = true := decide_eq_true hk
    have hm3 : min (0 : Int) 1 = 0 := by omega
    clear hkp
    go_enter Tryz.func24, Tryz.ntmps24
    go_wp2_with fail
    go_loop [23] (fun i => i = .int .i64 0) (fun _ => 0)
    case atStart => rfl
    case round =>
      subst hrel
      go_wp2_with fail
      refine wp_region_held_drew (S := fun w' => w'.cell? ⟨B, 8, none⟩ = some (.slice (some ⟨g, 0, none⟩) 1 cap) ∧ w'.cell? ⟨g, 0, none⟩ = some (.bool true) ∧ w'.cell? ⟨g, 1, none⟩ = some (.string bs)) (by kernel_rfl) ⟨c8, g0, g1⟩ (fun hHeld => ?_)
      refine wpAnyH_take (i := 0) (oi := { dst := some 58, op := Op.move (Operand.tmp 0), type := 33, pos := "disk.go:101", after := #[], guard := none }) (v := ?v1x0) rfl (by kernel_rfl) (by kernel_rfl) (by kernel_rfl) (fun _ _ _ h => h) (Or.inl ⟨by rfl, ?h1x0⟩) (by assumption) ?r1x0
      case h1x0 =>
        intro w' hSw
        (try dsimp only at hSw)
        go_simp
        first | done | with_reducible rfl | rfl
      (try simp only [Act.put, List.setIfInBounds_toArray, List.set_cons_zero, List.set_cons_succ])
      refine wpAnyH_take (i := 1) (oi := { dst := some 59, op := Op.move (Operand.tmp 0), type := 33, pos := "disk.go:101", after := #[], guard := none }) (v := ?v2x1) rfl (by kernel_rfl) (by kernel_rfl) (by kernel_rfl) (fun _ _ _ h => h) (Or.inl ⟨by rfl, ?h2x1⟩) (by assumption) ?r2x1
      case h2x1 =>
        intro w' hSw
        (try dsimp only at hSw)
        go_simp
        first | done | with_reducible rfl | rfl
      (try simp only [Act.put, List.setIfInBounds_toArray, List.set_cons_zero, List.set_cons_succ])
      refine wpAnyH_take (i := 2) (oi := { dst := some 60, op := Op.nilCheck (Operand.tmp 59), type := 0, pos := "disk.go:101", after := #[{ on := 1, ground := Ground.data }], guard := none }) (v := ?v3x2) rfl (by kernel_rfl) (by kernel_rfl) (by kernel_rfl) (fun _ _ _ h => h) (Or.inl ⟨by rfl, ?h3x2⟩) (by assumption) ?r3x2
      case h3x2 =>
        intro w' hSw
        (try dsimp only at hSw)
        go_simp
        first | done | with_reducible rfl | rfl
      (try simp only [Act.put, List.setIfInBounds_toArray, List.set_cons_zero, List.set_cons_succ])
      refine wpAnyH_take (i := 3) (oi := { dst := some 61, op := Op.fieldAddr 93 (Operand.tmp 60) 2, type := 0, pos := "disk.go:101", after := #[{ on := 2, ground := Ground.data }], guard := none }) (v := ?v4x3) rfl (by kernel_rfl) (by kernel_rfl) (by kernel_rfl) (fun _ _ _ h => h) (Or.inl ⟨by rfl, ?h4x3⟩) (by assumption) ?r4x3
      case h4x3 =>
        intro w' hSw
        (try dsimp only at hSw)
        go_simp
        first | done | with_reducible rfl | rfl
      (try simp only [Act.put, List.setIfInBounds_toArray, List.set_cons_zero, List.set_cons_succ])
      refine wpAnyH_take (i := 4) (oi := { dst := some 62, op := Op.load 91 (Operand.tmp 61), type := 91, pos := "disk.go:101", after := #[{ on := 3, ground := Ground.data }], guard := none }) (v := ?v5x4) rfl (by kernel_rfl) (by kernel_rfl) (by kernel_rfl) (fun _ _ _ h => h) (Or.inl ⟨by rfl, ?h5x4⟩) (by assumption) ?r5x4
      case h5x4 =>
        intro w' hSw
        (try dsimp only at hSw)
        go_simp
        first | done | with_reducible rfl | rfl
      (try simp only [Act.put, List.setIfInBounds_toArray, List.set_cons_zero, List.set_cons_succ])
      refine wpAnyH_take (i := 5) (oi := { dst := some 63, op := Op.move (Operand.tmp 1), type := 3, pos := "disk.go:101", after := #[], guard := none }) (v := ?v6x5) rfl (by kernel_rfl) (by kernel_rfl) (by kernel_rfl) (fun _ _ _ h => h) (Or.inl ⟨by rfl, ?h6x5⟩) (by assumption) ?r6x5
      case h6x5 =>
        intro w' hSw
        (try dsimp only at hSw)
        go_simp
        first | done | with_reducible rfl | rfl
      (try simp only [Act.put, List.setIfInBounds_toArray, List.set_cons_zero, List.set_cons_succ])
      refine wpAnyH_take (i := 6) (oi := { dst := some 64, op := Op.indexAddr 91 (Operand.tmp 62) (Operand.tmp 63), type := 0, pos := "disk.go:101", after := #[{ on := 4, ground := Ground.data }, { on := 5, ground := Ground.data }], guard := none }) (v := ?v7x6) rfl (by kernel_rfl) (by kernel_rfl) (by kernel_rfl) (fun _ _ _ h => h) (Or.inl ⟨by rfl, ?h7x6⟩) (by assumption) ?r7x6
      case h7x6 =>
        intro w' hSw
        (try dsimp only at hSw)
        go_simp
        first | done | with_reducible rfl | rfl
      (try simp only [Act.put, List.setIfInBounds_toArray, List.set_cons_zero, List.set_cons_succ])
      refine wpAnyH_take (i := 7) (oi := { dst := some 65, op := Op.load 111 (Operand.tmp 64), type := 111, pos := "disk.go:101", after := #[{ on := 6, ground := Ground.data }], guard := none }) (v := ?v8x7) rfl (by kernel_rfl) (by kernel_rfl) (by kernel_rfl) (fun _ _ _ h => h) (Or.inl ⟨by rfl, ?h8x7⟩) (by assumption) ?r8x7
      case h8x7 =>
        intro w' hSw
        (try dsimp only at hSw)
        go_simp
        first | done | with_reducible rfl | rfl
      (try simp only [Act.put, List.setIfInBounds_toArray, List.set_cons_zero, List.set_cons_succ])
      refine wpAnyH_take (i := 8) (oi := { dst := some 66, op := Op.move (Operand.tmp 2), type := 3, pos := "disk.go:101", after := #[], guard := none }) (v := ?v9x8) rfl (by kernel_rfl) (by kernel_rfl) (by kernel_rfl) (fun _ _ _ h => h) (Or.inl ⟨by rfl, ?h9x8⟩) (by assumption) ?r9x8
      case h9x8 =>
        intro w' hSw
        (try dsimp only at hSw)
        go_simp
        first | done | with_reducible rfl | rfl
      (try simp only [Act.put, List.setIfInBounds_toArray, List.set_cons_zero, List.set_cons_succ])
      refine wpAnyH_take (i := 10) (oi := { dst := some 68, op := Op.move (Operand.tmp 0), type := 33, pos := "disk.go:101", after := #[], guard := none }) (v := ?v10x10) rfl (by kernel_rfl) (by kernel_rfl) (by kernel_rfl) (fun _ _ _ h => h) (Or.inl ⟨by rfl, ?h10x10⟩) (by assumption) ?r10x10
      case h10x10 =>
        intro w' hSw
        (try dsimp only at hSw)
        go_simp
        first | done | with_reducible rfl | rfl
      (try simp only [Act.put, List.setIfInBounds_toArray, List.set_cons_zero, List.set_cons_succ])
      refine wpAnyH_take (i := 11) (oi := { dst := some 69, op := Op.nilCheck (Operand.tmp 68), type := 0, pos := "disk.go:101", after := #[{ on := 10, ground := Ground.data }], guard := none }) (v := ?v11x11) rfl (by kernel_rfl) (by kernel_rfl) (by kernel_rfl) (fun _ _ _ h => h) (Or.inl ⟨by rfl, ?h11x11⟩) (by assumption) ?r11x11
      case h11x11 =>
        intro w' hSw
        (try dsimp only at hSw)
        go_simp
        first | done | with_reducible rfl | rfl
      (try simp only [Act.put, List.setIfInBounds_toArray, List.set_cons_zero, List.set_cons_succ])
      refine wpAnyH_take (i := 12) (oi := { dst := some 70, op := Op.fieldAddr 93 (Operand.tmp 69) 1, type := 0, pos := "disk.go:101", after := #[{ on := 11, ground := Ground.data }], guard := none }) (v := ?v12x12) rfl (by kernel_rfl) (by kernel_rfl) (by kernel_rfl) (fun _ _ _ h => h) (Or.inl ⟨by rfl, ?h12x12⟩) (by assumption) ?r12x12
      case h12x12 =>
        intro w' hSw
        (try dsimp only at hSw)
        go_simp
        first | done | with_reducible rfl | rfl
      (try simp only [Act.put, List.setIfInBounds_toArray, List.set_cons_zero, List.set_cons_succ])
      refine wpAnyH_ready (rs := [9, 13]) (by kernel_rfl) (by simp) (AllReadyH.cons rfl (fun K hK => ?_) (AllReadyH.cons rfl (fun K hK => ?_) AllReadyH.nil))
      · go_simp
        go_wp2_with fail
        refine (HFI.out _).mono ?_
        rintro e w4 ⟨rfl, hb4⟩
        have HD4 := hideIt (HD.out.block (w' := w4) (hb4.block B hlt))
        have HC4 := hideIt (HC.out.block (w' := w4) (hb4.block g HC.out.1))
        have HG4 := hideIt (grown_belowV HG0.out (below_of_drewD hb4))
        have hlt4 := HD4.out.lt
        clear hb4
        go_wp2_with fail
        refine hK.out _ _ ⟨HD4.out.rest.1, HC4.out.2⟩ (fun hHeld => ?_)
        clear hK K
        obtain ⟨k0, k1, k2, k3⟩ := HD4.out.kept
        refine wpAnyH_ready (rs := [13]) (by kernel_rfl) (by simp) (AllReadyH.cons rfl (fun K hK => ?_) AllReadyH.nil)
        go_simp
        refine hK.out _ _ ⟨HD4.out.rest.1, HC4.out.2⟩ (fun hHeld => ?_)
        clear hK K
        (try simp only [Act.put, List.setIfInBounds_toArray, List.set_cons_zero, List.set_cons_succ])
        refine wpAnyH_ready (rs := [14]) (by kernel_rfl) (by simp) (AllReadyH.cons rfl (fun K hK => ?_) AllReadyH.nil)
        go_simp
        go_wp2_with fail
        refine (HON.out _).mono ?_
        rintro e w5 ⟨rfl, hb5⟩
        have hD5 := HD4.out.block (w' := w5) (hb5.block B hlt4)
        have hC5 := HC4.out.block (w' := w5) (hb5.block g HC4.out.1)
        have HG5 := hideIt (grown_belowV HG4.out hb5)
        go_wp2_with fail
        refine hK.out _ _ ⟨hD5.rest.1, hC5.2⟩ (fun hHeld => ?_)
        clear hK K
        refine wpAnyH_take (i := 15) (oi := { dst := some 73, op := Op.nilCheck (Operand.tmp 58), type := 0, pos := "disk.go:101", after := #[{ on := 0, ground := Ground.data }, { on := 0, ground := Ground.phase }, { on := 1, ground := Ground.phase }, { on := 2, ground := Ground.phase }, { on := 3, ground := Ground.phase }, { on := 4, ground := Ground.phase }, { on := 5, ground := Ground.phase }, { on := 6, ground := Ground.phase }, { on := 7, ground := Ground.phase }, { on := 8, ground := Ground.phase }, { on := 9, ground := Ground.phase }, { on := 10, ground := Ground.phase }, { on := 11, ground := Ground.phase }, { on := 12, ground := Ground.phase }, { on := 13, ground := Ground.phase }, { on := 14, ground := Ground.phase }], guard := none }) (v := ?v13x15) rfl (by kernel_rfl) (by kernel_rfl) (by kernel_rfl) (fun _ _ _ h => h) (Or.inl ⟨by rfl, ?h13x15⟩) (by assumption) ?r13x15
        case h13x15 =>
          intro w' hSw
          (try dsimp only at hSw)
          go_simp
          first | done | with_reducible rfl | rfl
        (try simp only [Act.put, List.setIfInBounds_toArray, List.set_cons_zero, List.set_cons_succ])
        refine wpAnyH_take (i := 16) (oi := { dst := some 74, op := Op.fieldAddr 93 (Operand.tmp 73) 1, type := 0, pos := "disk.go:101", after := #[{ on := 15, ground := Ground.data }, { on := 0, ground := Ground.phase }, { on := 1, ground := Ground.phase }, { on := 2, ground := Ground.phase }, { on := 3, ground := Ground.phase }, { on := 4, ground := Ground.phase }, { on := 5, ground := Ground.phase }, { on := 6, ground := Ground.phase }, { on := 7, ground := Ground.phase }, { on := 8, ground := Ground.phase }, { on := 9, ground := Ground.phase }, { on := 10, ground := Ground.phase }, { on := 11, ground := Ground.phase }, { on := 12, ground := Ground.phase }, { on := 13, ground := Ground.phase }, { on := 14, ground := Ground.phase }], guard := none }) (v := ?v14x16) rfl (by kernel_rfl) (by kernel_rfl) (by kernel_rfl) (fun _ _ _ h => h) (Or.inl ⟨by rfl, ?h14x16⟩) (by assumption) ?r14x16
        case h14x16 =>
          intro w' hSw
          (try dsimp only at hSw)
          go_simp
          first | done | with_reducible rfl | rfl
        (try simp only [Act.put, List.setIfInBounds_toArray, List.set_cons_zero, List.set_cons_succ])
        obtain ⟨s0, s1, s2, s3⟩ := hD5.kept
        have HD6 := hideIt (hD5.setKept k')
        have HC6 := hideIt (hC5.block (((OnlyB.refl B w5).putS 4 k').1.block g hC5.1 (fun e => hgB (Option.some.inj e))))
        have HG6 := hideIt (grown_trans HG5.out ((OnlyB.refl B w5).putS 4 k').1)
        refine wpAnyH_ready (rs := [17]) (by kernel_rfl) (by simp) (AllReadyH.cons rfl (fun K hK => ?_) AllReadyH.nil)
        rw [if_pos (by rfl)]
        refine wp_storeS4 s0 s1 s2 s3 (hD5.frozen 4) (hD5.frozen 5) (hD5.frozen 6) (hD5.frozen 7) rfl rfl ?_
        refine hK.out _ _ ⟨HD6.out.rest.1, HC6.out.2⟩ (fun hHeld => ?_)
        clear hK K hD5 hC5 HG5 s0 s1 s2 s3 hb5 HON HFI HD4 HC4 HG4 hlt4 HD HC HG0
        generalize putS w5 B 4 k' = w6 at *
        refine wpAnyH_done (by kernel_rfl) ?_ _
        clear hHeld HC6
        obtain ⟨a0, a1, a2, a3⟩ := HD6.out.now
        obtain ⟨a4, a5, a6, a7⟩ := HD6.out.kept
        obtain ⟨b8, b9, b10⟩ := HD6.out.rest
        have f0 := HD6.out.frozen 0
        have f1 := HD6.out.frozen 1
        have f2 := HD6.out.frozen 2
        have f3 := HD6.out.frozen 3
        have f8 := HD6.out.frozen 8
        have f9 := HD6.out.frozen 9
        have f10 := HD6.out.frozen 10
        have HZ := hideIt ((((HD6.out.setNow k').set8 (.slice none 0 0)).set9 (-1)).set10 false)
        have HO := hideIt (grown_trans HG6.out (((((OnlyB.refl B w6).putS 0 k').set 8 (.slice none 0 0)).set 9 (.int .i64 (-1))).set 10 (.bool false)).1)
        unfold putS at HZ HO
        simp only [Nat.zero_add] at HZ HO
        clear HD6 HG6
        go_wp2_with fail
        go_end0
        exact ⟨rfl, HZ.out, HO.out⟩
      · obtain ⟨k0, k1, k2, k3⟩ := HD.out.kept
        go_simp
        refine hK.out _ _ ⟨HD.out.rest.1, HC.out.2⟩ (fun hHeld => ?_)
        clear hK K
        (try simp only [Act.put, List.setIfInBounds_toArray, List.set_cons_zero, List.set_cons_succ])
        refine wpAnyH_ready (rs := [9]) (by kernel_rfl) (by simp) (AllReadyH.cons rfl (fun K hK => ?_) AllReadyH.nil)
        go_simp
        go_wp2_with fail
        refine (HFI.out _).mono ?_
        rintro e w4 ⟨rfl, hb4⟩
        have HD4 := hideIt (HD.out.block (w' := w4) (hb4.block B hlt))
        have HC4 := hideIt (HC.out.block (w' := w4) (hb4.block g HC.out.1))
        have HG4 := hideIt (grown_belowV HG0.out (below_of_drewD hb4))
        have hlt4 := HD4.out.lt
        clear hb4
        go_wp2_with fail
        refine hK.out _ _ ⟨HD4.out.rest.1, HC4.out.2⟩ (fun hHeld => ?_)
        clear hK K
        refine wpAnyH_ready (rs := [14]) (by kernel_rfl) (by simp) (AllReadyH.cons rfl (fun K hK => ?_) AllReadyH.nil)
        go_simp
        go_wp2_with fail
        refine (HON.out _).mono ?_
        rintro e w5 ⟨rfl, hb5⟩
        have hD5 := HD4.out.block (w' := w5) (hb5.block B hlt4)
        have hC5 := HC4.out.block (w' := w5) (hb5.block g HC4.out.1)
        have HG5 := hideIt (grown_belowV HG4.out hb5)
        go_wp2_with fail
        refine hK.out _ _ ⟨hD5.rest.1, hC5.2⟩ (fun hHeld => ?_)
        clear hK K
        refine wpAnyH_take (i := 15) (oi := { dst := some 73, op := Op.nilCheck (Operand.tmp 58), type := 0, pos := "disk.go:101", after := #[{ on := 0, ground := Ground.data }, { on := 0, ground := Ground.phase }, { on := 1, ground := Ground.phase }, { on := 2, ground := Ground.phase }, { on := 3, ground := Ground.phase }, { on := 4, ground := Ground.phase }, { on := 5, ground := Ground.phase }, { on := 6, ground := Ground.phase }, { on := 7, ground := Ground.phase }, { on := 8, ground := Ground.phase }, { on := 9, ground := Ground.phase }, { on := 10, ground := Ground.phase }, { on := 11, ground := Ground.phase }, { on := 12, ground := Ground.phase }, { on := 13, ground := Ground.phase }, { on := 14, ground := Ground.phase }], guard := none }) (v := ?v15x15) rfl (by kernel_rfl) (by kernel_rfl) (by kernel_rfl) (fun _ _ _ h => h) (Or.inl ⟨by rfl, ?h15x15⟩) (by assumption) ?r15x15
        case h15x15 =>
          intro w' hSw
          (try dsimp only at hSw)
          go_simp
          first | done | with_reducible rfl | rfl
        (try simp only [Act.put, List.setIfInBounds_toArray, List.set_cons_zero, List.set_cons_succ])
        refine wpAnyH_take (i := 16) (oi := { dst := some 74, op := Op.fieldAddr 93 (Operand.tmp 73) 1, type := 0, pos := "disk.go:101", after := #[{ on := 15, ground := Ground.data }, { on := 0, ground := Ground.phase }, { on := 1, ground := Ground.phase }, { on := 2, ground := Ground.phase }, { on := 3, ground := Ground.phase }, { on := 4, ground := Ground.phase }, { on := 5, ground := Ground.phase }, { on := 6, ground := Ground.phase }, { on := 7, ground := Ground.phase }, { on := 8, ground := Ground.phase }, { on := 9, ground := Ground.phase }, { on := 10, ground := Ground.phase }, { on := 11, ground := Ground.phase }, { on := 12, ground := Ground.phase }, { on := 13, ground := Ground.phase }, { on := 14, ground := Ground.phase }], guard := none }) (v := ?v16x16) rfl (by kernel_rfl) (by kernel_rfl) (by kernel_rfl) (fun _ _ _ h => h) (Or.inl ⟨by rfl, ?h16x16⟩) (by assumption) ?r16x16
        case h16x16 =>
          intro w' hSw
          (try dsimp only at hSw)
          go_simp
          first | done | with_reducible rfl | rfl
        (try simp only [Act.put, List.setIfInBounds_toArray, List.set_cons_zero, List.set_cons_succ])
        obtain ⟨s0, s1, s2, s3⟩ := hD5.kept
        have HD6 := hideIt (hD5.setKept k')
        have HC6 := hideIt (hC5.block (((OnlyB.refl B w5).putS 4 k').1.block g hC5.1 (fun e => hgB (Option.some.inj e))))
        have HG6 := hideIt (grown_trans HG5.out ((OnlyB.refl B w5).putS 4 k').1)
        refine wpAnyH_ready (rs := [17]) (by kernel_rfl) (by simp) (AllReadyH.cons rfl (fun K hK => ?_) AllReadyH.nil)
        rw [if_pos (by rfl)]
        refine wp_storeS4 s0 s1 s2 s3 (hD5.frozen 4) (hD5.frozen 5) (hD5.frozen 6) (hD5.frozen 7) rfl rfl ?_
        refine hK.out _ _ ⟨HD6.out.rest.1, HC6.out.2⟩ (fun hHeld => ?_)
        clear hK K hD5 hC5 HG5 s0 s1 s2 s3 hb5 HON HFI HD4 HC4 HG4 hlt4 HD HC HG0
        generalize putS w5 B 4 k' = w6 at *
        refine wpAnyH_done (by kernel_rfl) ?_ _
        clear hHeld HC6
        obtain ⟨a0, a1, a2, a3⟩ := HD6.out.now
        obtain ⟨a4, a5, a6, a7⟩ := HD6.out.kept
        obtain ⟨b8, b9, b10⟩ := HD6.out.rest
        have f0 := HD6.out.frozen 0
        have f1 := HD6.out.frozen 1
        have f2 := HD6.out.frozen 2
        have f3 := HD6.out.frozen 3
        have f8 := HD6.out.frozen 8
        have f9 := HD6.out.frozen 9
        have f10 := HD6.out.frozen 10
        have HZ := hideIt ((((HD6.out.setNow k').set8 (.slice none 0 0)).set9 (-1)).set10 false)
        have HO := hideIt (grown_trans HG6.out (((((OnlyB.refl B w6).putS 0 k').set 8 (.slice none 0 0)).set 9 (.int .i64 (-1))).set 10 (.bool false)).1)
        unfold putS at HZ HO
        simp only [Nat.zero_add] at HZ HO
        clear HD6 HG6
        go_wp2_with fail
        go_end0
        exact ⟨rfl, HZ.out, HO.out⟩
  · subst hk
    have hm3 : min (0 : Int) 1 = 0 := by omega
    clear hkp
    go_enter Tryz.func24, Tryz.ntmps24
    go_wp2_with fail
    go_loop [23] (fun i => i = .int .i64 0) (fun _ => 0)
    case atStart => rfl
    case round =>
      subst hrel
      go_wp2_with fail
      refine wp_region_held_drew (S := fun w' => w'.cell? ⟨B, 8, none⟩ = some (.slice (some ⟨g, 0, none⟩) 1 cap) ∧ w'.cell? ⟨g, 0, none⟩ = some (.bool true) ∧ w'.cell? ⟨g, 1, none⟩ = some (.string bs)) (by kernel_rfl) ⟨c8, g0, g1⟩ (fun hHeld => ?_)
      refine wpAnyH_take (i := 0) (oi := { dst := some 58, op := Op.move (Operand.tmp 0), type := 33, pos := "disk.go:101", after := #[], guard := none }) (v := ?v17x0) rfl (by kernel_rfl) (by kernel_rfl) (by kernel_rfl) (fun _ _ _ h => h) (Or.inl ⟨by rfl, ?h17x0⟩) (by assumption) ?r17x0
      case h17x0 =>
        intro w' hSw
        (try dsimp only at hSw)
        go_simp
        first | done | with_reducible rfl | rfl
      (try simp only [Act.put, List.setIfInBounds_toArray, List.set_cons_zero, List.set_cons_succ])
      refine wpAnyH_take (i := 1) (oi := { dst := some 59, op := Op.move (Operand.tmp 0), type := 33, pos := "disk.go:101", after := #[], guard := none }) (v := ?v18x1) rfl (by kernel_rfl) (by kernel_rfl) (by kernel_rfl) (fun _ _ _ h => h) (Or.inl ⟨by rfl, ?h18x1⟩) (by assumption) ?r18x1
      case h18x1 =>
        intro w' hSw
        (try dsimp only at hSw)
        go_simp
        first | done | with_reducible rfl | rfl
      (try simp only [Act.put, List.setIfInBounds_toArray, List.set_cons_zero, List.set_cons_succ])
      refine wpAnyH_take (i := 2) (oi := { dst := some 60, op := Op.nilCheck (Operand.tmp 59), type := 0, pos := "disk.go:101", after := #[{ on := 1, ground := Ground.data }], guard := none }) (v := ?v19x2) rfl (by kernel_rfl) (by kernel_rfl) (by kernel_rfl) (fun _ _ _ h => h) (Or.inl ⟨by rfl, ?h19x2⟩) (by assumption) ?r19x2
      case h19x2 =>
        intro w' hSw
        (try dsimp only at hSw)
        go_simp
        first | done | with_reducible rfl | rfl
      (try simp only [Act.put, List.setIfInBounds_toArray, List.set_cons_zero, List.set_cons_succ])
      refine wpAnyH_take (i := 3) (oi := { dst := some 61, op := Op.fieldAddr 93 (Operand.tmp 60) 2, type := 0, pos := "disk.go:101", after := #[{ on := 2, ground := Ground.data }], guard := none }) (v := ?v20x3) rfl (by kernel_rfl) (by kernel_rfl) (by kernel_rfl) (fun _ _ _ h => h) (Or.inl ⟨by rfl, ?h20x3⟩) (by assumption) ?r20x3
      case h20x3 =>
        intro w' hSw
        (try dsimp only at hSw)
        go_simp
        first | done | with_reducible rfl | rfl
      (try simp only [Act.put, List.setIfInBounds_toArray, List.set_cons_zero, List.set_cons_succ])
      refine wpAnyH_take (i := 4) (oi := { dst := some 62, op := Op.load 91 (Operand.tmp 61), type := 91, pos := "disk.go:101", after := #[{ on := 3, ground := Ground.data }], guard := none }) (v := ?v21x4) rfl (by kernel_rfl) (by kernel_rfl) (by kernel_rfl) (fun _ _ _ h => h) (Or.inl ⟨by rfl, ?h21x4⟩) (by assumption) ?r21x4
      case h21x4 =>
        intro w' hSw
        (try dsimp only at hSw)
        go_simp
        first | done | with_reducible rfl | rfl
      (try simp only [Act.put, List.setIfInBounds_toArray, List.set_cons_zero, List.set_cons_succ])
      refine wpAnyH_take (i := 5) (oi := { dst := some 63, op := Op.move (Operand.tmp 1), type := 3, pos := "disk.go:101", after := #[], guard := none }) (v := ?v22x5) rfl (by kernel_rfl) (by kernel_rfl) (by kernel_rfl) (fun _ _ _ h => h) (Or.inl ⟨by rfl, ?h22x5⟩) (by assumption) ?r22x5
      case h22x5 =>
        intro w' hSw
        (try dsimp only at hSw)
        go_simp
        first | done | with_reducible rfl | rfl
      (try simp only [Act.put, List.setIfInBounds_toArray, List.set_cons_zero, List.set_cons_succ])
      refine wpAnyH_take (i := 6) (oi := { dst := some 64, op := Op.indexAddr 91 (Operand.tmp 62) (Operand.tmp 63), type := 0, pos := "disk.go:101", after := #[{ on := 4, ground := Ground.data }, { on := 5, ground := Ground.data }], guard := none }) (v := ?v23x6) rfl (by kernel_rfl) (by kernel_rfl) (by kernel_rfl) (fun _ _ _ h => h) (Or.inl ⟨by rfl, ?h23x6⟩) (by assumption) ?r23x6
      case h23x6 =>
        intro w' hSw
        (try dsimp only at hSw)
        go_simp
        first | done | with_reducible rfl | rfl
      (try simp only [Act.put, List.setIfInBounds_toArray, List.set_cons_zero, List.set_cons_succ])
      refine wpAnyH_take (i := 7) (oi := { dst := some 65, op := Op.load 111 (Operand.tmp 64), type := 111, pos := "disk.go:101", after := #[{ on := 6, ground := Ground.data }], guard := none }) (v := ?v24x7) rfl (by kernel_rfl) (by kernel_rfl) (by kernel_rfl) (fun _ _ _ h => h) (Or.inl ⟨by rfl, ?h24x7⟩) (by assumption) ?r24x7
      case h24x7 =>
        intro w' hSw
        (try dsimp only at hSw)
        go_simp
        first | done | with_reducible rfl | rfl
      (try simp only [Act.put, List.setIfInBounds_toArray, List.set_cons_zero, List.set_cons_succ])
      refine wpAnyH_take (i := 8) (oi := { dst := some 66, op := Op.move (Operand.tmp 2), type := 3, pos := "disk.go:101", after := #[], guard := none }) (v := ?v25x8) rfl (by kernel_rfl) (by kernel_rfl) (by kernel_rfl) (fun _ _ _ h => h) (Or.inl ⟨by rfl, ?h25x8⟩) (by assumption) ?r25x8
      case h25x8 =>
        intro w' hSw
        (try dsimp only at hSw)
        go_simp
        first | done | with_reducible rfl | rfl
      (try simp only [Act.put, List.setIfInBounds_toArray, List.set_cons_zero, List.set_cons_succ])
      refine wpAnyH_take (i := 10) (oi := { dst := some 68, op := Op.move (Operand.tmp 0), type := 33, pos := "disk.go:101", after := #[], guard := none }) (v := ?v26x10) rfl (by kernel_rfl) (by kernel_rfl) (by kernel_rfl) (fun _ _ _ h => h) (Or.inl ⟨by rfl, ?h26x10⟩) (by assumption) ?r26x10
      case h26x10 =>
        intro w' hSw
        (try dsimp only at hSw)
        go_simp
        first | done | with_reducible rfl | rfl
      (try simp only [Act.put, List.setIfInBounds_toArray, List.set_cons_zero, List.set_cons_succ])
      refine wpAnyH_take (i := 11) (oi := { dst := some 69, op := Op.nilCheck (Operand.tmp 68), type := 0, pos := "disk.go:101", after := #[{ on := 10, ground := Ground.data }], guard := none }) (v := ?v27x11) rfl (by kernel_rfl) (by kernel_rfl) (by kernel_rfl) (fun _ _ _ h => h) (Or.inl ⟨by rfl, ?h27x11⟩) (by assumption) ?r27x11
      case h27x11 =>
        intro w' hSw
        (try dsimp only at hSw)
        go_simp
        first | done | with_reducible rfl | rfl
      (try simp only [Act.put, List.setIfInBounds_toArray, List.set_cons_zero, List.set_cons_succ])
      refine wpAnyH_take (i := 12) (oi := { dst := some 70, op := Op.fieldAddr 93 (Operand.tmp 69) 1, type := 0, pos := "disk.go:101", after := #[{ on := 11, ground := Ground.data }], guard := none }) (v := ?v28x12) rfl (by kernel_rfl) (by kernel_rfl) (by kernel_rfl) (fun _ _ _ h => h) (Or.inl ⟨by rfl, ?h28x12⟩) (by assumption) ?r28x12
      case h28x12 =>
        intro w' hSw
        (try dsimp only at hSw)
        go_simp
        first | done | with_reducible rfl | rfl
      (try simp only [Act.put, List.setIfInBounds_toArray, List.set_cons_zero, List.set_cons_succ])
      refine wpAnyH_ready (rs := [9, 13]) (by kernel_rfl) (by simp) (AllReadyH.cons rfl (fun K hK => ?_) (AllReadyH.cons rfl (fun K hK => ?_) AllReadyH.nil))
      · go_simp
        go_wp2_with fail
        refine (HFI.out _).mono ?_
        rintro e w4 ⟨rfl, hb4⟩
        have HD4 := hideIt (HD.out.block (w' := w4) (hb4.block B hlt))
        have HC4 := hideIt (HC.out.block (w' := w4) (hb4.block g HC.out.1))
        have HG4 := hideIt (grown_belowV HG0.out (below_of_drewD hb4))
        have hlt4 := HD4.out.lt
        clear hb4
        go_wp2_with fail
        refine hK.out _ _ ⟨HD4.out.rest.1, HC4.out.2⟩ (fun hHeld => ?_)
        clear hK K
        obtain ⟨k0, k1, k2, k3⟩ := HD4.out.kept
        refine wpAnyH_ready (rs := [13]) (by kernel_rfl) (by simp) (AllReadyH.cons rfl (fun K hK => ?_) AllReadyH.nil)
        go_simp
        refine hK.out _ _ ⟨HD4.out.rest.1, HC4.out.2⟩ (fun hHeld => ?_)
        clear hK K
        (try simp only [Act.put, List.setIfInBounds_toArray, List.set_cons_zero, List.set_cons_succ])
        refine wpAnyH_ready (rs := [14]) (by kernel_rfl) (by simp) (AllReadyH.cons rfl (fun K hK => ?_) AllReadyH.nil)
        go_simp
        go_wp2_with fail
        refine (HON.out _).mono ?_
        rintro e w5 ⟨rfl, hb5⟩
        have hD5 := HD4.out.block (w' := w5) (hb5.block B hlt4)
        have hC5 := HC4.out.block (w' := w5) (hb5.block g HC4.out.1)
        have HG5 := hideIt (grown_belowV HG4.out hb5)
        go_wp2_with fail
        refine hK.out _ _ ⟨hD5.rest.1, hC5.2⟩ (fun hHeld => ?_)
        clear hK K
        refine wpAnyH_take (i := 15) (oi := { dst := some 73, op := Op.nilCheck (Operand.tmp 58), type := 0, pos := "disk.go:101", after := #[{ on := 0, ground := Ground.data }, { on := 0, ground := Ground.phase }, { on := 1, ground := Ground.phase }, { on := 2, ground := Ground.phase }, { on := 3, ground := Ground.phase }, { on := 4, ground := Ground.phase }, { on := 5, ground := Ground.phase }, { on := 6, ground := Ground.phase }, { on := 7, ground := Ground.phase }, { on := 8, ground := Ground.phase }, { on := 9, ground := Ground.phase }, { on := 10, ground := Ground.phase }, { on := 11, ground := Ground.phase }, { on := 12, ground := Ground.phase }, { on := 13, ground := Ground.phase }, { on := 14, ground := Ground.phase }], guard := none }) (v := ?v29x15) rfl (by kernel_rfl) (by kernel_rfl) (by kernel_rfl) (fun _ _ _ h => h) (Or.inl ⟨by rfl, ?h29x15⟩) (by assumption) ?r29x15
        case h29x15 =>
          intro w' hSw
          (try dsimp only at hSw)
          go_simp
          first | done | with_reducible rfl | rfl
        (try simp only [Act.put, List.setIfInBounds_toArray, List.set_cons_zero, List.set_cons_succ])
        refine wpAnyH_take (i := 16) (oi := { dst := some 74, op := Op.fieldAddr 93 (Operand.tmp 73) 1, type := 0, pos := "disk.go:101", after := #[{ on := 15, ground := Ground.data }, { on := 0, ground := Ground.phase }, { on := 1, ground := Ground.phase }, { on := 2, ground := Ground.phase }, { on := 3, ground := Ground.phase }, { on := 4, ground := Ground.phase }, { on := 5, ground := Ground.phase }, { on := 6, ground := Ground.phase }, { on := 7, ground := Ground.phase }, { on := 8, ground := Ground.phase }, { on := 9, ground := Ground.phase }, { on := 10, ground := Ground.phase }, { on := 11, ground := Ground.phase }, { on := 12, ground := Ground.phase }, { on := 13, ground := Ground.phase }, { on := 14, ground := Ground.phase }], guard := none }) (v := ?v30x16) rfl (by kernel_rfl) (by kernel_rfl) (by kernel_rfl) (fun _ _ _ h => h) (Or.inl ⟨by rfl, ?h30x16⟩) (by assumption) ?r30x16
        case h30x16 =>
          intro w' hSw
          (try dsimp only at hSw)
          go_simp
          first | done | with_reducible rfl | rfl
        (try simp only [Act.put, List.setIfInBounds_toArray, List.set_cons_zero, List.set_cons_succ])
        obtain ⟨s0, s1, s2, s3⟩ := hD5.kept
        have HD6 := hideIt (hD5.setKept k')
        have HC6 := hideIt (hC5.block (((OnlyB.refl B w5).putS 4 k').1.block g hC5.1 (fun e => hgB (Option.some.inj e))))
        have HG6 := hideIt (grown_trans HG5.out ((OnlyB.refl B w5).putS 4 k').1)
        refine wpAnyH_ready (rs := [17]) (by kernel_rfl) (by simp) (AllReadyH.cons rfl (fun K hK => ?_) AllReadyH.nil)
        rw [if_pos (by rfl)]
        refine wp_storeS4 s0 s1 s2 s3 (hD5.frozen 4) (hD5.frozen 5) (hD5.frozen 6) (hD5.frozen 7) rfl rfl ?_
        refine hK.out _ _ ⟨HD6.out.rest.1, HC6.out.2⟩ (fun hHeld => ?_)
        clear hK K hD5 hC5 HG5 s0 s1 s2 s3 hb5 HON HFI HD4 HC4 HG4 hlt4 HD HC HG0
        generalize putS w5 B 4 k' = w6 at *
        refine wpAnyH_done (by kernel_rfl) ?_ _
        clear hHeld HC6
        obtain ⟨a0, a1, a2, a3⟩ := HD6.out.now
        obtain ⟨a4, a5, a6, a7⟩ := HD6.out.kept
        obtain ⟨b8, b9, b10⟩ := HD6.out.rest
        have f0 := HD6.out.frozen 0
        have f1 := HD6.out.frozen 1
        have f2 := HD6.out.frozen 2
        have f3 := HD6.out.frozen 3
        have f8 := HD6.out.frozen 8
        have f9 := HD6.out.frozen 9
        have f10 := HD6.out.frozen 10
        have HZ := hideIt ((((HD6.out.setNow k').set8 (.slice none 0 0)).set9 (-1)).set10 false)
        have HO := hideIt (grown_trans HG6.out (((((OnlyB.refl B w6).putS 0 k').set 8 (.slice none 0 0)).set 9 (.int .i64 (-1))).set 10 (.bool false)).1)
        unfold putS at HZ HO
        simp only [Nat.zero_add] at HZ HO
        clear HD6 HG6
        go_wp2_with fail
        go_end0
        exact ⟨rfl, HZ.out, HO.out⟩
      · obtain ⟨k0, k1, k2, k3⟩ := HD.out.kept
        go_simp
        refine hK.out _ _ ⟨HD.out.rest.1, HC.out.2⟩ (fun hHeld => ?_)
        clear hK K
        (try simp only [Act.put, List.setIfInBounds_toArray, List.set_cons_zero, List.set_cons_succ])
        refine wpAnyH_ready (rs := [9]) (by kernel_rfl) (by simp) (AllReadyH.cons rfl (fun K hK => ?_) AllReadyH.nil)
        go_simp
        go_wp2_with fail
        refine (HFI.out _).mono ?_
        rintro e w4 ⟨rfl, hb4⟩
        have HD4 := hideIt (HD.out.block (w' := w4) (hb4.block B hlt))
        have HC4 := hideIt (HC.out.block (w' := w4) (hb4.block g HC.out.1))
        have HG4 := hideIt (grown_belowV HG0.out (below_of_drewD hb4))
        have hlt4 := HD4.out.lt
        clear hb4
        go_wp2_with fail
        refine hK.out _ _ ⟨HD4.out.rest.1, HC4.out.2⟩ (fun hHeld => ?_)
        clear hK K
        refine wpAnyH_ready (rs := [14]) (by kernel_rfl) (by simp) (AllReadyH.cons rfl (fun K hK => ?_) AllReadyH.nil)
        go_simp
        go_wp2_with fail
        refine (HON.out _).mono ?_
        rintro e w5 ⟨rfl, hb5⟩
        have hD5 := HD4.out.block (w' := w5) (hb5.block B hlt4)
        have hC5 := HC4.out.block (w' := w5) (hb5.block g HC4.out.1)
        have HG5 := hideIt (grown_belowV HG4.out hb5)
        go_wp2_with fail
        refine hK.out _ _ ⟨hD5.rest.1, hC5.2⟩ (fun hHeld => ?_)
        clear hK K
        refine wpAnyH_take (i := 15) (oi := { dst := some 73, op := Op.nilCheck (Operand.tmp 58), type := 0, pos := "disk.go:101", after := #[{ on := 0, ground := Ground.data }, { on := 0, ground := Ground.phase }, { on := 1, ground := Ground.phase }, { on := 2, ground := Ground.phase }, { on := 3, ground := Ground.phase }, { on := 4, ground := Ground.phase }, { on := 5, ground := Ground.phase }, { on := 6, ground := Ground.phase }, { on := 7, ground := Ground.phase }, { on := 8, ground := Ground.phase }, { on := 9, ground := Ground.phase }, { on := 10, ground := Ground.phase }, { on := 11, ground := Ground.phase }, { on := 12, ground := Ground.phase }, { on := 13, ground := Ground.phase }, { on := 14, ground := Ground.phase }], guard := none }) (v := ?v31x15) rfl (by kernel_rfl) (by kernel_rfl) (by kernel_rfl) (fun _ _ _ h => h) (Or.inl ⟨by rfl, ?h31x15⟩) (by assumption) ?r31x15
        case h31x15 =>
          intro w' hSw
          (try dsimp only at hSw)
          go_simp
          first | done | with_reducible rfl | rfl
        (try simp only [Act.put, List.setIfInBounds_toArray, List.set_cons_zero, List.set_cons_succ])
        refine wpAnyH_take (i := 16) (oi := { dst := some 74, op := Op.fieldAddr 93 (Operand.tmp 73) 1, type := 0, pos := "disk.go:101", after := #[{ on := 15, ground := Ground.data }, { on := 0, ground := Ground.phase }, { on := 1, ground := Ground.phase }, { on := 2, ground := Ground.phase }, { on := 3, ground := Ground.phase }, { on := 4, ground := Ground.phase }, { on := 5, ground := Ground.phase }, { on := 6, ground := Ground.phase }, { on := 7, ground := Ground.phase }, { on := 8, ground := Ground.phase }, { on := 9, ground := Ground.phase }, { on := 10, ground := Ground.phase }, { on := 11, ground := Ground.phase }, { on := 12, ground := Ground.phase }, { on := 13, ground := Ground.phase }, { on := 14, ground := Ground.phase }], guard := none }) (v := ?v32x16) rfl (by kernel_rfl) (by kernel_rfl) (by kernel_rfl) (fun _ _ _ h => h) (Or.inl ⟨by rfl, ?h32x16⟩) (by assumption) ?r32x16
        case h32x16 =>
          intro w' hSw
          (try dsimp only at hSw)
          go_simp
          first | done | with_reducible rfl | rfl
        (try simp only [Act.put, List.setIfInBounds_toArray, List.set_cons_zero, List.set_cons_succ])
        obtain ⟨s0, s1, s2, s3⟩ := hD5.kept
        have HD6 := hideIt (hD5.setKept k')
        have HC6 := hideIt (hC5.block (((OnlyB.refl B w5).putS 4 k').1.block g hC5.1 (fun e => hgB (Option.some.inj e))))
        have HG6 := hideIt (grown_trans HG5.out ((OnlyB.refl B w5).putS 4 k').1)
        refine wpAnyH_ready (rs := [17]) (by kernel_rfl) (by simp) (AllReadyH.cons rfl (fun K hK => ?_) AllReadyH.nil)
        rw [if_pos (by rfl)]
        refine wp_storeS4 s0 s1 s2 s3 (hD5.frozen 4) (hD5.frozen 5) (hD5.frozen 6) (hD5.frozen 7) rfl rfl ?_
        refine hK.out _ _ ⟨HD6.out.rest.1, HC6.out.2⟩ (fun hHeld => ?_)
        clear hK K hD5 hC5 HG5 s0 s1 s2 s3 hb5 HON HFI HD4 HC4 HG4 hlt4 HD HC HG0
        generalize putS w5 B 4 k' = w6 at *
        refine wpAnyH_done (by kernel_rfl) ?_ _
        clear hHeld HC6
        obtain ⟨a0, a1, a2, a3⟩ := HD6.out.now
        obtain ⟨a4, a5, a6, a7⟩ := HD6.out.kept
        obtain ⟨b8, b9, b10⟩ := HD6.out.rest
        have f0 := HD6.out.frozen 0
        have f1 := HD6.out.frozen 1
        have f2 := HD6.out.frozen 2
        have f3 := HD6.out.frozen 3
        have f8 := HD6.out.frozen 8
        have f9 := HD6.out.frozen 9
        have f10 := HD6.out.frozen 10
        have HZ := hideIt ((((HD6.out.setNow k').set8 (.slice none 0 0)).set9 (-1)).set10 false)
        have HO := hideIt (grown_trans HG6.out (((((OnlyB.refl B w6).putS 0 k').set 8 (.slice none 0 0)).set 9 (.int .i64 (-1))).set 10 (.bool false)).1)
        unfold putS at HZ HO
        simp only [Nat.zero_add] at HZ HO
        clear HD6 HG6
        go_wp2_with fail
        go_end0
        exact ⟨rfl, HZ.out, HO.out⟩
end Go.Proofs.YtlljniaobbbjgaaGreatDoor
