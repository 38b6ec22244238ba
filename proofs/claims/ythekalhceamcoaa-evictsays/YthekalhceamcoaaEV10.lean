/- Totals compared: the contract. -/
import Derived.Test.YthekalhceamcoaaEV9
namespace Go.Proofs.Ythekalhceamcoaa
open Go.RowKit
open Qos (Nd nd usedOf Tot orI)
set_option maxRecDepth 100000 in
set_option maxHeartbeats 1000000 in
theorem or2_any (a b : Int) (g n : Nat) (w : World) (h0 : w.cell? ⟨g, 0, none⟩ = some (.int .i64 a)) (h1 : w.cell? ⟨g, 1, none⟩ = some (.int .i64 b)) :
    Calls Try.prog 124 #[.slice (some ⟨g, 0, none⟩) 2 n] w fun e w' => e = .returned (.int .i64 (orI a b)) ∧ w' = w := by
  have HO : Hid (∀ k : Nat, k < 2 → ∃ v : Int, w.cell? ⟨g, k, none⟩ = some (.int .i64 v) ∧ (v = if k = 0 then a else b)) := by
    intro k hk
    have : k = 0 ∨ k = 1 := by omega
    rcases this with rfl | rfl
    · exact ⟨a, h0, rfl⟩
    · exact ⟨b, h1, rfl⟩
  clear h0 h1
  go_enter Try.func124, Try.ntmps124
  go_wp2_with fail
  go_loop [8] (fun i => ∃ k : Nat, k ≤ 2 ∧ i = .int .i64 k ∧ Hid ((0 < k → a = 0) ∧ (1 < k → b = 0))) (fun i => 2 - (intOf i).toNat)
  case atStart => exact ⟨0, by omega, rfl, ⟨fun h => by omega, fun h => by omega⟩⟩
  case round =>
    obtain ⟨k, hk, rfl, HZ⟩ := hrel
    by_cases hlt : k < 2
    · obtain ⟨v, hc, hv⟩ := HO.out k hlt
      have HV := hideIt hv
      clear hv
      by_cases h0 : v = 0
      · subst h0
        have HZ2 : Hid ((0 < k + 1 → a = 0) ∧ (1 < k + 1 → b = 0)) := by
          obtain ⟨z0, z1⟩ := HZ.out
          have hv := HV.out
          have : k = 0 ∨ k = 1 := by omega
          rcases this with rfl | rfl
          · simp at hv; exact ⟨fun _ => hv.symm, fun h => by omega⟩
          · simp at hv; exact ⟨fun _ => z0 (by omega), fun _ => hv.symm⟩
        go_wp2_with fail
        go_round
        case rel => exact ⟨k + 1, by omega, by go_num, HZ2⟩
        case measure => simp [intOf]; omega
      · have HE : Hid (orI a b = v) := by
          obtain ⟨z0, z1⟩ := HZ.out
          have hv := HV.out
          have : k = 0 ∨ k = 1 := by omega
          unfold Hid orI
          rcases this with rfl | rfl
          · simp at hv; subst hv; rw [if_neg h0]
          · simp at hv; subst hv; rw [if_pos (z0 (by omega))]
        have hb : (v != 0) = true := by simp [h0]
        go_wp2_with fail
        go_ret
        exact ⟨by rw [HE.out]; rfl, rfl⟩
    · have hke : k = 2 := by omega
      subst hke
      have HE : Hid (orI a b = 0) := by
        obtain ⟨z0, z1⟩ := HZ.out
        unfold Hid orI
        rw [if_pos (z0 (by omega)), z1 (by omega)]
      go_wp2_with fail
      go_ret
      exact ⟨by rw [HE.out]; rfl, rfl⟩
theorem tot_le {h l v h' l' v' : Int} (t : Tot h l v) (t' : Tot h' l' v') : orI (Lib.compareInt h h') (Lib.compareInt l l') ≤ 0 ↔ v ≤ v' := by
  rw [← t.le t']
  unfold orI Lib.compareInt
  obtain ⟨h1, h2, h3⟩ := t
  obtain ⟨g1, g2, g3⟩ := t'
  repeat' split
  all_goals omega
set_option maxRecDepth 100000 in
set_option maxHeartbeats 2000000 in
theorem compare_any (h l h' l' : Int) (w : World) : Calls Try.prog 113 #[.agg #[.int .i64 h, .int .i64 l], .agg #[.int .i64 h', .int .i64 l']] w fun e w' => e = .returned (.int .i64 (orI (Lib.compareInt h h') (Lib.compareInt l l'))) ∧ Below w.heap.size w w' := by
  have hb0 := ((Below.refl w.heap.size w).alloc (Nat.le_refl _) (.cells #[.int .i64 h, .int .i64 l] 171)).alloc (by simp) (.cells #[.int .i64 h', .int .i64 l'] 171)
  have HBd := hideIt (below_drew' hb0)
  have HA := hideIt (((TwoAt.made w 171 h l).alloc (.cells #[.int .i64 h', .int .i64 l'] 171)).below (below_drew' (Below.refl _ _)))
  have hC := (TwoAt.made (w.alloc (.cells #[.int .i64 h, .int .i64 l] 171)) 171 h' l').below (below_drew' (Below.refl _ _))
  rw [show (w.alloc (.cells #[.int .i64 h, .int .i64 l] 171)).heap.size = w.heap.size + 1 by simp] at hC
  have HC := hideIt hC
  clear hb0 hC
  go_enter Try.func113, Try.ntmps113
  go_wp2_with fail
  refine wp_region_held_drew (S := (fun w' => w'.cell? ⟨w.heap.size, 0, none⟩ = some (.int .i64 h) ∧ w'.cell? ⟨w.heap.size, 1, none⟩ = some (.int .i64 l) ∧ w'.cell? ⟨w.heap.size + 1, 0, none⟩ = some (.int .i64 h') ∧ w'.cell? ⟨w.heap.size + 1, 1, none⟩ = some (.int .i64 l'))) (by kernel_rfl) ⟨HA.out.1.1, HA.out.2.1, HC.out.1.1, HC.out.2.1⟩ (fun hHeld => ?_)
  refine wpAnyH_take (i := 0) (oi := { dst := some 5, op := Op.fieldAddr 171 (Operand.tmp 2) 0, type := 0, pos := "evict.go:90", after := #[], guard := none }) (v := ?v1x0) rfl (by kernel_rfl) (by kernel_rfl) (by kernel_rfl) (fun _ _ _ h => h) (Or.inl ⟨by rfl, ?h1x0⟩) (by assumption) ?r1x0
  case h1x0 =>
    intro w' hSw
    (try dsimp only at hSw)
    go_simp
    first | done | with_reducible rfl | rfl
  (try simp only [Act.put, List.setIfInBounds_toArray, List.set_cons_zero, List.set_cons_succ])
  refine wpAnyH_take (i := 1) (oi := { dst := some 6, op := Op.load 3 (Operand.tmp 5), type := 3, pos := "evict.go:90", after := #[{ on := 0, ground := Ground.data }], guard := none }) (v := ?v2x1) rfl (by kernel_rfl) (by kernel_rfl) (by kernel_rfl) (fun _ _ _ h => h) (Or.inl ⟨by rfl, ?h2x1⟩) (by assumption) ?r2x1
  case h2x1 =>
    intro w' hSw
    (try dsimp only at hSw)
    go_simp
    first | done | with_reducible rfl | rfl
  (try simp only [Act.put, List.setIfInBounds_toArray, List.set_cons_zero, List.set_cons_succ])
  refine wpAnyH_take (i := 2) (oi := { dst := some 7, op := Op.fieldAddr 171 (Operand.tmp 3) 0, type := 0, pos := "evict.go:90", after := #[], guard := none }) (v := ?v3x2) rfl (by kernel_rfl) (by kernel_rfl) (by kernel_rfl) (fun _ _ _ h => h) (Or.inl ⟨by rfl, ?h3x2⟩) (by assumption) ?r3x2
  case h3x2 =>
    intro w' hSw
    (try dsimp only at hSw)
    go_simp
    first | done | with_reducible rfl | rfl
  (try simp only [Act.put, List.setIfInBounds_toArray, List.set_cons_zero, List.set_cons_succ])
  refine wpAnyH_take (i := 3) (oi := { dst := some 8, op := Op.load 3 (Operand.tmp 7), type := 3, pos := "evict.go:90", after := #[{ on := 2, ground := Ground.data }], guard := none }) (v := ?v4x3) rfl (by kernel_rfl) (by kernel_rfl) (by kernel_rfl) (fun _ _ _ h => h) (Or.inl ⟨by rfl, ?h4x3⟩) (by assumption) ?r4x3
  case h4x3 =>
    intro w' hSw
    (try dsimp only at hSw)
    go_simp
    first | done | with_reducible rfl | rfl
  (try simp only [Act.put, List.setIfInBounds_toArray, List.set_cons_zero, List.set_cons_succ])
  refine wpAnyH_take (i := 5) (oi := { dst := some 10, op := Op.fieldAddr 171 (Operand.tmp 2) 1, type := 0, pos := "evict.go:90", after := #[], guard := none }) (v := ?v5x5) rfl (by kernel_rfl) (by kernel_rfl) (by kernel_rfl) (fun _ _ _ h => h) (Or.inl ⟨by rfl, ?h5x5⟩) (by assumption) ?r5x5
  case h5x5 =>
    intro w' hSw
    (try dsimp only at hSw)
    go_simp
    first | done | with_reducible rfl | rfl
  (try simp only [Act.put, List.setIfInBounds_toArray, List.set_cons_zero, List.set_cons_succ])
  refine wpAnyH_take (i := 6) (oi := { dst := some 11, op := Op.load 3 (Operand.tmp 10), type := 3, pos := "evict.go:90", after := #[{ on := 5, ground := Ground.data }], guard := none }) (v := ?v6x6) rfl (by kernel_rfl) (by kernel_rfl) (by kernel_rfl) (fun _ _ _ h => h) (Or.inl ⟨by rfl, ?h6x6⟩) (by assumption) ?r6x6
  case h6x6 =>
    intro w' hSw
    (try dsimp only at hSw)
    go_simp
    first | done | with_reducible rfl | rfl
  (try simp only [Act.put, List.setIfInBounds_toArray, List.set_cons_zero, List.set_cons_succ])
  refine wpAnyH_take (i := 7) (oi := { dst := some 12, op := Op.fieldAddr 171 (Operand.tmp 3) 1, type := 0, pos := "evict.go:90", after := #[], guard := none }) (v := ?v7x7) rfl (by kernel_rfl) (by kernel_rfl) (by kernel_rfl) (fun _ _ _ h => h) (Or.inl ⟨by rfl, ?h7x7⟩) (by assumption) ?r7x7
  case h7x7 =>
    intro w' hSw
    (try dsimp only at hSw)
    go_simp
    first | done | with_reducible rfl | rfl
  (try simp only [Act.put, List.setIfInBounds_toArray, List.set_cons_zero, List.set_cons_succ])
  refine wpAnyH_take (i := 8) (oi := { dst := some 13, op := Op.load 3 (Operand.tmp 12), type := 3, pos := "evict.go:90", after := #[{ on := 7, ground := Ground.data }], guard := none }) (v := ?v8x8) rfl (by kernel_rfl) (by kernel_rfl) (by kernel_rfl) (fun _ _ _ h => h) (Or.inl ⟨by rfl, ?h8x8⟩) (by assumption) ?r8x8
  case h8x8 =>
    intro w' hSw
    (try dsimp only at hSw)
    go_simp
    first | done | with_reducible rfl | rfl
  (try simp only [Act.put, List.setIfInBounds_toArray, List.set_cons_zero, List.set_cons_succ])
  refine wpAnyH_ready (rs := [4]) (by kernel_rfl) (by simp) (AllReadyH.cons rfl (fun K hK => ?_) AllReadyH.nil)
  go_simp
  go_wp2_with fail
  refine (cmpInt_anyE _ _ _).mono ?_
  rintro e wx ⟨rfl, rfl⟩
  go_wp2_with fail
  refine hK.out _ _ ⟨HA.out.1.1, HA.out.2.1, HC.out.1.1, HC.out.2.1⟩ (fun hHeld => ?_)
  clear hK K
  refine wpAnyH_ready (rs := [9]) (by kernel_rfl) (by simp) (AllReadyH.cons rfl (fun K hK => ?_) AllReadyH.nil)
  go_simp
  go_wp2_with fail
  refine (cmpInt_anyE _ _ _).mono ?_
  rintro e wx ⟨rfl, rfl⟩
  go_wp2_with fail
  refine hK.out _ _ ⟨HA.out.1.1, HA.out.2.1, HC.out.1.1, HC.out.2.1⟩ (fun hHeld => ?_)
  clear hK K
  have HA8 := hideIt (HA.out.alloc (.cells #[.int .i64 (Lib.compareInt h h'), .int .i64 (Lib.compareInt l l')] 3))
  have HC8 := hideIt (HC.out.alloc (.cells #[.int .i64 (Lib.compareInt h h'), .int .i64 (Lib.compareInt l l')] 3))
  have HB8 := hideIt (HBd.out.alloc HBd.out.size (.cells #[.int .i64 (Lib.compareInt h h'), .int .i64 (Lib.compareInt l l')] 3))
  have hD8 := TwoAt.made (((w.alloc (.cells #[.int .i64 h, .int .i64 l] 171)).alloc (.cells #[.int .i64 h', .int .i64 l'] 171)).drew) 3 (Lib.compareInt h h') (Lib.compareInt l l')
  rw [show (((w.alloc (.cells #[.int .i64 h, .int .i64 l] 171)).alloc (.cells #[.int .i64 h', .int .i64 l'] 171)).drew).heap.size = w.heap.size + 1 + 1 by simp [World.drew]] at hD8
  have HD8 := hideIt hD8
  clear hD8
  refine wpAnyH_ready (rs := [10]) (by kernel_rfl) (by simp) (AllReadyH.cons rfl (fun K hK => ?_) AllReadyH.nil)
  go_simp
  go_wp2_with fail
  refine hK.out _ _ ⟨HA8.out.1.1, HA8.out.2.1, HC8.out.1.1, HC8.out.2.1⟩ (fun hHeld => ?_)
  clear hK K
  refine wpAnyH_ready (rs := [11]) (by kernel_rfl) (by simp) (AllReadyH.cons rfl (fun K hK => ?_) AllReadyH.nil)
  go_simp
  go_wp2_with fail
  refine (or2_any (Lib.compareInt h h') (Lib.compareInt l l') _ _ _ HD8.out.1.1 HD8.out.2.1).mono ?_
  rintro e wx ⟨rfl, rfl⟩
  go_wp2_with fail
  refine hK.out _ _ ⟨HA8.out.1.1, HA8.out.2.1, HC8.out.1.1, HC8.out.2.1⟩ (fun hHeld => ?_)
  clear hK K
  refine wpAnyH_take (i := 12) (oi := { dst := some 4, op := Op.assign (Operand.tmp 16), type := 3, pos := "evict.go:90", after := #[{ on := 11, ground := Ground.data }, { on := 11, ground := Ground.chain }, { on := 0, ground := Ground.phase }, { on := 1, ground := Ground.phase }, { on := 2, ground := Ground.phase }, { on := 3, ground := Ground.phase }, { on := 4, ground := Ground.phase }, { on := 5, ground := Ground.phase }, { on := 6, ground := Ground.phase }, { on := 7, ground := Ground.phase }, { on := 8, ground := Ground.phase }, { on := 9, ground := Ground.phase }, { on := 10, ground := Ground.phase }, { on := 11, ground := Ground.phase }], guard := none }) (v := ?v9x12) rfl (by kernel_rfl) (by kernel_rfl) (by kernel_rfl) (fun _ _ _ h => h) (Or.inl ⟨by rfl, ?h9x12⟩) (by assumption) ?r9x12
  case h9x12 =>
    intro w' hSw
    (try dsimp only at hSw)
    go_simp
    first | done | with_reducible rfl | rfl
  (try simp only [Act.put, List.setIfInBounds_toArray, List.set_cons_zero, List.set_cons_succ])
  refine wpAnyH_done (by kernel_rfl) ?_ _
  go_wp2_with fail
  go_ret
  exact ⟨rfl, HB8.out⟩
end Go.Proofs.Ythekalhceamcoaa
