/- What runs, compared: the contract. -/
import Derived.Test.YthekalhceamcoaaRK3
import Derived.Test.YthekalhceamcoaaEMath
import Derived.Deep.RegionHeld3
namespace Go.Proofs.Ythekalhceamcoaa
open Go.RowKit
open Qos (cmpS ltS orI)
theorem below_drewR {B : Nat} {a w : World} (h : Below B a w) : Below B a w.drew := ⟨h.os, h.tape, h.output, h.size, h.block⟩
theorem eq_strR (a b : ByteArray) : (a.toList == b.toList) = decide (a = b) := by
  rw [Bool.eq_iff_iff, beq_iff_eq, decide_eq_true_iff, ByteArray.toList_eq, ByteArray.toList_eq]
  exact ⟨fun h => ByteArray.ext (Array.toList_inj.mp h), fun h => by rw [h]⟩
set_option maxHeartbeats 400000 in
theorem nanStr_anyR (x : ByteArray) (w : World) : Calls Try.prog 155 #[.string x] w fun e w' => e = .returned (.bool false) ∧ w' = w := by
  go_enter Try.func155, Try.ntmps155
  go_wp2_with fail
  go_ret
  exact ⟨by simp, rfl⟩
set_option maxHeartbeats 400000 in
theorem cmpStr_anyR (x y : ByteArray) (w : World) : Calls Try.prog 125 #[.string x, .string y] w fun e w' => e = .returned (.int .i64 (cmpS x y)) ∧ w' = w := by
  have HT : Hid (cmpS x y = if ltS x y = true then -1 else if ltS y x = true then 1 else 0) := rfl
  have HTOT := hideIt (Qos.ltS_total x y)
  have HAS := hideIt (Qos.ltS_asymm x y)
  generalize cmpS x y = T at *
  rcases two (ltS x y) with h1 | h1
  · have HE := hideIt (HT.out.trans (if_pos h1))
    have h1' : Op.bytesLess x.toList y.toList = true := h1
    clear HT h1 HTOT HAS
    go_enter Try.func125, Try.ntmps125
    go_wp2_with fail
    refine (nanStr_anyR _ _).mono ?_
    rintro e w1 ⟨rfl, rfl⟩
    go_wp2_with fail
    refine (nanStr_anyR _ _).mono ?_
    rintro e w1 ⟨rfl, rfl⟩
    go_wp2_with fail
    go_ret
    exact ⟨by rw [HE.out]; rfl, rfl⟩
  · have HT1 := hideIt (HT.out.trans (if_neg (by rw [h1]; decide)))
    have h1' : Op.bytesLess x.toList y.toList = false := h1
    rcases two (ltS y x) with h2 | h2
    · have HE := hideIt (HT1.out.trans (if_pos h2))
      have hne : (x.toList == y.toList) = false := by
        rw [eq_strR]
        refine decide_eq_false fun e => ?_
        subst e
        rw [h1] at h2
        cases h2
      clear HT HT1 h1 h2 HTOT HAS
      go_enter Try.func125, Try.ntmps125
      go_wp2_with fail
      refine (nanStr_anyR _ _).mono ?_
      rintro e w1 ⟨rfl, rfl⟩
      go_wp2_with fail
      refine (nanStr_anyR _ _).mono ?_
      rintro e w1 ⟨rfl, rfl⟩
      go_wp2_with fail
      go_ret
      exact ⟨by rw [HE.out]; rfl, rfl⟩
    · have HE := hideIt (HT1.out.trans (if_neg (by rw [h2]; decide)))
      have hxy : x = y := HTOT.out (by rw [h1]; rfl) (by rw [h2]; rfl)
      subst hxy
      clear HT HT1 h1 h2 HTOT HAS
      go_enter Try.func125, Try.ntmps125
      go_wp2_with fail
      refine (nanStr_anyR _ _).mono ?_
      rintro e w1 ⟨rfl, rfl⟩
      go_wp2_with fail
      refine (nanStr_anyR _ _).mono ?_
      rintro e w1 ⟨rfl, rfl⟩
      go_wp2_with fail
      go_ret
      exact ⟨by rw [HE.out]; rfl, rfl⟩
set_option maxRecDepth 100000 in
set_option maxHeartbeats 1000000 in
theorem or2_anyR (a b : Int) (g n : Nat) (w : World) (h0 : w.cell? ⟨g, 0, none⟩ = some (.int .i64 a)) (h1 : w.cell? ⟨g, 1, none⟩ = some (.int .i64 b)) :
    Calls Try.prog 124 #[.slice (some ⟨g, 0, none⟩) 2 n] w fun e w' => e = .returned (.int .i64 (orI a b)) ∧ w' = w := by
  have HO : Hid (∀ k : Nat, k < 2 → ∃ v : Int, w.cell? ⟨g, k, none⟩ = some (.int .i64 v) ∧ (v = if k = 0 then a else b)) := by
    intro k hk
    have : k = 0 ∨ k = 1 := by omega
    rcases this with rfl | rfl
    · exact ⟨a, h0, rfl⟩
    · exact ⟨b, h1, rfl⟩
  clear h0 h1
  go_enter Try.func124, Try.ntmps124
  go_wp2_with fail
  go_loop [8] (fun i => ∃ k : Nat, k ≤ 2 ∧ i = .int .i64 k ∧ Hid ((0 < k → a = 0) ∧ (1 < k → b = 0))) (fun i => 2 - (intOf i).toNat)
  case atStart => exact ⟨0, by omega, rfl, ⟨fun h => by omega, fun h => by omega⟩⟩
  case round =>
    obtain ⟨k, hk, rfl, HZ⟩ := hrel
    by_cases hlt : k < 2
    · obtain ⟨v, hc, hv⟩ := HO.out k hlt
      have HV := hideIt hv
      clear hv
      by_cases h0 : v = 0
      · subst h0
        have HZ2 : Hid ((0 < k + 1 → a = 0) ∧ (1 < k + 1 → b = 0)) := by
          obtain ⟨z0, z1⟩ := HZ.out
          have hv := HV.out
          have : k = 0 ∨ k = 1 := by omega
          rcases this with rfl | rfl
          · simp at hv; exact ⟨fun _ => hv.symm, fun h => by omega⟩
          · simp at hv; exact ⟨fun _ => z0 (by omega), fun _ => hv.symm⟩
        go_wp2_with fail
        go_round
        case rel => exact ⟨k + 1, by omega, by go_num, HZ2⟩
        case measure => simp [intOf]; omega
      · have HE : Hid (orI a b = v) := by
          obtain ⟨z0, z1⟩ := HZ.out
          have hv := HV.out
          have : k = 0 ∨ k = 1 := by omega
          unfold Hid orI
          rcases this with rfl | rfl
          · simp at hv; subst hv; rw [if_neg h0]
          · simp at hv; subst hv; rw [if_pos (z0 (by omega))]
        have hb : (v != 0) = true := by simp [h0]
        go_wp2_with fail
        go_ret
        exact ⟨by rw [HE.out]; rfl, rfl⟩
    · have hke : k = 2 := by omega
      subst hke
      have HE : Hid (orI a b = 0) := by
        obtain ⟨z0, z1⟩ := HZ.out
        unfold Hid orI
        rw [if_pos (z0 (by omega)), z1 (by omega)]
      go_wp2_with fail
      go_ret
      exact ⟨by rw [HE.out]; rfl, rfl⟩
/-- A box of what runs. -/
def RBox (W : World) (B : Nat) (x : RV) : Prop := W.heap[B]? = some (.cells #[.string x.pod, .string x.cont, .int .u64 x.cpus, .slice x.da x.dn x.dc] 119 (0, 0))
theorem RBox.lt {W : World} {B : Nat} {x : RV} (h : RBox W B x) : B < W.heap.size := (Array.getElem?_eq_some_iff.1 h).1
theorem RBox.cells {W : World} {B : Nat} {x : RV} (h : RBox W B x) : W.cell? ⟨B, 0, none⟩ = some (.string x.pod) ∧ W.cell? ⟨B, 1, none⟩ = some (.string x.cont) ∧ W.cell? ⟨B, 2, none⟩ = some (.int .u64 x.cpus) ∧ W.cell? ⟨B, 3, none⟩ = some (.slice x.da x.dn x.dc) := by
  refine ⟨?_, ?_, ?_, ?_⟩ <;> simp [World.cell?, show W.heap[B]? = _ from h]
theorem RBox.made (w : World) (x : RV) : RBox (w.alloc (.cells #[.string x.pod, .string x.cont, .int .u64 x.cpus, .slice x.da x.dn x.dc] 119)) w.heap.size x := World.alloc_heap_new w _
theorem RBox.below {W W' : World} {B : Nat} {x : RV} (h : RBox W B x) (hb : Below W.heap.size W W') : RBox W' B x := (hb.block B h.lt).trans h
theorem RBox.alloc {W : World} {B : Nat} {x : RV} (h : RBox W B x) (o : Obj) : RBox (W.alloc o) B x := h.below ((Below.refl _ W).alloc (Nat.le_refl _) o)
theorem two_made (w : World) (t : TypeId) (a b : Int) : (w.alloc (.cells #[.int .i64 a, .int .i64 b] t)).cell? ⟨w.heap.size, 0, none⟩ = some (.int .i64 a) ∧ (w.alloc (.cells #[.int .i64 a, .int .i64 b] t)).cell? ⟨w.heap.size, 1, none⟩ = some (.int .i64 b) := ⟨by simp, by simp⟩
set_option maxRecDepth 100000 in
set_option maxHeartbeats 2000000 in
theorem cmpRun_any (x y : RV) (w : World) : Calls Try.prog 123 #[.agg #[.string x.pod, .string x.cont, .int .u64 x.cpus, .slice x.da x.dn x.dc], .agg #[.string y.pod, .string y.cont, .int .u64 y.cpus, .slice y.da y.dn y.dc]] w fun e w' => e = .returned (.int .i64 (orI (cmpS x.pod y.pod) (cmpS x.cont y.cont))) ∧ Below w.heap.size w w' ∧ w.drawn ≤ w'.drawn := by
  have hb0 := ((Below.refl w.heap.size w).alloc (Nat.le_refl _) (.cells #[.string x.pod, .string x.cont, .int .u64 x.cpus, .slice x.da x.dn x.dc] 119)).alloc (by simp) (.cells #[.string y.pod, .string y.cont, .int .u64 y.cpus, .slice y.da y.dn y.dc] 119)
  have HBd := hideIt (below_drewR hb0)
  have HA := hideIt (((RBox.made w x).alloc (.cells #[.string y.pod, .string y.cont, .int .u64 y.cpus, .slice y.da y.dn y.dc] 119)).below (below_drewR (Below.refl _ _)))
  have hC := (RBox.made (w.alloc (.cells #[.string x.pod, .string x.cont, .int .u64 x.cpus, .slice x.da x.dn x.dc] 119)) y).below (below_drewR (Below.refl _ _))
  rw [show (w.alloc (.cells #[.string x.pod, .string x.cont, .int .u64 x.cpus, .slice x.da x.dn x.dc] 119)).heap.size = w.heap.size + 1 by simp] at hC
  have HC := hideIt hC
  clear hb0 hC
  go_enter Try.func123, Try.ntmps123
  go_wp2_with fail
  refine wp_region_held_drew (S := (fun w' => (w'.cell? ⟨w.heap.size, 0, none⟩ = some (.string x.pod) ∧ w'.cell? ⟨w.heap.size, 1, none⟩ = some (.string x.cont)) ∧ w'.cell? ⟨w.heap.size + 1, 0, none⟩ = some (.string y.pod) ∧ w'.cell? ⟨w.heap.size + 1, 1, none⟩ = some (.string y.cont))) (by kernel_rfl) ⟨⟨HA.out.cells.1, HA.out.cells.2.1⟩, HC.out.cells.1, HC.out.cells.2.1⟩ (fun hHeld => ?_)
  refine wpAnyH_take (i := 0) (oi := { dst := some 5, op := Op.fieldAddr 119 (Operand.tmp 2) 0, type := 0, pos := "engine.go:56", after := #[], guard := none }) (v := ?v1x0) rfl (by kernel_rfl) (by kernel_rfl) (by kernel_rfl) (fun _ _ _ h => h) (Or.inl ⟨by rfl, ?h1x0⟩) (by assumption) ?r1x0
  case h1x0 =>
    intro w' hSw
    (try dsimp only at hSw)
    go_simp
    first | done | with_reducible rfl | rfl
  (try simp only [Act.put, List.setIfInBounds_toArray, List.set_cons_zero, List.set_cons_succ])
  refine wpAnyH_take (i := 1) (oi := { dst := some 6, op := Op.load 9 (Operand.tmp 5), type := 9, pos := "engine.go:56", after := #[{ on := 0, ground := Ground.data }], guard := none }) (v := ?v2x1) rfl (by kernel_rfl) (by kernel_rfl) (by kernel_rfl) (fun _ _ _ h => h) (Or.inl ⟨by rfl, ?h2x1⟩) (by assumption) ?r2x1
  case h2x1 =>
    intro w' hSw
    (try dsimp only at hSw)
    go_simp
    first | done | with_reducible rfl | rfl
  (try simp only [Act.put, List.setIfInBounds_toArray, List.set_cons_zero, List.set_cons_succ])
  refine wpAnyH_take (i := 2) (oi := { dst := some 7, op := Op.fieldAddr 119 (Operand.tmp 3) 0, type := 0, pos := "engine.go:56", after := #[], guard := none }) (v := ?v3x2) rfl (by kernel_rfl) (by kernel_rfl) (by kernel_rfl) (fun _ _ _ h => h) (Or.inl ⟨by rfl, ?h3x2⟩) (by assumption) ?r3x2
  case h3x2 =>
    intro w' hSw
    (try dsimp only at hSw)
    go_simp
    first | done | with_reducible rfl | rfl
  (try simp only [Act.put, List.setIfInBounds_toArray, List.set_cons_zero, List.set_cons_succ])
  refine wpAnyH_take (i := 3) (oi := { dst := some 8, op := Op.load 9 (Operand.tmp 7), type := 9, pos := "engine.go:56", after := #[{ on := 2, ground := Ground.data }], guard := none }) (v := ?v4x3) rfl (by kernel_rfl) (by kernel_rfl) (by kernel_rfl) (fun _ _ _ h => h) (Or.inl ⟨by rfl, ?h4x3⟩) (by assumption) ?r4x3
  case h4x3 =>
    intro w' hSw
    (try dsimp only at hSw)
    go_simp
    first | done | with_reducible rfl | rfl
  (try simp only [Act.put, List.setIfInBounds_toArray, List.set_cons_zero, List.set_cons_succ])
  refine wpAnyH_take (i := 5) (oi := { dst := some 10, op := Op.fieldAddr 119 (Operand.tmp 2) 1, type := 0, pos := "engine.go:56", after := #[], guard := none }) (v := ?v5x5) rfl (by kernel_rfl) (by kernel_rfl) (by kernel_rfl) (fun _ _ _ h => h) (Or.inl ⟨by rfl, ?h5x5⟩) (by assumption) ?r5x5
  case h5x5 =>
    intro w' hSw
    (try dsimp only at hSw)
    go_simp
    first | done | with_reducible rfl | rfl
  (try simp only [Act.put, List.setIfInBounds_toArray, List.set_cons_zero, List.set_cons_succ])
  refine wpAnyH_take (i := 6) (oi := { dst := some 11, op := Op.load 9 (Operand.tmp 10), type := 9, pos := "engine.go:56", after := #[{ on := 5, ground := Ground.data }], guard := none }) (v := ?v6x6) rfl (by kernel_rfl) (by kernel_rfl) (by kernel_rfl) (fun _ _ _ h => h) (Or.inl ⟨by rfl, ?h6x6⟩) (by assumption) ?r6x6
  case h6x6 =>
    intro w' hSw
    (try dsimp only at hSw)
    go_simp
    first | done | with_reducible rfl | rfl
  (try simp only [Act.put, List.setIfInBounds_toArray, List.set_cons_zero, List.set_cons_succ])
  refine wpAnyH_take (i := 7) (oi := { dst := some 12, op := Op.fieldAddr 119 (Operand.tmp 3) 1, type := 0, pos := "engine.go:56", after := #[], guard := none }) (v := ?v7x7) rfl (by kernel_rfl) (by kernel_rfl) (by kernel_rfl) (fun _ _ _ h => h) (Or.inl ⟨by rfl, ?h7x7⟩) (by assumption) ?r7x7
  case h7x7 =>
    intro w' hSw
    (try dsimp only at hSw)
    go_simp
    first | done | with_reducible rfl | rfl
  (try simp only [Act.put, List.setIfInBounds_toArray, List.set_cons_zero, List.set_cons_succ])
  refine wpAnyH_take (i := 8) (oi := { dst := some 13, op := Op.load 9 (Operand.tmp 12), type := 9, pos := "engine.go:56", after := #[{ on := 7, ground := Ground.data }], guard := none }) (v := ?v8x8) rfl (by kernel_rfl) (by kernel_rfl) (by kernel_rfl) (fun _ _ _ h => h) (Or.inl ⟨by rfl, ?h8x8⟩) (by assumption) ?r8x8
  case h8x8 =>
    intro w' hSw
    (try dsimp only at hSw)
    go_simp
    first | done | with_reducible rfl | rfl
  (try simp only [Act.put, List.setIfInBounds_toArray, List.set_cons_zero, List.set_cons_succ])
  refine wpAnyH_ready (rs := [4]) (by kernel_rfl) (by simp) (AllReadyH.cons rfl (fun K hK => ?_) AllReadyH.nil)
  go_simp
  go_wp2_with fail
  refine (cmpStr_anyR _ _ _).mono ?_
  rintro e wx ⟨rfl, rfl⟩
  go_wp2_with fail
  refine hK.out _ _ ⟨⟨HA.out.cells.1, HA.out.cells.2.1⟩, HC.out.cells.1, HC.out.cells.2.1⟩ (fun hHeld => ?_)
  clear hK K
  refine wpAnyH_ready (rs := [9]) (by kernel_rfl) (by simp) (AllReadyH.cons rfl (fun K hK => ?_) AllReadyH.nil)
  go_simp
  go_wp2_with fail
  refine (cmpStr_anyR _ _ _).mono ?_
  rintro e wx ⟨rfl, rfl⟩
  go_wp2_with fail
  refine hK.out _ _ ⟨⟨HA.out.cells.1, HA.out.cells.2.1⟩, HC.out.cells.1, HC.out.cells.2.1⟩ (fun hHeld => ?_)
  clear hK K
  have HA8 := hideIt (HA.out.alloc (.cells #[.int .i64 (cmpS x.pod y.pod), .int .i64 (cmpS x.cont y.cont)] 3))
  have HC8 := hideIt (HC.out.alloc (.cells #[.int .i64 (cmpS x.pod y.pod), .int .i64 (cmpS x.cont y.cont)] 3))
  have HB8 := hideIt (HBd.out.alloc HBd.out.size (.cells #[.int .i64 (cmpS x.pod y.pod), .int .i64 (cmpS x.cont y.cont)] 3))
  have hD8 := two_made (((w.alloc (.cells #[.string x.pod, .string x.cont, .int .u64 x.cpus, .slice x.da x.dn x.dc] 119)).alloc (.cells #[.string y.pod, .string y.cont, .int .u64 y.cpus, .slice y.da y.dn y.dc] 119)).drew) 3 (cmpS x.pod y.pod) (cmpS x.cont y.cont)
  rw [show (((w.alloc (.cells #[.string x.pod, .string x.cont, .int .u64 x.cpus, .slice x.da x.dn x.dc] 119)).alloc (.cells #[.string y.pod, .string y.cont, .int .u64 y.cpus, .slice y.da y.dn y.dc] 119)).drew).heap.size = w.heap.size + 1 + 1 by simp [World.drew]] at hD8
  have HD8 := hideIt hD8
  clear hD8
  refine wpAnyH_ready (rs := [10]) (by kernel_rfl) (by simp) (AllReadyH.cons rfl (fun K hK => ?_) AllReadyH.nil)
  go_simp
  go_wp2_with fail
  refine hK.out _ _ ⟨⟨HA8.out.cells.1, HA8.out.cells.2.1⟩, HC8.out.cells.1, HC8.out.cells.2.1⟩ (fun hHeld => ?_)
  clear hK K
  refine wpAnyH_ready (rs := [11]) (by kernel_rfl) (by simp) (AllReadyH.cons rfl (fun K hK => ?_) AllReadyH.nil)
  go_simp
  go_wp2_with fail
  refine (or2_anyR (cmpS x.pod y.pod) (cmpS x.cont y.cont) _ _ _ HD8.out.1 HD8.out.2).mono ?_
  rintro e wx ⟨rfl, rfl⟩
  go_wp2_with fail
  refine hK.out _ _ ⟨⟨HA8.out.cells.1, HA8.out.cells.2.1⟩, HC8.out.cells.1, HC8.out.cells.2.1⟩ (fun hHeld => ?_)
  clear hK K
  refine wpAnyH_take (i := 12) (oi := { dst := some 4, op := Op.assign (Operand.tmp 16), type := 3, pos := "engine.go:56", after := #[{ on := 11, ground := Ground.data }, { on := 11, ground := Ground.chain }, { on := 0, ground := Ground.phase }, { on := 1, ground := Ground.phase }, { on := 2, ground := Ground.phase }, { on := 3, ground := Ground.phase }, { on := 4, ground := Ground.phase }, { on := 5, ground := Ground.phase }, { on := 6, ground := Ground.phase }, { on := 7, ground := Ground.phase }, { on := 8, ground := Ground.phase }, { on := 9, ground := Ground.phase }, { on := 10, ground := Ground.phase }, { on := 11, ground := Ground.phase }], guard := none }) (v := ?v9x12) rfl (by kernel_rfl) (by kernel_rfl) (by kernel_rfl) (fun _ _ _ h => h) (Or.inl ⟨by rfl, ?h9x12⟩) (by assumption) ?r9x12
  case h9x12 =>
    intro w' hSw
    (try dsimp only at hSw)
    go_simp
    first | done | with_reducible rfl | rfl
  (try simp only [Act.put, List.setIfInBounds_toArray, List.set_cons_zero, List.set_cons_succ])
  refine wpAnyH_done (by kernel_rfl) ?_ _
  go_wp2_with fail
  go_ret
  exact ⟨rfl, HB8.out, Nat.le_succ _⟩
end Go.Proofs.Ythekalhceamcoaa
