/- What is set for pods: contracts of package qos. -/
import Derived.Test.YthekalhceamcoaaQG1
import Derived.Deep.RegionHeld3
namespace Go.Proofs.Ythekalhceamcoaa
open Go.RowKit
open Qos (Nd Ct Pd nd0 ct0 pd0 nd ct pd classOf sumM sumB Mild shares quota lim Words pathOf sumTo)
/-- The words of paths. -/
def words : Words := ⟨⟨#[47, 108, 111, 119, 47]⟩, ⟨#[47, 109, 105, 100, 47]⟩, ⟨#[47]⟩, ⟨#[47, 108, 111, 119]⟩, ⟨#[47, 109, 105, 100]⟩⟩
set_option maxRecDepth 100000 in
set_option maxHeartbeats 2000000 in
theorem path_any (p : Pd) (cv : Value) (w : World) (h : ConsAt w cv p.cs) (hn : p.nm.size ≤ 1000) : Calls Try.prog 103 #[podV p cv] w fun e w' => e = .returned (.string (pathOf words p)) ∧ Below w.heap.size w w' := by
  have hs := h.slice
  unfold podV
  have HB0 := hideIt ((Below.refl w.heap.size w).alloc (Nat.le_refl _) (.cells #[.string p.nm, .int .i64 p.pr, cv] 60))
  have HP := hideIt (PBoxAt.made w p cv)
  have HC := hideIt (class_any p cv _ (h.below HB0.out))
  unfold podV at HC
  obtain ⟨pa, pn, pc, rfl⟩ := hs
  have hcl := Qos.class_in p.cs
  have HPA : Hid (pathOf words p = if classOf p.cs = 1 then words.low ++ p.nm else if classOf p.cs = 2 then words.mid ++ p.nm else words.sep ++ p.nm) := rfl
  generalize classOf p.cs = K at *
  generalize pathOf words p = PA at *
  clear h
  rcases hcl with rfl | rfl | rfl
  all_goals
    rw [HPA.out]
    clear HPA
    go_enter Try.func103, Try.ntmps103
    go_wp2_with fail
    refine HC.out.mono ?_
    rintro e w1 ⟨rfl, hb1⟩
    obtain ⟨q0, q1, q2, q3⟩ := HP.out.below hb1
    have HB1 := hideIt (HB0.out.trans (hb1.mono HB0.out.size))
    clear hb1 HP HB0 HC
    go_wp2_with fail
    go_ret
    exact ⟨rfl, HB1.out⟩
set_option maxRecDepth 100000 in
set_option maxHeartbeats 2000000 in
theorem groupOf_any (s : ByteArray) (am ab cm cb : Int) (w : World) (h0 : 0 ≤ am) (h1 : am ≤ 1000000000) (h2 : 0 ≤ cm) (h3 : cm ≤ 1000000000) :
    Calls Try.prog 104 #[.string s, .agg #[.int .i64 am, .int .i64 ab], .agg #[.int .i64 cm, .int .i64 cb]] w fun e w' => e = .returned (.agg #[.string s, .int .i64 (shares am), .int .i64 (quota cm), .int .i64 cb]) ∧ Below w.heap.size w w' := by
  have HBd := hideIt (below_drew' ((((Below.refl w.heap.size w).alloc (Nat.le_refl _) (.cells #[.int .i64 am, .int .i64 ab] 89)).alloc (by simp) (.cells #[.int .i64 cm, .int .i64 cb] 89)).alloc (by simp; omega) (.cells #[.string ⟨#[]⟩, .int .i64 0, .int .i64 0, .int .i64 0] 107)))
  have HA := hideIt ((((TwoAt.made w 89 am ab).alloc (.cells #[.int .i64 cm, .int .i64 cb] 89)).alloc (.cells #[.string ⟨#[]⟩, .int .i64 0, .int .i64 0, .int .i64 0] 107)).below (below_drew' (Below.refl _ _)))
  have hC := (((TwoAt.made (w.alloc (.cells #[.int .i64 am, .int .i64 ab] 89)) 89 cm cb).alloc (.cells #[.string ⟨#[]⟩, .int .i64 0, .int .i64 0, .int .i64 0] 107)).below (below_drew' (Below.refl _ _)))
  rw [show (w.alloc (.cells #[.int .i64 am, .int .i64 ab] 89)).heap.size = w.heap.size + 1 by simp] at hC
  have HC := hideIt hC
  clear hC
  go_enter Try.func104, Try.ntmps104
  go_wp2_with fail
  refine wp_region_held_drew (S := (fun w' => w'.cell? ⟨w.heap.size, 0, none⟩ = some (.int .i64 am) ∧ w'.cell? ⟨w.heap.size + 1, 0, none⟩ = some (.int .i64 cm) ∧ w'.cell? ⟨w.heap.size + 1, 1, none⟩ = some (.int .i64 cb))) (by kernel_rfl) ⟨HA.out.1.1, HC.out.1.1, HC.out.2.1⟩ (fun hHeld => ?_)
  refine wpAnyH_take (i := 0) (oi := { dst := some 7, op := Op.move (Operand.tmp 0), type := 9, pos := "qos.go:186", after := #[], guard := none }) (v := ?v1x0) rfl (by kernel_rfl) (by kernel_rfl) (by kernel_rfl) (fun _ _ _ h => h) (Or.inl ⟨by rfl, ?h1x0⟩) (by assumption) ?r1x0
  case h1x0 =>
    intro w' hSw
    (try dsimp only at hSw)
    go_simp
    first | done | with_reducible rfl | rfl
  (try simp only [Act.put, List.setIfInBounds_toArray, List.set_cons_zero, List.set_cons_succ])
  refine wpAnyH_take (i := 1) (oi := { dst := some 8, op := Op.fieldAddr 89 (Operand.tmp 4) 0, type := 0, pos := "qos.go:186", after := #[], guard := none }) (v := ?v2x1) rfl (by kernel_rfl) (by kernel_rfl) (by kernel_rfl) (fun _ _ _ h => h) (Or.inl ⟨by rfl, ?h2x1⟩) (by assumption) ?r2x1
  case h2x1 =>
    intro w' hSw
    (try dsimp only at hSw)
    go_simp
    first | done | with_reducible rfl | rfl
  (try simp only [Act.put, List.setIfInBounds_toArray, List.set_cons_zero, List.set_cons_succ])
  refine wpAnyH_take (i := 2) (oi := { dst := some 9, op := Op.load 3 (Operand.tmp 8), type := 3, pos := "qos.go:186", after := #[{ on := 1, ground := Ground.data }], guard := none }) (v := ?v3x2) rfl (by kernel_rfl) (by kernel_rfl) (by kernel_rfl) (fun _ _ _ h => h) (Or.inl ⟨by rfl, ?h3x2⟩) (by assumption) ?r3x2
  case h3x2 =>
    intro w' hSw
    (try dsimp only at hSw)
    go_simp
    first | done | with_reducible rfl | rfl
  (try simp only [Act.put, List.setIfInBounds_toArray, List.set_cons_zero, List.set_cons_succ])
  refine wpAnyH_take (i := 4) (oi := { dst := some 11, op := Op.fieldAddr 89 (Operand.tmp 5) 0, type := 0, pos := "qos.go:186", after := #[], guard := none }) (v := ?v4x4) rfl (by kernel_rfl) (by kernel_rfl) (by kernel_rfl) (fun _ _ _ h => h) (Or.inl ⟨by rfl, ?h4x4⟩) (by assumption) ?r4x4
  case h4x4 =>
    intro w' hSw
    (try dsimp only at hSw)
    go_simp
    first | done | with_reducible rfl | rfl
  (try simp only [Act.put, List.setIfInBounds_toArray, List.set_cons_zero, List.set_cons_succ])
  refine wpAnyH_take (i := 5) (oi := { dst := some 12, op := Op.load 3 (Operand.tmp 11), type := 3, pos := "qos.go:186", after := #[{ on := 4, ground := Ground.data }], guard := none }) (v := ?v5x5) rfl (by kernel_rfl) (by kernel_rfl) (by kernel_rfl) (fun _ _ _ h => h) (Or.inl ⟨by rfl, ?h5x5⟩) (by assumption) ?r5x5
  case h5x5 =>
    intro w' hSw
    (try dsimp only at hSw)
    go_simp
    first | done | with_reducible rfl | rfl
  (try simp only [Act.put, List.setIfInBounds_toArray, List.set_cons_zero, List.set_cons_succ])
  refine wpAnyH_take (i := 7) (oi := { dst := some 14, op := Op.fieldAddr 89 (Operand.tmp 5) 1, type := 0, pos := "qos.go:186", after := #[], guard := none }) (v := ?v6x7) rfl (by kernel_rfl) (by kernel_rfl) (by kernel_rfl) (fun _ _ _ h => h) (Or.inl ⟨by rfl, ?h6x7⟩) (by assumption) ?r6x7
  case h6x7 =>
    intro w' hSw
    (try dsimp only at hSw)
    go_simp
    first | done | with_reducible rfl | rfl
  (try simp only [Act.put, List.setIfInBounds_toArray, List.set_cons_zero, List.set_cons_succ])
  refine wpAnyH_take (i := 8) (oi := { dst := some 15, op := Op.load 3 (Operand.tmp 14), type := 3, pos := "qos.go:186", after := #[{ on := 7, ground := Ground.data }], guard := none }) (v := ?v7x8) rfl (by kernel_rfl) (by kernel_rfl) (by kernel_rfl) (fun _ _ _ h => h) (Or.inl ⟨by rfl, ?h7x8⟩) (by assumption) ?r7x8
  case h7x8 =>
    intro w' hSw
    (try dsimp only at hSw)
    go_simp
    first | done | with_reducible rfl | rfl
  (try simp only [Act.put, List.setIfInBounds_toArray, List.set_cons_zero, List.set_cons_succ])
  refine wpAnyH_ready (rs := [3]) (by kernel_rfl) (by simp) (AllReadyH.cons rfl (fun K hK => ?_) AllReadyH.nil)
  go_simp
  go_wp2_with fail
  refine (shares_any am _ h0 h1).mono ?_
  rintro e w5 ⟨rfl, rfl⟩
  go_wp2_with fail
  refine hK.out _ _ hHeld (fun hHeld => ?_)
  clear hK K
  refine wpAnyH_ready (rs := [6]) (by kernel_rfl) (by simp) (AllReadyH.cons rfl (fun K hK => ?_) AllReadyH.nil)
  go_simp
  go_wp2_with fail
  refine (quota_any cm _ h2 h3).mono ?_
  rintro e w5 ⟨rfl, rfl⟩
  go_wp2_with fail
  refine hK.out _ _ hHeld (fun hHeld => ?_)
  clear hK K
  refine wpAnyH_take (i := 9) (oi := { dst := some 16, op := Op.build 107 #[(0, Operand.tmp 7), (1, Operand.tmp 10), (2, Operand.tmp 13), (3, Operand.tmp 15)], type := 107, pos := "qos.go:186", after := #[{ on := 0, ground := Ground.data }, { on := 3, ground := Ground.data }, { on := 6, ground := Ground.data }, { on := 8, ground := Ground.data }], guard := none }) (v := ?v8x9) rfl (by kernel_rfl) (by kernel_rfl) (by kernel_rfl) (fun _ _ _ h => h) (Or.inl ⟨by rfl, ?h8x9⟩) (by assumption) ?r8x9
  case h8x9 =>
    intro w' hSw
    (try dsimp only at hSw)
    go_simp
    first | done | with_reducible rfl | rfl
  (try simp only [Act.put, List.setIfInBounds_toArray, List.set_cons_zero, List.set_cons_succ])
  refine wpAnyH_ready (rs := [10]) (by kernel_rfl) (by simp) (AllReadyH.cons rfl (fun K hK => ?_) AllReadyH.nil)
  go_simp
  go_wp2_with fail
  have HA2 := hideIt ((((TwoAt.made w 89 am ab).alloc (.cells #[.int .i64 cm, .int .i64 cb] 89)).alloc (.cells #[.string s, .int .i64 (shares am), .int .i64 (quota cm), .int .i64 cb] 107)).below (below_drew' (Below.refl _ _)))
  have hC := (((TwoAt.made (w.alloc (.cells #[.int .i64 am, .int .i64 ab] 89)) 89 cm cb).alloc (.cells #[.string s, .int .i64 (shares am), .int .i64 (quota cm), .int .i64 cb] 107)).below (below_drew' (Below.refl _ _)))
  rw [show (w.alloc (.cells #[.int .i64 am, .int .i64 ab] 89)).heap.size = w.heap.size + 1 by simp] at hC
  have HC2 := hideIt hC
  clear hC
  have HBd2 := hideIt (below_drew' ((((Below.refl w.heap.size w).alloc (Nat.le_refl _) (.cells #[.int .i64 am, .int .i64 ab] 89)).alloc (by simp) (.cells #[.int .i64 cm, .int .i64 cb] 89)).alloc (by simp; omega) (.cells #[.string s, .int .i64 (shares am), .int .i64 (quota cm), .int .i64 cb] 107)))
  refine hK.out _ _ ⟨HA2.out.1.1, HC2.out.1.1, HC2.out.2.1⟩ (fun hHeld => ?_)
  clear hK K
  refine wpAnyH_done (by kernel_rfl) ?_ _
  go_wp2_with fail
  (try simp only [Exit.inBlock, Exit.then])
  refine bodyPost_ret (v := .agg #[.string s, .int .i64 (shares am), .int .i64 (quota cm), .int .i64 cb]) ?_ rfl ⟨rfl, HBd2.out⟩
  rw [results_cellQ rfl]
  go_simp
end Go.Proofs.Ythekalhceamcoaa
