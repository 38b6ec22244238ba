/- What a pod may have: the contract of qos.limits. -/
import Derived.Test.YthekalhceamcoaaQG2
namespace Go.Proofs.Ythekalhceamcoaa
open Go.RowKit
open Qos (Nd Ct Pd nd0 ct0 pd0 nd ct pd classOf sumM sumB Mild shares quota lim Words pathOf sumTo)
set_option maxRecDepth 100000 in
set_option maxHeartbeats 2000000 in
theorem limits_any (p : Pd) (cv : Value) (w : World) (h : ConsAt w cv p.cs) (hmi : Mild p.cs) : Calls Try.prog 105 #[podV p cv] w fun e w' => e = .returned (.agg #[.int .i64 (lim Ct.cm p.cs), .int .i64 (lim Ct.cb p.cs)]) ∧ Below w.heap.size w w' := by
  have hs := h.slice
  unfold podV
  have hb0 := (((Below.refl w.heap.size w).alloc (Nat.le_refl _) (.cells #[.string p.nm, .int .i64 p.pr, cv] 60)).alloc (by simp) (.cells #[.int .i64 0, .int .i64 0] 89))
  have HBd := hideIt (below_drew' hb0)
  have HP := hideIt (((PBoxAt.made w p cv).alloc (.cells #[.int .i64 0, .int .i64 0] 89)).below (below_drew' (Below.refl _ _)))
  have hT := (TwoAt.made (w.alloc (.cells #[.string p.nm, .int .i64 p.pr, cv] 60)) 89 0 0).below (below_drew' (Below.refl _ _))
  rw [show (w.alloc (.cells #[.string p.nm, .int .i64 p.pr, cv] 60)).heap.size = w.heap.size + 1 by simp] at hT
  have HT := hideIt hT
  have HL1 := hideIt (fun W (hb : Below w.heap.size w W) => limit1_any p cv W (h.below hb) hmi)
  have HL2 := hideIt (fun W (hb : Below w.heap.size w W) => limit2_any p cv W (h.below hb) hmi)
  unfold podV at HL1 HL2
  obtain ⟨pa, pn, pc, rfl⟩ := hs
  clear h hb0 hT
  generalize lim Ct.cm p.cs = L1 at *
  generalize lim Ct.cb p.cs = L2 at *
  go_enter Try.func105, Try.ntmps105
  go_wp2_with fail
  refine wp_region_held_drew (S := (fun w' => w'.cell? ⟨w.heap.size, 0, none⟩ = some (.string p.nm) ∧ w'.cell? ⟨w.heap.size, 1, none⟩ = some (.int .i64 p.pr) ∧ w'.cell? ⟨w.heap.size, 2, none⟩ = some (.slice pa pn pc))) (by kernel_rfl) HP.out.2 (fun hHeld => ?_)
  refine wpAnyH_take (i := 0) (oi := { dst := some 3, op := Op.load 60 (Operand.tmp 1), type := 60, pos := "qos.go:167", after := #[], guard := none }) (v := ?v1x0) rfl (by kernel_rfl) (by kernel_rfl) (by kernel_rfl) (fun _ _ _ h => h) (Or.inl ⟨by rfl, ?h1x0⟩) (by assumption) ?r1x0
  case h1x0 =>
    intro w' hSw
    (try dsimp only at hSw)
    go_simp
    first | done | with_reducible rfl | rfl
  (try simp only [Act.put, List.setIfInBounds_toArray, List.set_cons_zero, List.set_cons_succ])
  refine wpAnyH_take (i := 2) (oi := { dst := some 5, op := Op.load 60 (Operand.tmp 1), type := 60, pos := "qos.go:167", after := #[], guard := none }) (v := ?v2x2) rfl (by kernel_rfl) (by kernel_rfl) (by kernel_rfl) (fun _ _ _ h => h) (Or.inl ⟨by rfl, ?h2x2⟩) (by assumption) ?r2x2
  case h2x2 =>
    intro w' hSw
    (try dsimp only at hSw)
    go_simp
    first | done | with_reducible rfl | rfl
  (try simp only [Act.put, List.setIfInBounds_toArray, List.set_cons_zero, List.set_cons_succ])
  refine wpAnyH_ready (rs := [1]) (by kernel_rfl) (by simp) (AllReadyH.cons rfl (fun K hK => ?_) AllReadyH.nil)
  go_simp
  go_wp2_with fail
  refine (HL1.out _ HBd.out).mono ?_
  rintro e w5 ⟨rfl, hb5⟩
  have HP5 := hideIt (HP.out.below hb5)
  have HT5 := hideIt (HT.out.below hb5)
  have HB5 := hideIt (HBd.out.trans (hb5.mono HBd.out.size))
  clear hb5
  go_wp2_with fail
  refine hK.out _ _ HP5.out.2 (fun hHeld => ?_)
  clear hK K
  refine wpAnyH_ready (rs := [3]) (by kernel_rfl) (by simp) (AllReadyH.cons rfl (fun K hK => ?_) AllReadyH.nil)
  go_simp
  go_wp2_with fail
  refine (HL2.out _ HB5.out).mono ?_
  rintro e w6 ⟨rfl, hb6⟩
  have HP6 := hideIt (HP5.out.below hb6)
  have HT6 := hideIt (HT5.out.below hb6)
  have HB6 := hideIt (HB5.out.trans (hb6.mono HB5.out.size))
  clear hb6
  go_wp2_with fail
  refine hK.out _ _ HP6.out.2 (fun hHeld => ?_)
  clear hK K
  refine wpAnyH_take (i := 4) (oi := { dst := some 7, op := Op.build 89 #[(0, Operand.tmp 4), (1, Operand.tmp 6)], type := 89, pos := "qos.go:167", after := #[{ on := 1, ground := Ground.data }, { on := 3, ground := Ground.data }], guard := none }) (v := ?v3x4) rfl (by kernel_rfl) (by kernel_rfl) (by kernel_rfl) (fun _ _ _ h => h) (Or.inl ⟨by rfl, ?h3x4⟩) (by assumption) ?r3x4
  case h3x4 =>
    intro w' hSw
    (try dsimp only at hSw)
    go_simp
    first | done | with_reducible rfl | rfl
  (try simp only [Act.put, List.setIfInBounds_toArray, List.set_cons_zero, List.set_cons_succ])
  refine wpAnyH_ready (rs := [5]) (by kernel_rfl) (by simp) (AllReadyH.cons rfl (fun K hK => ?_) AllReadyH.nil)
  obtain ⟨⟨f1, f2⟩, ⟨f3, f4⟩⟩ := HT6.out
  go_simp
  go_wp2_with fail
  have HG := hideIt (below_set2 (below_set2 HB6.out (w.heap.size + 1) 0 (.int .i64 L1) (by omega) HB6.out.size) (w.heap.size + 1) 1 (.int .i64 L2) (by omega) (by simpa using HB6.out.size))
  have HT7 := hideIt ((HT6.out.set0 L1).set1 L2)
  have HP7 := hideIt ((HP6.out.kept (grown_setCell w6 ⟨w.heap.size + 1, 0, none⟩ (.int .i64 L1)) (by simp)).kept (grown_setCell _ ⟨w.heap.size + 1, 1, none⟩ (.int .i64 L2)) (by simp))
  refine hK.out _ _ HP7.out.2 (fun hHeld => ?_)
  clear hK K
  refine wpAnyH_done (by kernel_rfl) ?_ _
  clear f1 f2 f3 f4
  go_wp2_with fail
  (try simp only [Exit.inBlock, Exit.then])
  refine bodyPost_ret (v := .agg #[.int .i64 L1, .int .i64 L2]) ?_ rfl ⟨rfl, HG.out⟩
  obtain ⟨⟨g1, g2⟩, ⟨g3, g4⟩⟩ := HT7.out
  rw [results_cellQ rfl]
  go_simp
end Go.Proofs.Ythekalhceamcoaa
