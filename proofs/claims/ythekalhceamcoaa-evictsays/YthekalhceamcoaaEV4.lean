/- How much is used above what is asked for: the contract of a closure of evict.order. -/
import Derived.Test.YthekalhceamcoaaEV2
import Derived.Test.YthekalhceamcoaaEV3
import Derived.Test.YthekalhceamcoaaQW6
import Derived.Deep.RegionHeld3
namespace Go.Proofs.Ythekalhceamcoaa
open Go.RowKit
open Qos (Nd Ct Pd nd ct pd sumM sumB Mild usedOf Tame)
theorem look_use {w : World} {B n : Nat} {us : List Nd} (h : UseMap w B n us) (s : ByteArray) (hs : s.size ≤ 1000) : (Instr.lookup 166 (.map (some B)) (.string s) false).run Try.prog w = .ok (.int .i64 (usedOf us s)) w := by
  obtain ⟨D, ho, hD⟩ := h
  obtain ⟨c, hrun, hat, _⟩ := ho.lookup_int (t := 166) keyLawS Try.underlying166 Try.underlying3 (zeroIntE w) (Go.WideMaps.keyOf_string_mk Try.underlying9 (s := s) (by unfold maxLen; omega))
  rw [(hD s).1] at hat
  simp only [DataW.lit.injEq, Lit.int.injEq, true_and] at hat
  rw [hrun, hat]
set_option maxRecDepth 100000 in
set_option maxHeartbeats 2000000 in
theorem above_any (p : Pd) (cv : Value) (mc B n : Nat) (us : List Nd) (w : World) (h : ConsAt w cv p.cs) (hmi : Mild p.cs) (hm : w.cell? ⟨mc, 0, none⟩ = some (.map (some B))) (hU : UseMap w B n us) (ht : Tame us) (hn : p.nm.size ≤ 1000) :
    Calls Try.prog 145 #[podV p cv, .pointer (some ⟨mc, 0, none⟩)] w fun e w' => e = .returned (.int .i64 (usedOf us p.nm - sumB p.cs p.cs.length)) ∧ Below w.heap.size w w' ∧ w.drawn ≤ w'.drawn := by
  have hs := h.slice
  unfold podV
  have hb0 := (Below.refl w.heap.size w).alloc (Nat.le_refl _) (.cells #[.string p.nm, .int .i64 p.pr, cv] 60)
  have HBd := hideIt (below_drew' hb0)
  have HPd := hideIt ((PBoxAt.made w p cv).below (below_drew' (Below.refl _ _)))
  have hmlt := World.block_lt_of_cell? w _ hm
  have HMd := hideIt (((below_drew' hb0).cell (p := ⟨mc, 0, none⟩) hmlt).trans hm)
  have HUd := hideIt (hU.below (below_drew' hb0) hU.lt)
  have HSU := hideIt (sumG_any p cv _ (h.below HBd.out) hmi)
  have hin := Qos.used_in ht p.nm
  have hsi := Qos.sumB_in hmi (Nat.le_refl _)
  unfold podV at HSU
  obtain ⟨pa, pn, pc, rfl⟩ := hs
  have HUL := hideIt hU.lt
  clear h hb0 hm hU
  have HLK := hideIt (fun W (hU : UseMap W B n us) => look_use hU p.nm hn)
  generalize sumM p.cs p.cs.length = SM at *
  generalize sumB p.cs p.cs.length = SB at *
  generalize usedOf us p.nm = US at *
  have e1 : wrap64 (US - SB) = US - SB := by unfold wrap64; omega
  have e2 : IntKind.i64.wrap (US - SB) = US - SB := by rw [IntKind.wrap_i64]; omega
  go_enter Try.func145, Try.ntmps145
  go_wp2_with fail
  refine wp_region_held_drew (S := (fun w' => (w'.cell? ⟨w.heap.size, 0, none⟩ = some (.string p.nm) ∧ w'.cell? ⟨w.heap.size, 1, none⟩ = some (.int .i64 p.pr) ∧ w'.cell? ⟨w.heap.size, 2, none⟩ = some (.slice pa pn pc)) ∧ w'.cell? ⟨mc, 0, none⟩ = some (.map (some B)) ∧ UseMap w' B n us)) (by kernel_rfl) ⟨HPd.out.2, HMd.out, HUd.out⟩ (fun hHeld => ?_)
  refine wpAnyH_take (i := 0) (oi := { dst := some 4, op := Op.load 166 (Operand.tmp 1), type := 166, pos := "evict.go:46", after := #[], guard := none }) (v := ?v1x0) rfl (by kernel_rfl) (by kernel_rfl) (by kernel_rfl) (fun _ _ _ h => h) (Or.inl ⟨by rfl, ?h1x0⟩) (by assumption) ?r1x0
  case h1x0 =>
    intro w' hSw
    (try dsimp only at hSw)
    go_simp
    first | done | with_reducible rfl | rfl
  (try simp only [Act.put, List.setIfInBounds_toArray, List.set_cons_zero, List.set_cons_succ])
  refine wpAnyH_take (i := 1) (oi := { dst := some 5, op := Op.fieldAddr 60 (Operand.tmp 2) 0, type := 0, pos := "evict.go:46", after := #[], guard := none }) (v := ?v2x1) rfl (by kernel_rfl) (by kernel_rfl) (by kernel_rfl) (fun _ _ _ h => h) (Or.inl ⟨by rfl, ?h2x1⟩) (by assumption) ?r2x1
  case h2x1 =>
    intro w' hSw
    (try dsimp only at hSw)
    go_simp
    first | done | with_reducible rfl | rfl
  (try simp only [Act.put, List.setIfInBounds_toArray, List.set_cons_zero, List.set_cons_succ])
  refine wpAnyH_take (i := 2) (oi := { dst := some 6, op := Op.load 9 (Operand.tmp 5), type := 9, pos := "evict.go:46", after := #[{ on := 1, ground := Ground.data }], guard := none }) (v := ?v3x2) rfl (by kernel_rfl) (by kernel_rfl) (by kernel_rfl) (fun _ _ _ h => h) (Or.inl ⟨by rfl, ?h3x2⟩) (by assumption) ?r3x2
  case h3x2 =>
    intro w' hSw
    (try dsimp only at hSw)
    go_simp
    first | done | with_reducible rfl | rfl
  (try simp only [Act.put, List.setIfInBounds_toArray, List.set_cons_zero, List.set_cons_succ])
  refine wpAnyH_take (i := 4) (oi := { dst := some 8, op := Op.load 60 (Operand.tmp 2), type := 60, pos := "evict.go:46", after := #[], guard := none }) (v := ?v4x4) rfl (by kernel_rfl) (by kernel_rfl) (by kernel_rfl) (fun _ _ _ h => h) (Or.inl ⟨by rfl, ?h4x4⟩) (by assumption) ?r4x4
  case h4x4 =>
    intro w' hSw
    (try dsimp only at hSw)
    go_simp
    first | done | with_reducible rfl | rfl
  (try simp only [Act.put, List.setIfInBounds_toArray, List.set_cons_zero, List.set_cons_succ])
  refine wpAnyH_take (i := 3) (oi := { dst := some 7, op := Op.lookup 166 (Operand.tmp 4) (Operand.tmp 6) false, type := 3, pos := "evict.go:46", after := #[{ on := 0, ground := Ground.data }, { on := 2, ground := Ground.data }], guard := none }) (v := Value.int .i64 US) rfl (by kernel_rfl) (by kernel_rfl) (by kernel_rfl) (fun _ _ _ h => h) (Or.inl ⟨by rfl, ?h5x3⟩) (by assumption) ?r5x3
  case h5x3 =>
    intro w' hSw
    (try dsimp only at hSw)
    have hlk := HLK.out _ hSw.2.2
    go_simp
    first | done | with_reducible rfl | rfl
  (try simp only [Act.put, List.setIfInBounds_toArray, List.set_cons_zero, List.set_cons_succ])
  refine wpAnyH_ready (rs := [5]) (by kernel_rfl) (by simp) (AllReadyH.cons rfl (fun K hK => ?_) AllReadyH.nil)
  go_simp
  go_wp2_with fail
  refine HSU.out.mono ?_
  rintro e w5 ⟨rfl, hb5, hd5⟩
  have HP5 := hideIt (HPd.out.below hb5)
  have HM5 := hideIt ((hb5.cell (p := ⟨mc, 0, none⟩) (Nat.lt_of_lt_of_le hmlt HBd.out.size)).trans HMd.out)
  have HU5 := hideIt (HUd.out.below hb5 HUd.out.lt)
  have HB5 := hideIt (HBd.out.trans (hb5.mono HBd.out.size))
  have HD5 := hideIt (show w.drawn ≤ w5.drawn by rw [hd5]; exact Nat.le_succ _)
  clear hb5 hd5
  go_wp2_with fail
  refine hK.out _ _ ⟨HP5.out.2, HM5.out, HU5.out⟩ (fun hHeld => ?_)
  clear hK K
  refine wpAnyH_take (i := 6) (oi := { dst := some 10, op := Op.field 89 (Operand.tmp 9) 1, type := 3, pos := "evict.go:46", after := #[{ on := 5, ground := Ground.data }], guard := none }) (v := Value.int .i64 SB) rfl (by kernel_rfl) (by kernel_rfl) (by kernel_rfl) (fun _ _ _ h => h) (Or.inl ⟨by rfl, ?h6x6⟩) (by assumption) ?r6x6
  case h6x6 =>
    intro w' hSw
    (try dsimp only at hSw)
    go_simp
    first | done | with_reducible rfl | rfl
  (try simp only [Act.put, List.setIfInBounds_toArray, List.set_cons_zero, List.set_cons_succ])
  refine wpAnyH_take (i := 7) (oi := { dst := some 11, op := Op.binOp BinOp.sub 3 (Operand.tmp 7) (Operand.tmp 10) 3, type := 3, pos := "evict.go:46", after := #[{ on := 3, ground := Ground.data }, { on := 6, ground := Ground.data }], guard := none }) (v := Value.int .i64 (US - SB)) rfl (by kernel_rfl) (by kernel_rfl) (by kernel_rfl) (fun _ _ _ h => h) (Or.inl ⟨by rfl, ?h7x7⟩) (by assumption) ?r7x7
  case h7x7 =>
    intro w' hSw
    (try dsimp only at hSw)
    go_simp
    first | done | with_reducible rfl | rfl
  (try simp only [Act.put, List.setIfInBounds_toArray, List.set_cons_zero, List.set_cons_succ])
  refine wpAnyH_take (i := 8) (oi := { dst := some 3, op := Op.assign (Operand.tmp 11), type := 3, pos := "evict.go:46", after := #[{ on := 7, ground := Ground.data }, { on := 5, ground := Ground.chain }, { on := 0, ground := Ground.phase }, { on := 1, ground := Ground.phase }, { on := 2, ground := Ground.phase }, { on := 3, ground := Ground.phase }, { on := 4, ground := Ground.phase }, { on := 5, ground := Ground.phase }, { on := 6, ground := Ground.phase }, { on := 7, ground := Ground.phase }], guard := none }) (v := ?v8x8) rfl (by kernel_rfl) (by kernel_rfl) (by kernel_rfl) (fun _ _ _ h => h) (Or.inl ⟨by rfl, ?h8x8⟩) (by assumption) ?r8x8
  case h8x8 =>
    intro w' hSw
    (try dsimp only at hSw)
    go_simp
    first | done | with_reducible rfl | rfl
  (try simp only [Act.put, List.setIfInBounds_toArray, List.set_cons_zero, List.set_cons_succ])
  refine wpAnyH_done (by kernel_rfl) ?_ _
  go_wp2_with fail
  go_ret
  exact ⟨rfl, HB5.out, HD5.out⟩
end Go.Proofs.Ythekalhceamcoaa
