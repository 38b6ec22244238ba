/- What slices.Concat of two rows answers: a contract. -/
import Derived.Test.YthekalhceamcoaaDBits
import Derived.Laws.AppendOwnNone
namespace Go.Proofs.Ythekalhceamcoaa
open Go.RowKit
open Dvs (Dv dv0 dv nth)
/-- A row that is read. -/
def Src (w : World) (v : Value) (l : List Nat) : Prop :=
  (v = .slice none 0 0 ∧ l = []) ∨ ∃ g c, v = .slice (some ⟨g, 0, none⟩) l.length c ∧ g < w.heap.size ∧ ∀ j u, (numsV l)[j]? = some u → w.cell? ((⟨g, 0, none⟩ : Addr).add j) = some u
theorem Row.src {w : World} {B : Nat} {v : Value} {l : List Nat} (h : Row w B v l) : Src w v l := by
  unfold Row at h
  rcases h.2 with ⟨rfl, h0⟩ | ⟨g, cap, cur, rfl, hg, hgc, _⟩
  · exact .inl ⟨rfl, List.eq_nil_of_length_eq_zero h0⟩
  · refine .inr ⟨g, cap, rfl, (Array.getElem?_eq_some_iff.1 hgc).1, fun j u hj => ?_⟩
    have hlt : j < l.length := by rw [← numsV_len]; exact (List.getElem?_eq_some_iff.1 hj).1
    rw [Addr.add_lit, Nat.zero_add, h.cellAt j (by omega)]
    exact hj
theorem Src.below {w w' : World} {v : Value} {l : List Nat} (h : Src w v l) (hb : Below w.heap.size w w') : Src w' v l := by
  rcases h with h | ⟨g, c, hv, hlt, hc⟩
  · exact .inl h
  · exact .inr ⟨g, c, hv, Nat.lt_of_lt_of_le hlt hb.size, fun j u hj => (hb.cell (p := (⟨g, 0, none⟩ : Addr).add j) (by rw [Addr.add_lit]; exact hlt)).trans (hc j u hj)⟩
theorem Src.form {w : World} {v : Value} {l : List Nat} (h : Src w v l) : ∃ ao c, v = .slice ao l.length c := by
  rcases h with ⟨rfl, rfl⟩ | ⟨g, c, rfl, _⟩
  · exact ⟨none, 0, rfl⟩
  · exact ⟨_, c, rfl⟩
theorem numsV_one (l : List Nat) : ∀ u ∈ numsV l, u.oneCell' = true := by
  intro u hu
  simp only [numsV, List.mem_map] at hu
  obtain ⟨x, _, rfl⟩ := hu
  rfl
set_option maxRecDepth 100000 in
theorem grow_any (n : Nat) (w : World) (hn : n ≤ 1000) : Calls Try.prog 133 #[.slice none 0 0, .int .i64 n] w fun e w' => ∃ v, e = .returned v ∧ Row w' w.heap.size v [] ∧ Below w.heap.size w w' := by
  by_cases h0 : n = 0
  · subst h0
    refine (Any8.slices_Grow_room Try.growL none 0 0 0 w (by omega) (by omega) (by omega) (by omega)).mono ?_
    rintro e w' ⟨rfl, rfl⟩
    exact ⟨_, rfl, World.ownsRow_nil _ _ _ _, Below.refl _ _⟩
  · obtain ⟨i0, hi, hz0, hz1, hz2⟩ := info_parts infoIntD
    have hi' : Try.prog.info? (Try.growL_ren.t 25) = some i0 := hi
    refine (Any8.slices_Grow_grow Try.growL i0 (.int .i64 0) hi' hz0 (by omega) none 0 0 n [] w (by omega) (by omega) (by rw [hz2]; omega) (by omega) (by rw [hz1]; rfl) (fun _ => rfl) (fun a ha => by cases ha)).mono ?_
    have ht : Try.growL_ren.t 25 = 3 := by kernel_rfl
    rw [ht]
    have hge := grownCap_ge w (0 + n) 0 3
    have hle := grownCap_le_maxLen w (0 + n) 0 3 (by unfold maxLen; omega)
    generalize grownCap w (0 + n) 0 3 = G at *
    rintro e w' ⟨rfl, rfl⟩
    have hz : (([] : List Value).toArray ++ Builtin.zeroCells (Value.int .i64 0).cells (0 + n - 0) ++ Builtin.zeroCells (Value.int .i64 0).cells (G - (0 + n))).size = G * 1 := by
      simp [Builtin.zeroCells, Value.cells]
      omega
    generalize (([] : List Value).toArray ++ Builtin.zeroCells (Value.int .i64 0).cells (0 + n - 0) ++ Builtin.zeroCells (Value.int .i64 0).cells (G - (0 + n))) = cur at *
    have hown : World.ownsRow (w.drew.alloc (.cells cur 3)) w.heap.size 3 1 (.slice (some ⟨w.heap.size, 0, none⟩) 0 G) 0 [] := by
      unfold World.ownsRow
      refine ⟨rfl, .inr ⟨w.heap.size, G, cur, rfl, Nat.le_refl _, ?_, Nat.zero_le _, hle, hz, by simp⟩⟩
      show (w.heap.push (.cells cur 3))[w.heap.size]? = _
      simp
    refine ⟨_, rfl, hown, ?_⟩
    · exact (below_drew (Below.refl w.heap.size w)).alloc (Nat.le_refl _) _
/-- The first ones of two rows, and how many they are. -/
def catTo (l1 l2 : List Nat) : Nat → List Nat
  | 0 => []
  | 1 => l1
  | _ => l1 ++ l2
set_option maxRecDepth 100000 in
set_option maxHeartbeats 2000000 in
theorem concat_two (v1 v2 : Value) (l1 l2 : List Nat) (T : Nat) (w : World) (h1 : Src w v1 l1) (h2 : Src w v2 l2) (c1 : w.cell? ⟨T, 0, none⟩ = some v1) (c2 : w.cell? ⟨T, 1, none⟩ = some v2) (hl1 : l1.length ≤ 16) (hl2 : l2.length ≤ 16) :
    Calls Try.prog 94 #[.slice (some ⟨T, 0, none⟩) 2 2] w fun e w' => ∃ v, e = .returned v ∧ Row w' w.heap.size v (l1 ++ l2) ∧ Below w.heap.size w w' := by
  obtain ⟨i0, hi, hz0, hz1, hz2⟩ := info_parts infoIntD
  have HS1 := hideIt h1
  have HS2 := hideIt h2
  have HT := hideIt (World.block_lt_of_cell? w _ c1)
  obtain ⟨a1, d1, rfl⟩ := h1.form
  obtain ⟨a2, d2, rfl⟩ := h2.form
  clear h1 h2
  go_enter Try.func94, Try.ntmps94
  go_wp2_with fail
  go_loop [3, 11] (fun s i => ∃ k : Nat, k ≤ 2 ∧ i = .int .i64 k ∧ s = .int .i64 ((catTo l1 l2 k).length : Nat)) (fun _ i => 2 - (intOf i).toNat)
  case atStart => exact ⟨0, by omega, rfl, rfl⟩
  case round =>
    obtain ⟨k, hk, rfl, rfl⟩ := hrel
    have key : k = 0 ∨ k = 1 ∨ k = 2 := by omega
    rcases key with rfl | rfl | rfl
    · have e0 : (catTo l1 l2 0).length = 0 := rfl
      rw [e0]
      go_wp2_with fail
      go_round
      case rel => exact ⟨1, by omega, rfl, by show _ = Value.int .i64 (l1.length : Nat); go_num⟩
      case measure => simp [intOf]
    · have e0 : (catTo l1 l2 1).length = l1.length := rfl
      rw [e0]
      go_wp2_with fail
      go_round
      case rel => exact ⟨2, by omega, rfl, by show _ = Value.int .i64 ((l1 ++ l2).length : Nat); rw [List.length_append]; go_num⟩
      case measure => simp [intOf]
    · have e0 : (catTo l1 l2 2).length = l1.length + l2.length := List.length_append
      rw [e0]
      go_wp2_with fail
      refine (grow_any (l1.length + l2.length) w (by omega)).mono ?_
      rintro e w1 ⟨v, rfl, hr, hb⟩
      have HR := hideIt hr
      have HB := hideIt hb
      clear hr hb
      go_wp2_with fail
      go_loopw [6, 27] (fun u i wr => ∃ k : Nat, k ≤ 2 ∧ i = .int .i64 k ∧ Row wr w.heap.size u (catTo l1 l2 k) ∧ Below w.heap.size w wr) (fun _ i _ => 2 - (intOf i).toNat)
      case atStart => exact ⟨0, by omega, rfl, HR.out, HB.out⟩
      case round =>
        obtain ⟨k, hk, rfl, hr0, hB⟩ := hrel
        have key : k = 0 ∨ k = 1 ∨ k = 2 := by omega
        rcases key with rfl | rfl | rfl
        · have hS := HS1.out.below hB
          have hc := (hB.cell (p := ⟨T, 0, none⟩) HT.out).trans c1
          have hr : World.ownsRow wr w.heap.size 3 1 u6 ([] : List Nat).length (numsV ([] : List Nat)) := hr0
          clear hr0
          rcases hS with ⟨hv, hl⟩ | ⟨g, cc, hv, hlt, hcs⟩
          · simp only [Value.slice.injEq] at hv
            obtain ⟨e1, e2, e3⟩ := hv
            subst e1 e3
            rw [e2] at hc
            have hl' := hideIt hl
            clear hl e2
            go_wp2_with (at_builtin; refine wpList_append_own_none rfl _ _ 57 rfl w.heap.size 3 i0 1 Try.underlying57 hi _ _ _ rfl hr rfl ?_)
            go_roundw
            case rel =>
              refine ⟨1, by omega, rfl, ?_, hB⟩
              show Row _ _ _ (l1)
              rw [hl'.out]
              exact hr
            case measure => simp [intOf]
          · simp only [Value.slice.injEq] at hv
            obtain ⟨e1, _, e3⟩ := hv
            subst e1 e3
            have hB2 := hB.size
            go_wp2_with (at_builtin; refine wpList_append_own _ rfl _ _ 57 rfl w.heap.size 3 i0 (.int .i64 0) 1 8 Try.underlying57 hi hz0 hz1 hz2 rfl (by decide) _ _ _ rfl hr ⟨g, 0, none⟩ l1.length d1 (numsV l1) rfl (by rw [numsV_len, Nat.mul_one]) hcs (numsV_one l1) (by unfold maxLen; simp; omega) (by simp; omega) (by omega) ?_; intro v' w2 hown' hgrow' _)
            go_roundw
            case rel =>
              refine ⟨1, by omega, rfl, ?_, hB.grown hgrow' hB2 (fun j hj => (hr.lt j hj).1)⟩
              show World.ownsRow _ _ _ _ _ (l1).length (numsV (l1))
              simpa [numsV] using hown'
            case measure => simp [intOf]
        · have hS := HS2.out.below hB
          have hc := (hB.cell (p := ⟨T, 1, none⟩) HT.out).trans c2
          have hr : World.ownsRow wr w.heap.size 3 1 u6 (l1).length (numsV (l1)) := hr0
          clear hr0
          rcases hS with ⟨hv, hl⟩ | ⟨g, cc, hv, hlt, hcs⟩
          · simp only [Value.slice.injEq] at hv
            obtain ⟨e1, e2, e3⟩ := hv
            subst e1 e3
            rw [e2] at hc
            have hl' := hideIt hl
            clear hl e2
            go_wp2_with (at_builtin; refine wpList_append_own_none rfl _ _ 57 rfl w.heap.size 3 i0 1 Try.underlying57 hi _ _ _ rfl hr rfl ?_)
            go_roundw
            case rel =>
              refine ⟨2, by omega, rfl, ?_, hB⟩
              show Row _ _ _ (l1 ++ l2)
              rw [hl'.out, List.append_nil]
              exact hr
            case measure => simp [intOf]
          · simp only [Value.slice.injEq] at hv
            obtain ⟨e1, _, e3⟩ := hv
            subst e1 e3
            have hB2 := hB.size
            go_wp2_with (at_builtin; refine wpList_append_own _ rfl _ _ 57 rfl w.heap.size 3 i0 (.int .i64 0) 1 8 Try.underlying57 hi hz0 hz1 hz2 rfl (by decide) _ _ _ rfl hr ⟨g, 0, none⟩ l2.length d2 (numsV l2) rfl (by rw [numsV_len, Nat.mul_one]) hcs (numsV_one l2) (by unfold maxLen; omega) (by omega) (by omega) ?_; intro v' w2 hown' hgrow' _)
            go_roundw
            case rel =>
              refine ⟨2, by omega, rfl, ?_, hB.grown hgrow' hB2 (fun j hj => (hr.lt j hj).1)⟩
              show World.ownsRow _ _ _ _ _ (l1 ++ l2).length (numsV (l1 ++ l2))
              have e : numsV (l1 ++ l2) = numsV l1 ++ numsV l2 := by simp [numsV]
              rw [e, List.length_append]; exact hown'
            case measure => simp [intOf]
        · have HR2 := hideIt hr0
          have HB2 := hideIt hB
          clear hr0 hB
          go_wp2_with fail
          go_ret
          exact ⟨_, rfl, HR2.out, HB2.out⟩
end Go.Proofs.Ythekalhceamcoaa
