/- What slices.Clone leaves of devices: a contract. -/
import Derived.Test.YthekalhceamcoaaDLay
namespace Go.Proofs.Ythekalhceamcoaa
open Go.RowKit
open Dvs (Dv dv0 dv nth)
/-- The cells of devices. -/
def devCells (l : List Dv) : List Value := l.flatMap fun x => [.string x.kind, .int .i64 x.node, .bool x.sick]
theorem devCells_length (l : List Dv) : (devCells l).length = l.length * 3 := by
  induction l with
  | nil => rfl
  | cons a r ih => simp only [devCells, List.flatMap_cons, List.length_append, List.length_cons, List.length_nil] at ih ⊢; omega
theorem devCells_at (l : List Dv) (k : Nat) (hk : k < l.length) : (devCells l)[k * 3]? = some (.string (dv l k).kind) ∧ (devCells l)[k * 3 + 1]? = some (.int .i64 (dv l k).node) ∧ (devCells l)[k * 3 + 2]? = some (.bool (dv l k).sick) := by
  induction l generalizing k with
  | nil => simp at hk
  | cons a r ih =>
    cases k with
    | zero => simp [devCells, dv]
    | succ k =>
      have := ih k (by simpa using hk)
      have e : devCells (a :: r) = [.string a.kind, .int .i64 a.node, .bool a.sick] ++ devCells r := rfl
      have e2 : dv (a :: r) (k + 1) = dv r k := by simp [dv]
      rw [e, e2, show (k + 1) * 3 = k * 3 + 3 by omega]
      simpa using this
theorem devCells_from {w : World} {b o : Nat} {l : List Dv} (h : ∀ k, k < l.length → w.cell? ⟨b, o + k * 3, none⟩ = some (.string (dv l k).kind) ∧ w.cell? ⟨b, o + k * 3 + 1, none⟩ = some (.int .i64 (dv l k).node) ∧ w.cell? ⟨b, o + k * 3 + 2, none⟩ = some (.bool (dv l k).sick)) (j : Nat) (u : Value) (hj : (devCells l)[j]? = some u) : w.cell? ((⟨b, o, none⟩ : Addr).add j) = some u := by
  have hlt : j < l.length * 3 := by rw [← devCells_length]; exact (List.getElem?_eq_some_iff.1 hj).1
  obtain ⟨h0, h1, h2⟩ := h (j / 3) (by omega)
  obtain ⟨c0, c1, c2⟩ := devCells_at l (j / 3) (by omega)
  rw [Addr.add_lit]
  have : j = j / 3 * 3 ∨ j = j / 3 * 3 + 1 ∨ j = j / 3 * 3 + 2 := by omega
  rcases this with e | e | e
  · rw [← e] at c0 h0; rw [h0, ← c0, hj]
  · rw [← e] at c1; rw [Nat.add_assoc, ← e] at h1; rw [h1, ← c1, hj]
  · rw [← e] at c2; rw [Nat.add_assoc, ← e] at h2; rw [h2, ← c2, hj]
theorem devCells_one (l : List Dv) : ∀ u ∈ devCells l, u.oneCell' = true := by
  intro u hu
  simp only [devCells, List.mem_flatMap] at hu
  obtain ⟨x, _, hx⟩ := hu
  simp at hx
  rcases hx with rfl | rfl | rfl <;> rfl
theorem infoDev : (Try.prog.info? 50).map (fun i => (i.zero, i.size, i.bytes)) = some (some (.agg #[.string ByteArray.empty, .int .i64 0, .bool false]), 3, 32) := by kernel_rfl
theorem eqNilD (ao : Option Addr) (n c : Nat) (w : World) : Sem.run Try.prog (binOp BinOp.eql 46 (.slice ao n c) (.slice none 0 0)) w = .ok (.bool ao.isNone) w := Lib.run_eql_slice_nil w _ _ ao n c 0 0 Try.underlying46
/-- A row of devices of one's own, made behind a world. -/
def DevRow (B : Nat) (w : World) (v : Value) (ds : List Dv) : Prop :=
  ∃ ao c g, v = .slice ao ds.length c ∧ (0 < ds.length → ao = some ⟨g, 0, none⟩ ∧ B ≤ g ∧ g < w.heap.size) ∧
    ∀ k, k < ds.length → w.cell? ⟨g, k * 3, none⟩ = some (.string (dv ds k).kind) ∧ w.cell? ⟨g, k * 3 + 1, none⟩ = some (.int .i64 (dv ds k).node) ∧ w.cell? ⟨g, k * 3 + 2, none⟩ = some (.bool (dv ds k).sick) ∧ w.frozen? ⟨g, k * 3 + 2, none⟩ = false
theorem DevRow.of_own {B : Nat} {w : World} {v : Value} {ds : List Dv} (h : w.ownsRow B 50 3 v ds.length (devCells ds)) : DevRow B w v ds := by
  rcases h.2 with ⟨rfl, h1⟩ | ⟨g, cap, cur, rfl, hg, hgc, _⟩
  · exact ⟨none, 0, 0, by rw [h1], fun h0 => by omega, fun k hk => by omega⟩
  · refine ⟨_, cap, g, rfl, fun _ => ⟨rfl, hg, (Array.getElem?_eq_some_iff.1 hgc).1⟩, fun k hk => ?_⟩
    obtain ⟨c0, c1, c2⟩ := devCells_at ds k hk
    refine ⟨?_, ?_, ?_, by simp [World.frozen?, hgc]⟩
    · rw [h.cellAt (k * 3) (by omega)]; exact c0
    · rw [h.cellAt (k * 3 + 1) (by omega)]; exact c1
    · rw [h.cellAt (k * 3 + 2) (by omega)]; exact c2
set_option maxRecDepth 100000 in
set_option maxHeartbeats 1000000 in
theorem clone_at (a : Addr) (c : Nat) (l : List Dv) (w : World) (hc : ∀ j u, (devCells l)[j]? = some u → w.cell? (a.add j) = some u) (hl : l.length ≤ 16) :
    Calls Try.prog 93 #[.slice (some a) l.length c] w fun e w' => ∃ v, e = .returned v ∧ DevRow w.heap.size w' v l ∧ Below w.heap.size w w' := by
  obtain ⟨i0, hi, hz0, hz1, hz2⟩ := info_parts infoDev
  have HB := hideIt ((Below.refl w.heap.size w).alloc (Nat.le_refl _) (.cells #[] 50))
  have HC : Hid (∀ j u, (devCells l)[j]? = some u → (w.alloc (.cells #[] 50)).cell? (a.add j) = some u) := fun j u hj => Lib.cell?_alloc_some _ (hc j u hj)
  have hnil := eqNilD (some a) l.length c w
  clear hc
  go_enter Try.func93, Try.ntmps93
  go_wp2_with (at_builtin; (refine wpList_append_own _ rfl _ _ 46 rfl w.heap.size 50 i0 (.agg #[.string ByteArray.empty, .int .i64 0, .bool false]) 3 32 Try.underlying46 hi hz0 hz1 hz2 rfl (by decide) _ _ _ rfl (World.ownsRow_lit w #[] 0 (Nat.le_refl _) (Nat.zero_le _) rfl) a l.length c (devCells l) rfl (devCells_length l) HC.out (devCells_one l) (by unfold maxLen; omega) (by omega) (by simp) ?_); intro v' w1 hown' hgrow' _)
  have hB1 := hideIt (HB.out.grown hgrow' (by simp) (fun j hj => by cases hj; exact Nat.le_refl _))
  rw [Nat.zero_add] at hown'
  have hD : Hid (DevRow w.heap.size w1 v' l) := DevRow.of_own (by simpa using hown')
  clear hown' hgrow'
  go_wp2_with fail
  go_ret
  exact ⟨_, rfl, hD.out, hB1.out⟩
theorem clone_anyD (v : Value) (b o : Nat) (l : List Dv) (w : World) (hv : DevsAt w v b o l) (hl : l.length ≤ 16) :
    Calls Try.prog 93 #[v] w fun e w' => ∃ v, e = .returned v ∧ DevRow w.heap.size w' v l ∧ Below w.heap.size w w' := by
  obtain ⟨ao, c, rfl, hc⟩ := hv
  by_cases h0 : 0 < l.length
  · obtain ⟨rfl, hlt, hcs⟩ := hc h0
    exact clone_at ⟨b, o, none⟩ c l w (devCells_from hcs) hl
  · have hl0 : l = [] := List.eq_nil_of_length_eq_zero (by omega)
    subst hl0
    rcases ao with _ | a
    · refine (AnyE.slices_Clone_nil Try.cloneL 0 c w).mono ?_
      rintro e w' ⟨rfl, rfl⟩
      exact ⟨_, rfl, ⟨none, 0, 0, rfl, fun h => by simp at h, fun k hk => by simp at hk⟩, Below.refl _ _⟩
    · exact clone_at a c [] w (fun j u hj => by simp [devCells] at hj) (by simp)
end Go.Proofs.Ythekalhceamcoaa
