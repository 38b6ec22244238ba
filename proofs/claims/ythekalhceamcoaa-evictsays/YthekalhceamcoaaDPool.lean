/- A pool of devices in memory. -/
import Derived.Test.YthekalhceamcoaaDW1
import Derived.Deep.AppendLies
namespace Go.Proofs.Ythekalhceamcoaa
open Go.RowKit
open Dvs (Dv dv0 dv nth)
/-- A pool: its devices, and which of them are used. -/
structure PoolAt (w : World) (pb db : Nat) (ao : Option Addr) (c : Nat) (ds : List Dv) (us : Nat → Bool) : Prop where
  row : w.cell? ⟨pb, 0, none⟩ = some (.slice ao ds.length c)
  at0 : 0 < ds.length → ao = some ⟨db, 0, none⟩ ∧ db ≠ pb ∧ db < w.heap.size
  cells : ∀ k, k < ds.length → w.cell? ⟨db, k * 3, none⟩ = some (.string (dv ds k).kind) ∧ w.cell? ⟨db, k * 3 + 1, none⟩ = some (.int .i64 (dv ds k).node) ∧ w.cell? ⟨db, k * 3 + 2, none⟩ = some (.bool (dv ds k).sick) ∧ w.frozen? ⟨db, k * 3 + 2, none⟩ = false
  used : ∀ j, j < 16 → w.cell? ⟨pb, 1 + j, none⟩ = some (.bool (us j)) ∧ w.frozen? ⟨pb, 1 + j, none⟩ = false
theorem PoolAt.lt {w : World} {pb db : Nat} {ao : Option Addr} {c : Nat} {ds : List Dv} {us : Nat → Bool} (h : PoolAt w pb db ao c ds us) : pb < w.heap.size := World.block_lt_of_cell? w _ h.row
theorem PoolAt.kept {w w' : World} {pb db : Nat} {ao : Option Addr} {c : Nat} {ds : List Dv} {us : Nat → Bool} {g : Option Nat} (h : PoolAt w pb db ao c ds us) (hg : w.grownBy w' g) (h1 : some pb ≠ g) (h2 : 0 < ds.length → some db ≠ g) : PoolAt w' pb db ao c ds us := by
  refine ⟨(hg.cell_far _ h.lt h1).trans h.row, fun h0 => ⟨(h.at0 h0).1, (h.at0 h0).2.1, Nat.lt_of_lt_of_le (h.at0 h0).2.2 hg.size⟩, fun k hk => ?_, fun j hj => ?_⟩
  · obtain ⟨c1, c2, c3, c4⟩ := h.cells k hk
    have h0 : 0 < ds.length := by omega
    have hlt := (h.at0 h0).2.2
    exact ⟨(hg.cell_far _ hlt (h2 h0)).trans c1, (hg.cell_far _ hlt (h2 h0)).trans c2, (hg.cell_far _ hlt (h2 h0)).trans c3, (hg.frozen_far _ hlt (h2 h0)).trans c4⟩
  · obtain ⟨c1, c2⟩ := h.used j hj
    exact ⟨(hg.cell_far _ h.lt h1).trans c1, (hg.frozen_far _ h.lt h1).trans c2⟩
theorem grown_setCell (w : World) (a : Addr) (u : Value) : w.grownBy (w.setCell a u) (some a.block) :=
  ⟨rfl, rfl, rfl, by simp, fun k _ hne => Below.heap_setCell _ _ _ _ (fun e => hne (by rw [e]))⟩
theorem grown_below {w w' : World} (h : Below w.heap.size w w') (g : Option Nat) : w.grownBy w' g := ⟨h.os, h.tape, h.output, h.size, fun k hk _ => h.block k hk⟩
theorem below_grown {w w' : World} {g : Option Nat} (h : w.grownBy w' g) {K : Nat} (hK : K ≤ w.heap.size) (hg : ∀ j, g = some j → K ≤ j) : Below K w w' :=
  ⟨h.os, h.tape, h.output, h.size, fun k hk => h.block k (by omega) (fun e => by have := hg k e.symm; omega)⟩
theorem grown_refl (w : World) (g : Option Nat) : w.grownBy w g := ⟨rfl, rfl, rfl, Nat.le_refl _, fun _ _ _ => rfl⟩
theorem grown_drewN {w w' : World} {g : Option Nat} (h : w.grownBy w' g) (n : Nat) : w.grownBy (w'.drewN n) g := ⟨h.os, h.tape, h.output, h.size, h.block⟩
theorem PoolAt.below {w w' : World} {pb db : Nat} {ao : Option Addr} {c : Nat} {ds : List Dv} {us : Nat → Bool} (h : PoolAt w pb db ao c ds us) (hb : Below w.heap.size w w') : PoolAt w' pb db ao c ds us := h.kept (grown_below hb none) (by simp) (by simp)
theorem PoolAt.drewN {w : World} {pb db : Nat} {ao : Option Addr} {c : Nat} {ds : List Dv} {us : Nat → Bool} (h : PoolAt w pb db ao c ds us) (n : Nat) : PoolAt (w.drewN n) pb db ao c ds us := h.below (below_drewN (Below.refl _ w) n)
theorem PoolAt.alloc {w : World} {pb db : Nat} {ao : Option Addr} {c : Nat} {ds : List Dv} {us : Nat → Bool} (h : PoolAt w pb db ao c ds us) (o : Obj) : PoolAt (w.alloc o) pb db ao c ds us := h.below ((Below.refl _ w).alloc (Nat.le_refl _) o)
/-- One is used, or is not any more. -/
theorem PoolAt.set {w : World} {pb db : Nat} {ao : Option Addr} {c : Nat} {ds : List Dv} {us vs : Nat → Bool} (h : PoolAt w pb db ao c ds us) {m : Nat} (hm : m < 16) (b : Bool) (hv : ∀ j, j < 16 → vs j = if j = m then b else us j) : PoolAt (w.setCell ⟨pb, 1 + m, none⟩ (.bool b)) pb db ao c ds vs := by
  have hne : ∀ x, x ≠ 1 + m → (⟨pb, 1 + m, none⟩ : Addr) ≠ ⟨pb, x, none⟩ := fun x hx e => by cases e; exact hx rfl
  refine ⟨?_, fun h0 => ⟨(h.at0 h0).1, (h.at0 h0).2.1, by simpa using (h.at0 h0).2.2⟩, fun k hk => ?_, fun j hj => ?_⟩
  · rw [World.cell?_setCell_other (h := hne 0 (by omega))]
    exact h.row
  · obtain ⟨c1, c2, c3, c4⟩ := h.cells k hk
    have h0 : 0 < ds.length := by omega
    have hd := (h.at0 h0).2.1
    have hlt := (h.at0 h0).2.2
    have hg := grown_setCell w ⟨pb, 1 + m, none⟩ (.bool b)
    have hn : some db ≠ some pb := by simpa using hd
    exact ⟨(hg.cell_far _ hlt hn).trans c1, (hg.cell_far _ hlt hn).trans c2, (hg.cell_far _ hlt hn).trans c3, (hg.frozen_far _ hlt hn).trans c4⟩
  · obtain ⟨cj, z⟩ := h.used j hj
    obtain ⟨cm, _⟩ := h.used m hm
    refine ⟨?_, (World.frozen?_setCell ..).trans z⟩
    rw [hv j hj]
    by_cases e : j = m
    · subst e
      simp
      clear cj hv hne
      go_simp
    · rw [if_neg e, World.cell?_setCell_other (h := hne (1 + j) (by omega))]
      exact cj
/-- One is sick, or is not any more. -/
theorem PoolAt.sicken {w : World} {pb db : Nat} {ao : Option Addr} {c : Nat} {ds : List Dv} {us : Nat → Bool} (h : PoolAt w pb db ao c ds us) {n : Nat} (hn : n < ds.length) (b : Bool) : PoolAt (w.setCell ⟨db, n * 3 + 2, none⟩ (.bool b)) pb db ao c (Dvs.sicken ds n b) us := by
  have h0 : 0 < ds.length := by omega
  obtain ⟨ha, hd, hlt⟩ := h.at0 h0
  have hg := grown_setCell w ⟨db, n * 3 + 2, none⟩ (.bool b)
  have hnp : some pb ≠ some db := by simpa using fun e => hd e.symm
  have hne : ∀ x, x ≠ n * 3 + 2 → (⟨db, n * 3 + 2, none⟩ : Addr) ≠ ⟨db, x, none⟩ := fun x hx e => by cases e; exact hx rfl
  refine ⟨?_, fun _ => ⟨ha, hd, by simpa using hlt⟩, fun k hk => ?_, fun j hj => ?_⟩
  · rw [Dvs.sicken_len]
    exact (hg.cell_far _ h.lt hnp).trans h.row
  · rw [Dvs.sicken_len] at hk
    obtain ⟨c1, c2, c3, c4⟩ := h.cells k hk
    rw [Dvs.sicken_at hn]
    refine ⟨?_, ?_, ?_, (World.frozen?_setCell ..).trans c4⟩
    · rw [World.cell?_setCell_other (h := hne _ (by omega)), c1]; split
      · rename_i e; rw [e]
      · rfl
    · rw [World.cell?_setCell_other (h := hne _ (by omega)), c2]; split
      · rename_i e; rw [e]
      · rfl
    · by_cases e : k = n
      · subst e
        simp
        clear hne hg
        go_simp
      · rw [if_neg e, World.cell?_setCell_other (h := hne _ (by omega)), c3]
  · obtain ⟨c1, c2⟩ := h.used j hj
    exact ⟨(hg.cell_far _ h.lt hnp).trans c1, (hg.frozen_far _ h.lt hnp).trans c2⟩
theorem NumsAt.kept {w w' : World} {v : Value} {g o : Nat} {l : List Int} {r : Option Nat} (h : NumsAt w v g o l) (hg : w.grownBy w' r) (hr : 0 < l.length → some g ≠ r) : NumsAt w' v g o l := by
  obtain ⟨ao, c, hv, hc⟩ := h
  refine ⟨ao, c, hv, fun h0 => ?_⟩
  obtain ⟨h1, h2, h3⟩ := hc h0
  exact ⟨h1, Nat.lt_of_lt_of_le h2 hg.size, fun k hk => (hg.cell_far _ h2 (hr h0)).trans (h3 k hk)⟩
theorem NumsAt.below {w w' : World} {v : Value} {g o : Nat} {l : List Int} (h : NumsAt w v g o l) (hb : Below w.heap.size w w') : NumsAt w' v g o l := h.kept (grown_below hb none) (by simp)
theorem DevsAt.below {w w' : World} {v : Value} {g o : Nat} {ds : List Dv} (h : DevsAt w v g o ds) (hb : Below w.heap.size w w') : DevsAt w' v g o ds := by
  obtain ⟨ao, c, hv, hc⟩ := h
  refine ⟨ao, c, hv, fun h0 => ?_⟩
  obtain ⟨h1, h2, h3⟩ := hc h0
  refine ⟨h1, Nat.lt_of_lt_of_le h2 hb.size, fun k hk => ?_⟩
  obtain ⟨c1, c2, c3⟩ := h3 k hk
  exact ⟨(hb.cell (p := ⟨g, o + k * 3, none⟩) h2).trans c1, (hb.cell (p := ⟨g, o + k * 3 + 1, none⟩) h2).trans c2, (hb.cell (p := ⟨g, o + k * 3 + 2, none⟩) h2).trans c3⟩
end Go.Proofs.Ythekalhceamcoaa
