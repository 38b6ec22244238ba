/- Sixteen truths in memory; what is claimed and given back. -/
import Derived.Test.YthekalhceamcoaaDReady
namespace Go.Proofs.Ythekalhceamcoaa
open Go.RowKit
open Dvs (Dv dv0 dv nth first clF gvF claimed given Nodes)
/-- Sixteen cells of truths, all its own. -/
def BitsAt (u : World) (T : Nat) (f : Nat → Bool) : Prop := ∀ j, j < 16 → u.cell? ⟨T, j, none⟩ = some (.bool (f j)) ∧ u.frozen? ⟨T, j, none⟩ = false
theorem BitsAt.lt {u : World} {T : Nat} {f : Nat → Bool} (h : BitsAt u T f) : T < u.heap.size := World.block_lt_of_cell? u _ (h 0 (by decide)).1
theorem BitsAt.kept {w w' : World} {T : Nat} {f : Nat → Bool} {g : Option Nat} (h : BitsAt w T f) (hg : w.grownBy w' g) (hne : some T ≠ g) : BitsAt w' T f := fun j hj =>
  ⟨(hg.cell_far _ h.lt hne).trans (h j hj).1, (hg.frozen_far _ h.lt hne).trans (h j hj).2⟩
theorem BitsAt.below {w w' : World} {T : Nat} {f : Nat → Bool} (h : BitsAt w T f) (hb : Below w.heap.size w w') : BitsAt w' T f := h.kept (grown_below hb none) (by simp)
theorem BitsAt.alloc {w : World} {T : Nat} {f : Nat → Bool} (h : BitsAt w T f) (o : Obj) : BitsAt (w.alloc o) T f := h.below ((Below.refl _ w).alloc (Nat.le_refl _) o)
abbrev bitsV (f : Nat → Bool) : Array Value := #[.bool (f 0), .bool (f 1), .bool (f 2), .bool (f 3), .bool (f 4), .bool (f 5), .bool (f 6), .bool (f 7), .bool (f 8), .bool (f 9), .bool (f 10), .bool (f 11), .bool (f 12), .bool (f 13), .bool (f 14), .bool (f 15)]
theorem BitsAt.made (u : World) (t : TypeId) (f : Nat → Bool) : BitsAt (u.alloc (.cells (bitsV f) t)) u.heap.size f := by
  intro j hj
  have : j = 0 ∨ j = 1 ∨ j = 2 ∨ j = 3 ∨ j = 4 ∨ j = 5 ∨ j = 6 ∨ j = 7 ∨ j = 8 ∨ j = 9 ∨ j = 10 ∨ j = 11 ∨ j = 12 ∨ j = 13 ∨ j = 14 ∨ j = 15 := by omega
  rcases this with rfl | rfl | rfl | rfl | rfl | rfl | rfl | rfl | rfl | rfl | rfl | rfl | rfl | rfl | rfl | rfl <;> exact ⟨by simp, by simp⟩
theorem BitsAt.set {u : World} {T : Nat} {f g : Nat → Bool} (h : BitsAt u T f) {m : Nat} (hm : m < 16) (b : Bool) (hg : ∀ j, j < 16 → g j = if j = m then b else f j) : BitsAt (u.setCell ⟨T, m, none⟩ (.bool b)) T g := by
  intro j hj
  obtain ⟨c, z⟩ := h j hj
  obtain ⟨cm, _⟩ := h m hm
  refine ⟨?_, (World.frozen?_setCell ..).trans z⟩
  rw [hg j hj]
  by_cases e : j = m
  · subst e
    simp
    clear c hg
    go_simp
  · rw [if_neg e]
    have hne : (⟨T, m, none⟩ : Addr) ≠ ⟨T, j, none⟩ := by intro h; cases h; exact e rfl
    rw [World.cell?_setCell_other (h := hne)]
    exact c
/-- The first ones of the sixteen, laid into a pool. -/
def fillTo (w : World) (pb : Nat) (f : Nat → Bool) : Nat → World
  | 0 => w
  | k + 1 => (fillTo w pb f k).setCell ⟨pb, 1 + k, none⟩ (.bool (f k))
theorem fillTo_pool {w : World} {pb db : Nat} {ao : Option Addr} {c : Nat} {ds : List Dv} {us : Nat → Bool} (h : PoolAt w pb db ao c ds us) (f : Nat → Bool) (k : Nat) (hk : k ≤ 16) : PoolAt (fillTo w pb f k) pb db ao c ds (fun j => if j < k then f j else us j) := by
  induction k with
  | zero => simpa [fillTo] using h
  | succ k ih =>
    refine (ih (by omega)).set (by omega) (f k) (fun j _ => ?_)
    by_cases e : j = k
    · subst e; rw [if_pos (by omega), if_pos rfl]
    · by_cases e2 : j < k
      · rw [if_pos (by omega), if_neg e, if_pos e2]
      · rw [if_neg (by omega), if_neg e, if_neg e2]
theorem fillTo_grown (w : World) (pb : Nat) (f : Nat → Bool) (k : Nat) : w.grownBy (fillTo w pb f k) (some pb) := by
  induction k with
  | zero => exact grown_refl _ _
  | succ k ih => exact ih.trans (grown_setCell _ _ _)
theorem PoolAt.congr {w : World} {pb db : Nat} {ao : Option Addr} {c : Nat} {ds : List Dv} {us vs : Nat → Bool} (h : PoolAt w pb db ao c ds us) (e : ∀ j, j < 16 → vs j = us j) : PoolAt w pb db ao c ds vs :=
  ⟨h.row, h.at0, h.cells, fun j hj => by rw [e j hj]; exact h.used j hj⟩
theorem fill_pool {w : World} {pb db : Nat} {ao : Option Addr} {c : Nat} {ds : List Dv} {us : Nat → Bool} (h : PoolAt w pb db ao c ds us) (f : Nat → Bool) : PoolAt (fillTo w pb f 16) pb db ao c ds f :=
  (fillTo_pool h f 16 (Nat.le_refl _)).congr (fun j hj => by rw [if_pos hj])
theorem clF_bound {n : Nat} {us : Nat → Bool} {l : List Int} {k : Nat} (h : inBd (nth l k) n = false) : clF n us l k = 1 := by
  rw [clF, if_pos]
  simp [inBd] at h
  omega
theorem inB_iff {x : Int} {n : Nat} (h : inBd x n = true) : ∃ m : Nat, x = (m : Int) ∧ m < n := by
  simp [inBd] at h
  exact ⟨x.toNat, by omega, by omega⟩
theorem clF_exist {n : Nat} {us : Nat → Bool} {l : List Int} {k m : Nat} (h : nth l k = (m : Int)) (hm : m < n) (hc : claimed us (l.take k) m = true) : clF n us l k = 5 := by
  rw [clF, h, if_neg (by omega), if_pos]
  exact hc
theorem clF_good {n : Nat} {us : Nat → Bool} {l : List Int} {k m : Nat} (h : nth l k = (m : Int)) (hm : m < n) (hc : claimed us (l.take k) m = false) : clF n us l k = 0 := by
  rw [clF, h, if_neg (by omega), if_neg]
  rw [show (us (m : Int).toNat || decide ((m : Int) ∈ l.take k)) = claimed us (l.take k) m from rfl, hc]
  simp
theorem gvF_bound {n : Nat} {us : Nat → Bool} {l : List Int} {k : Nat} (h : inBd (nth l k) n = false) : gvF n us l k = 1 := by
  rw [gvF, if_pos]
  simp [inBd] at h
  omega
theorem gvF_none {n : Nat} {us : Nat → Bool} {l : List Int} {k m : Nat} (h : nth l k = (m : Int)) (hm : m < n) (hc : us m = false) : gvF n us l k = 6 := by
  rw [gvF, h, if_neg (by omega), if_neg]
  simp [hc]
theorem gvF_good {n : Nat} {us : Nat → Bool} {l : List Int} {k m : Nat} (h : nth l k = (m : Int)) (hm : m < n) (hc : us m = true) : gvF n us l k = 0 := by
  rw [gvF, h, if_neg (by omega), if_pos]
  simp [hc]
theorem claimed_step {us : Nat → Bool} {l : List Int} {k m : Nat} (hk : k < l.length) (h : nth l k = (m : Int)) (j : Nat) : claimed us (l.take (k + 1)) j = if j = m then true else claimed us (l.take k) j := by
  rw [Dvs.take_nth hk, h, Dvs.claimed_snoc _ _ _ (by omega)]
  by_cases e : j = m
  · subst e; simp
  · rw [if_neg e, decide_eq_false (by omega), Bool.or_false]
theorem given_step {us : Nat → Bool} {l : List Int} {k m : Nat} (hk : k < l.length) (h : nth l k = (m : Int)) (j : Nat) : given us (l.take (k + 1)) j = if j = m then false else given us (l.take k) j := by
  rw [Dvs.take_nth hk, h, Dvs.given_snoc _ _ _ (by omega)]
  by_cases e : j = m
  · subst e; simp
  · rw [if_neg e, decide_eq_false (by omega), Bool.not_false, Bool.and_true]
/-- Who has what behind Claim, and behind Give. -/
def claimOut (n : Nat) (us : Nat → Bool) (l : List Int) : Nat → Bool := if first (clF n us l) l.length = 0 then claimed us l else us
def giveOut (n : Nat) (us : Nat → Bool) (l : List Int) : Nat → Bool := if first (gvF n us l) l.length = 0 then given us l else us
end Go.Proofs.Ythekalhceamcoaa
