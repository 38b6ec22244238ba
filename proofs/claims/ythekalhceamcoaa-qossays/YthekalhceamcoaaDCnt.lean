/- So many devices of a kind on each node: contracts. -/
import Derived.Test.YthekalhceamcoaaDNew2
import Derived.BigRegion
namespace Go.Proofs.Ythekalhceamcoaa
open Go.RowKit
open Dvs (Dv dv0 dv nth cn fits kindP Nodes)
/-- Four cells of numbers, all its own. -/
def FourAt (w : World) (T : Nat) (f : Nat → Nat) : Prop := ∀ j, j < 4 → w.cell? ⟨T, j, none⟩ = some (.int .i64 (f j : Nat)) ∧ w.frozen? ⟨T, j, none⟩ = false
theorem FourAt.lt {w : World} {T : Nat} {f : Nat → Nat} (h : FourAt w T f) : T < w.heap.size := World.block_lt_of_cell? w _ (h 0 (by decide)).1
theorem FourAt.kept {w w' : World} {T : Nat} {f : Nat → Nat} {g : Option Nat} (h : FourAt w T f) (hg : w.grownBy w' g) (hne : some T ≠ g) : FourAt w' T f := fun j hj =>
  ⟨(hg.cell_far _ h.lt hne).trans (h j hj).1, (hg.frozen_far _ h.lt hne).trans (h j hj).2⟩
theorem FourAt.below {w w' : World} {T : Nat} {f : Nat → Nat} (h : FourAt w T f) (hb : Below w.heap.size w w') : FourAt w' T f := h.kept (grown_below hb none) (by simp)
theorem FourAt.alloc {w : World} {T : Nat} {f : Nat → Nat} (h : FourAt w T f) (o : Obj) : FourAt (w.alloc o) T f := h.below ((Below.refl _ w).alloc (Nat.le_refl _) o)
theorem FourAt.made (w : World) (t : TypeId) (f : Nat → Nat) (hf : ∀ j, f j = 0) : FourAt (w.alloc (.cells #[.int .i64 0, .int .i64 0, .int .i64 0, .int .i64 0] t)) w.heap.size f := by
  intro j hj
  rw [hf j]
  have : j = 0 ∨ j = 1 ∨ j = 2 ∨ j = 3 := by omega
  rcases this with rfl | rfl | rfl | rfl <;> exact ⟨by simp, by simp⟩
theorem FourAt.set {w : World} {T : Nat} {f g : Nat → Nat} (h : FourAt w T f) {m : Nat} (hm : m < 4) {n : Int} (hn : n = (f m : Nat) + 1) (hg : ∀ j, g j = f j + if j = m then 1 else 0) : FourAt (w.setCell ⟨T, m, none⟩ (.int .i64 n)) T g := by
  subst hn
  intro j hj
  obtain ⟨c, z⟩ := h j hj
  obtain ⟨cm, _⟩ := h m hm
  refine ⟨?_, (World.frozen?_setCell ..).trans z⟩
  rw [hg j]
  by_cases e : j = m
  · subst e
    rw [if_pos rfl]
    have e2 : (((f j + 1 : Nat)) : Int) = ((f j : Nat) : Int) + 1 := by omega
    rw [e2]
    clear c hg e2
    go_simp
  · rw [if_neg e, Nat.add_zero]
    have hne : (⟨T, m, none⟩ : Addr) ≠ ⟨T, j, none⟩ := by intro h; cases h; exact e rfl
    rw [World.cell?_setCell_other (h := hne)]
    exact c
theorem toList_ne {a b : ByteArray} (h : ¬ a = b) : ¬ a.toList = b.toList := by
  rw [ByteArray.toList_eq, ByteArray.toList_eq]
  exact fun e => h (Go.WideShapes.bytes_inj e)
theorem cn_zero (p : Nat → Bool) (ds : List Dv) (x : Nat) : cn p ds x 0 = 0 := rfl
/-- Four numbers by value. -/
def fourV (f : Nat → Nat) : Value := .agg #[.int .i64 (f 0 : Nat), .int .i64 (f 1 : Nat), .int .i64 (f 2 : Nat), .int .i64 (f 3 : Nat)]
/-- Where Count stands. -/
structure CntAt (w wr : World) (pb db : Nat) (ao : Option Addr) (c : Nat) (ds : List Dv) (us : Nat → Bool) (kind : ByteArray) (F A k : Nat) : Prop where
  pool : PoolAt wr pb db ao c ds us
  free : FourAt wr F (fun x => cn (fits ds us kind) ds x k)
  all : FourAt wr A (fun x => cn (kindP ds kind) ds x k)
  below : Below w.heap.size w wr
theorem CntAt.alloc {w wr : World} {pb db : Nat} {ao : Option Addr} {c : Nat} {ds : List Dv} {us : Nat → Bool} {kind : ByteArray} {F A k : Nat} (h : CntAt w wr pb db ao c ds us kind F A k) (o : Obj) : CntAt w (wr.alloc o) pb db ao c ds us kind F A k :=
  ⟨h.pool.alloc o, h.free.alloc o, h.all.alloc o, h.below.alloc h.below.size o⟩
theorem CntAt.mid {w wr : World} {pb db : Nat} {ao : Option Addr} {c : Nat} {ds : List Dv} {us : Nat → Bool} {kind : ByteArray} {F A k m D : Nat} {n z : Int} (h : CntAt w wr pb db ao c ds us kind F A k) (hk : k < 16) (hm : m < 4) (hD : wr.cell? ⟨D, 1, none⟩ = some (.int .i64 z)) (hFA : F ≠ A) (hpA : pb ≠ A) (hDA : D ≠ A) :
    (wr.setCell ⟨A, m, none⟩ (.int .i64 n)).cell? ⟨pb, 1 + k, none⟩ = some (.bool (us k)) ∧ (wr.setCell ⟨A, m, none⟩ (.int .i64 n)).cell? ⟨F, m, none⟩ = some (.int .i64 (cn (fits ds us kind) ds m k : Nat)) ∧ (wr.setCell ⟨A, m, none⟩ (.int .i64 n)).frozen? ⟨F, m, none⟩ = false ∧ (wr.setCell ⟨A, m, none⟩ (.int .i64 n)).cell? ⟨D, 1, none⟩ = some (.int .i64 z) := by
  have hg := grown_setCell wr ⟨A, m, none⟩ (.int .i64 n)
  exact ⟨(hg.cell_far _ h.pool.lt (by simpa using hpA)).trans (h.pool.used k hk).1, (hg.cell_far _ h.free.lt (by simpa using hFA)).trans (h.free m hm).1, (hg.frozen_far _ h.free.lt (by simpa using hFA)).trans (h.free m hm).2, (hg.cell_far _ (World.block_lt_of_cell? _ _ hD) (by simpa using hDA)).trans hD⟩
theorem CntAt.no {w wr : World} {pb db : Nat} {ao : Option Addr} {c : Nat} {ds : List Dv} {us : Nat → Bool} {kind : ByteArray} {F A k : Nat} (h : CntAt w wr pb db ao c ds us kind F A k) (hk : kindP ds kind k = false) : CntAt w wr pb db ao c ds us kind F A (k + 1) := by
  refine ⟨h.pool, ?_, ?_, h.below⟩
  · have : (fun x => cn (fits ds us kind) ds x (k + 1)) = fun x => cn (fits ds us kind) ds x k := by funext x; exact Dvs.cn_no (by rw [Dvs.fits_kind, hk]; rfl) x
    rw [this]; exact h.free
  · have : (fun x => cn (kindP ds kind) ds x (k + 1)) = fun x => cn (kindP ds kind) ds x k := by funext x; exact Dvs.cn_no hk x
    rw [this]; exact h.all
theorem CntAt.one {w wr : World} {pb db : Nat} {ao : Option Addr} {c : Nat} {ds : List Dv} {us : Nat → Bool} {kind : ByteArray} {F A k m : Nat} {n : Int} (h : CntAt w wr pb db ao c ds us kind F A k) (hk : kindP ds kind k = true) (hu : us k = true) (hm : m < 4) (hx : (dv ds k).node = (m : Int)) (hA : w.heap.size ≤ A) (hFA : F ≠ A) (hp : pb < w.heap.size) (hd : 0 < ds.length → db < w.heap.size) (hn : n = (cn (kindP ds kind) ds m k : Nat) + 1) :
    CntAt w (wr.setCell ⟨A, m, none⟩ (.int .i64 n)) pb db ao c ds us kind F A (k + 1) := by
  have hg := grown_setCell wr ⟨A, m, none⟩ (.int .i64 n)
  refine ⟨h.pool.kept hg (by simp; omega) (fun h0 => by have := hd h0; simp; omega), ?_, ?_, h.below.setCell hA _⟩
  · have : (fun x => cn (fits ds us kind) ds x (k + 1)) = fun x => cn (fits ds us kind) ds x k := by funext x; exact Dvs.cn_no (by rw [Dvs.fits_kind, hk, hu]; rfl) x
    rw [this]; exact h.free.kept hg (by simpa using hFA)
  · refine h.all.set hm hn (fun j => ?_)
    rw [Dvs.cn_yes hk (by omega)]
    congr 2
    have : (dv ds k).node.toNat = m := by omega
    rw [this]
theorem CntAt.both {w wr : World} {pb db : Nat} {ao : Option Addr} {c : Nat} {ds : List Dv} {us : Nat → Bool} {kind : ByteArray} {F A k m : Nat} {n n2 : Int} (h : CntAt w wr pb db ao c ds us kind F A k) (hk : kindP ds kind k = true) (hu : us k = false) (hm : m < 4) (hx : (dv ds k).node = (m : Int)) (hF : w.heap.size ≤ F) (hA : w.heap.size ≤ A) (hFA : F ≠ A) (hp : pb < w.heap.size) (hd : 0 < ds.length → db < w.heap.size) (hn : n = (cn (kindP ds kind) ds m k : Nat) + 1) (hn2 : n2 = (cn (fits ds us kind) ds m k : Nat) + 1) :
    CntAt w ((wr.setCell ⟨A, m, none⟩ (.int .i64 n)).setCell ⟨F, m, none⟩ (.int .i64 n2)) pb db ao c ds us kind F A (k + 1) := by
  have hg := grown_setCell wr ⟨A, m, none⟩ (.int .i64 n)
  have hg2 := grown_setCell (wr.setCell ⟨A, m, none⟩ (.int .i64 n)) ⟨F, m, none⟩ (.int .i64 n2)
  refine ⟨(h.pool.kept hg (by simp; omega) (fun h0 => by have := hd h0; simp; omega)).kept hg2 (by simp; omega) (fun h0 => by have := hd h0; simp; omega), ?_, ?_, (h.below.setCell hA _).setCell hF _⟩
  · refine (h.free.kept hg (by simpa using hFA)).set hm hn2 (fun j => ?_)
    rw [Dvs.cn_yes (by rw [Dvs.fits_kind, hk, hu]; rfl) (by omega)]
    congr 2
    have : (dv ds k).node.toNat = m := by omega
    rw [this]
  · refine (h.all.set hm hn (fun j => ?_)).kept hg2 (by simpa using fun e => hFA e.symm)
    rw [Dvs.cn_yes hk (by omega)]
    congr 2
    have : (dv ds k).node.toNat = m := by omega
    rw [this]
end Go.Proofs.Ythekalhceamcoaa
