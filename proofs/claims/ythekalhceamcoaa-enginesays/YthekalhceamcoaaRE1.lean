/- An engine is made; looking into its map; blocks but two: contracts. -/
import Derived.Test.YthekalhceamcoaaRD1
namespace Go.Proofs.Ythekalhceamcoaa
open Go.RowKit Go.Maps
/-- Where one is looked up, the same comes in every world in which the map lies as it lay. -/
theorem MapR.look2 {w : World} {B n : Nat} {xs : List RV} (h : MapR w B n xs) (a b : ByteArray) (ha : a.size ≤ 7000) (hb : b.size ≤ 7000) :
    ∃ y : RV, ∀ W : World, W.heap[B]? = w.heap[B]? → (Instr.lookup 184 (.map (some B)) (nameV a b) true).run Try.prog W = .ok (.tuple #[y.val, .bool (xs.any fun x => decide (x.pod = a ∧ x.cont = b))]) W := by
  obtain ⟨es, ho, he⟩ := h.2
  have key : ∀ W : World, W.heap[B]? = w.heap[B]? → ∃ y : RV, (Instr.lookup 184 (.map (some B)) (nameV a b) true).run Try.prog W = .ok (.tuple #[y.val, .bool (xs.any fun x => decide (x.pod = a ∧ x.cont = b))]) W ∧ (DataW.map es).atKey (nameL a b) (.held (RV.val ⟨ByteArray.empty, ByteArray.empty, 0, none, 0, 0⟩)) = .held y.val := by
    intro W hW
    have ho2 : W.ownsMap Try.prog 189 rvElem B n (.map es) := by
      obtain ⟨ms, clock, hh, r⟩ := ho
      exact ⟨ms, clock, hW.trans hh, r⟩
    obtain ⟨v, ps, hrun, hv⟩ := ho2.look_ok keyN Try.underlying184 (zeroRun W) (rvElem_mk _) (nameKey a b (short_max ha) (short_max hb))
    obtain ⟨y, rfl, hy⟩ := rvElem_inv hv
    refine ⟨y, by rw [← h.has he ha hb]; exact hrun, ?_⟩
    exact congrArg Prod.fst hy
  obtain ⟨y, _, hy⟩ := key w rfl
  refine ⟨y, fun W hW => ?_⟩
  obtain ⟨y2, hr2, hy2⟩ := key W hW
  rw [hy2] at hy
  have : y2 = y := RV.val_inj (by simpa using hy)
  rw [this] at hr2
  exact hr2
theorem newEng_any (Bd : Nat) (w : World) : Calls Try.prog 72 #[.pointer (some ⟨Bd, 0, none⟩)] w fun e w' => e = .returned (.pointer (some ⟨w.heap.size + 1, 0, none⟩)) ∧ EngAt w' (w.heap.size + 1) Bd w.heap.size ∧ MapR w' w.heap.size 0 [] ∧ Below w.heap.size w w' ∧ w'.heap.size = w.heap.size + 2 := by
  have hmm := @run_makeMap Try.prog
  have HM := hideIt ((MapR.made w).block (w' := (w.alloc (.map #[] 0)).alloc (.cells #[.pointer (some ⟨Bd, 0, none⟩), .map (some w.heap.size)] 186)) (Below.heap_alloc _ _ _ (by simp)))
  have hE := World.alloc_heap_new (w.alloc (.map #[] 0)) (.cells #[.pointer (some ⟨Bd, 0, none⟩), .map (some w.heap.size)] 186)
  rw [World.size_alloc] at hE
  have HE := hideIt hE
  clear hE
  go_enter Try.func72, Try.ntmps72
  go_wp2_with fail
  go_ret
  exact ⟨by simp, HE.out, HM.out, ((Below.refl _ _).alloc (Nat.le_refl _) _).alloc (by simp) _, by simp⟩
/-- All lies as it lay, but two blocks. -/
structure OutR (B1 B2 : Nat) (w w' : World) : Prop where
  os : w'.os = w.os
  tape : w'.tape = w.tape
  output : w'.output = w.output
  size : w.heap.size ≤ w'.heap.size
  block : ∀ k, k < w.heap.size → k ≠ B1 → k ≠ B2 → w'.heap[k]? = w.heap[k]?
theorem OutR.refl (B1 B2 : Nat) (w : World) : OutR B1 B2 w w := ⟨rfl, rfl, rfl, Nat.le_refl _, fun _ _ _ _ => rfl⟩
theorem OutR.trans {B1 B2 : Nat} {a b c : World} (h : OutR B1 B2 a b) (k : OutR B1 B2 b c) : OutR B1 B2 a c :=
  ⟨k.os.trans h.os, k.tape.trans h.tape, k.output.trans h.output, Nat.le_trans h.size k.size, fun i hi h1 h2 => (k.block i (Nat.lt_of_lt_of_le hi h.size) h1 h2).trans (h.block i hi h1 h2)⟩
theorem OutR.of_below {B1 B2 : Nat} {w w' : World} (h : Below w.heap.size w w') : OutR B1 B2 w w' := ⟨h.os, h.tape, h.output, h.size, fun k hk _ _ => h.block k hk⟩
theorem OutR.of_grown {B1 B2 b : Nat} {w w' : World} (h : w.grownBy w' (some b)) (hb : b = B1 ∨ b = B2) : OutR B1 B2 w w' := ⟨h.os, h.tape, h.output, h.size, fun k hk h1 h2 => h.block k hk (fun e => by cases e; rcases hb with rfl | rfl <;> contradiction)⟩
theorem OutR.below {B1 B2 K : Nat} {w w' : World} (h : OutR B1 B2 w w') (h1 : K ≤ B1) (h2 : K ≤ B2) (hK : K ≤ w.heap.size) : Below K w w' :=
  ⟨h.os, h.tape, h.output, h.size, fun k hk => h.block k (by omega) (by omega) (by omega)⟩
theorem OutR.kint {B1 B2 : Nat} {w w' : World} (h : OutR B1 B2 w w') (h1 : ∀ (arr : Array Value) (z : Nat × Nat), w.heap[B1]? ≠ some (Obj.cells arr 3 z)) (h2 : ∀ (arr : Array Value) (z : Nat × Nat), w.heap[B2]? ≠ some (Obj.cells arr 3 z)) : KInt w w' :=
  ⟨h.size, fun k arr z hk => h.block k (Array.getElem?_eq_some_iff.1 hk).1 (fun e => by subst e; exact h1 arr z hk) (fun e => by subst e; exact h2 arr z hk)⟩
theorem MapR.isMap {w : World} {B n : Nat} {xs : List RV} (h : MapR w B n xs) : ∃ es clock, w.heap[B]? = some (.map es clock) := by
  obtain ⟨_, es, ⟨ms, clock, hh, _⟩, _⟩ := h
  exact ⟨ms, clock, hh⟩
theorem MapR.notInt {w : World} {B n : Nat} {xs : List RV} (h : MapR w B n xs) : ∀ (arr : Array Value) (z : Nat × Nat), w.heap[B]? ≠ some (Obj.cells arr 3 z) := fun arr z e => by
  obtain ⟨ms, clock, hh⟩ := h.isMap
  rw [hh] at e; cases e
theorem DiskZ.notInt {w : World} {B : Nat} {l : Int} {d : Bool} (h : DiskZ w B l d) : ∀ (arr : Array Value) (z : Nat × Nat), w.heap[B]? ≠ some (Obj.cells arr 3 z) := fun arr z e => by
  have := (show w.heap[B]? = _ from h).symm.trans e
  simp at this
theorem apart_eng {w : World} {Be Bd Bm n : Nat} {xs : List RV} {l : Int} {d : Bool} (he : EngAt w Be Bd Bm) (hm : MapR w Bm n xs) (hd : DiskZ w Bd l d) : Be ≠ Bd ∧ Be ≠ Bm ∧ Bd ≠ Bm := by
  obtain ⟨ms, clock, hh⟩ := hm.isMap
  refine ⟨fun e => ?_, fun e => ?_, fun e => ?_⟩
  · subst e
    have := (show w.heap[Be]? = _ from he).symm.trans hd
    simp at this
  · subst e
    have := (show w.heap[Be]? = _ from he).symm.trans hh
    simp at this
  · subst e
    have := (show w.heap[Bd]? = _ from hd).symm.trans hh
    simp at this
end Go.Proofs.Ythekalhceamcoaa
