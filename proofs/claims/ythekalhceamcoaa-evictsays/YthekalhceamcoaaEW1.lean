/- Who goes first, one by one: the contract of ostleryref.Rank. -/
import Derived.Test.YthekalhceamcoaaEV11
import Derived.Deep.RegionHeld3
import Derived.Deep.QuietTactic
import Derived.BigQuiet
import Derived.Laws.OwnMore
namespace Go.Proofs.Ythekalhceamcoaa
open Go.RowKit
open Qos (Nd Ct Pd pd0 nd ct pd usedOf Tame key keyLt Ranked Sel Best kyAt)
/-- Who is done. -/
def DoneAt (w : World) (B n : Nat) (D : Nat → Bool) : Prop := ∀ k, k < n → w.cell? ⟨B, k, none⟩ = some (.bool (D k)) ∧ w.frozen? ⟨B, k, none⟩ = false
theorem DoneAt.block {w w' : World} {B n : Nat} {D : Nat → Bool} (h : DoneAt w B n D) (hh : w'.heap[B]? = w.heap[B]?) : DoneAt w' B n D := fun k hk =>
  ⟨(World.cell?_of_block (a := ⟨B, k, none⟩) hh).trans (h k hk).1, (World.frozen?_of_block (a := ⟨B, k, none⟩) hh).trans (h k hk).2⟩
theorem DoneAt.set {w : World} {B n b : Nat} {D : Nat → Bool} (h : DoneAt w B n D) (hb : b < n) : DoneAt (w.setCell ⟨B, b, none⟩ (.bool true)) B n (fun j => D j || decide (j = b)) := fun k hk => by
  obtain ⟨h1, h2⟩ := h k hk
  refine ⟨?_, by rw [World.frozen?_setCell]; exact h2⟩
  by_cases e : k = b
  · subst e
    rw [World.cell?_setCell_same' _ _ _ (by rw [h1]; rfl)]
    simp
  · rw [World.cell?_setCell_other _ _ _ _ (by simp)]
    rw [h1]
    simp [e]
theorem infoBool : (Try.prog.info? 4).map (fun i => (i.zero, i.size, i.bytes)) = some (some (.bool false), 1, 1) := by kernel_rfl
theorem make_done (w : World) (n : Nat) (hn : n ≤ 16) : ∃ w', (Instr.makeSlice 168 (.int .i64 (n : Int)) (.int .i64 (n : Int))).run Try.prog w = .ok (.slice (some ⟨w.heap.size, 0, none⟩) n n) w' ∧ DoneAt w' w.heap.size n (fun _ => false) ∧ Below w.heap.size w w' ∧ w'.heap.size = w.heap.size + 1 := by
  obtain ⟨i0, hi, hz0, hz1, hz2⟩ := infoQ_parts infoBool
  have hr := run_make (P := Try.prog) w 168 4 i0 (.bool false) Try.underlying168 hi hz0 .i64 .i64 n n (by omega) (Int.le_refl _) (by rw [hz2]; omega) (by omega)
  simp only [Int.toNat_natCast, hz1, Nat.mul_one] at hr
  refine ⟨_, hr, fun k hk => ?_, (Below.refl _ _).alloc (Nat.le_refl _) _, by simp⟩
  constructor
  · simp [madeCells, hk, Value.cells, Nat.mod_one]
  · simp
end Go.Proofs.Ythekalhceamcoaa
