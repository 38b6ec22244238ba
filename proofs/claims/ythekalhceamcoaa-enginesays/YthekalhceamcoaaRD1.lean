/- A disk of which nothing waits: contracts of package disk, and of the document's. -/
import Derived.Test.YthekalhceamcoaaRK9
namespace Go.Proofs.Ythekalhceamcoaa
open Go.RowKit
def DiskZ (w : World) (B : Nat) (l : Int) (d : Bool) : Prop := w.heap[B]? = some (.cells #[.bool false, .string ⟨#[]⟩, .bool false, .string ⟨#[]⟩, .bool false, .string ⟨#[]⟩, .bool false, .string ⟨#[]⟩, .slice none 0 0, .int .i64 l, .bool d] 183 (0, 0))
def RefZ (w : World) (B : Nat) (l : Int) (d : Bool) : Prop := w.heap[B]? = some (.cells #[.string ⟨#[]⟩, .string ⟨#[]⟩, .bool false, .bool false, .string ⟨#[]⟩, .string ⟨#[]⟩, .bool false, .bool false, .slice none 0 0, .int .i64 l, .bool d] 128 (0, 0))
theorem DiskZ.lt {w : World} {B : Nat} {l : Int} {d : Bool} (h : DiskZ w B l d) : B < w.heap.size := (Array.getElem?_eq_some_iff.1 h).1
theorem RefZ.lt {w : World} {B : Nat} {l : Int} {d : Bool} (h : RefZ w B l d) : B < w.heap.size := (Array.getElem?_eq_some_iff.1 h).1
theorem DiskZ.cells {w : World} {B : Nat} {l : Int} {d : Bool} (h : DiskZ w B l d) : w.cell? ⟨B, 9, none⟩ = some (.int .i64 l) ∧ w.cell? ⟨B, 10, none⟩ = some (.bool d) ∧ w.cell? ⟨B, 8, none⟩ = some (.slice none 0 0) := by
  refine ⟨?_, ?_, ?_⟩ <;> simp [World.cell?, show w.heap[B]? = _ from h]
theorem RefZ.cells {w : World} {B : Nat} {l : Int} {d : Bool} (h : RefZ w B l d) : w.cell? ⟨B, 9, none⟩ = some (.int .i64 l) ∧ w.cell? ⟨B, 10, none⟩ = some (.bool d) ∧ w.cell? ⟨B, 8, none⟩ = some (.slice none 0 0) := by
  refine ⟨?_, ?_, ?_⟩ <;> simp [World.cell?, show w.heap[B]? = _ from h]
theorem DiskZ.frozen {w : World} {B : Nat} {l : Int} {d : Bool} (h : DiskZ w B l d) (j : Nat) : w.frozen? ⟨B, j, none⟩ = false := by simp [World.frozen?, show w.heap[B]? = _ from h]
theorem RefZ.frozen {w : World} {B : Nat} {l : Int} {d : Bool} (h : RefZ w B l d) (j : Nat) : w.frozen? ⟨B, j, none⟩ = false := by simp [World.frozen?, show w.heap[B]? = _ from h]
theorem DiskZ.set9 {w : World} {B : Nat} {l : Int} {d : Bool} (h : DiskZ w B l d) (n : Int) : DiskZ (w.setCell ⟨B, 9, none⟩ (.int .i64 n)) B n d := by
  obtain ⟨hlt, hk⟩ := Array.getElem?_eq_some_iff.1 h
  show (w.heap.modify B _)[B]? = _
  rw [Array.getElem?_eq_getElem (by rw [Array.size_modify]; exact hlt), Array.getElem_modify_self, hk]
  rfl
theorem DiskZ.set10 {w : World} {B : Nat} {l : Int} {d : Bool} (h : DiskZ w B l d) (b : Bool) : DiskZ (w.setCell ⟨B, 10, none⟩ (.bool b)) B l b := by
  obtain ⟨hlt, hk⟩ := Array.getElem?_eq_some_iff.1 h
  show (w.heap.modify B _)[B]? = _
  rw [Array.getElem?_eq_getElem (by rw [Array.size_modify]; exact hlt), Array.getElem_modify_self, hk]
  rfl
theorem RefZ.set9 {w : World} {B : Nat} {l : Int} {d : Bool} (h : RefZ w B l d) (n : Int) : RefZ (w.setCell ⟨B, 9, none⟩ (.int .i64 n)) B n d := by
  obtain ⟨hlt, hk⟩ := Array.getElem?_eq_some_iff.1 h
  show (w.heap.modify B _)[B]? = _
  rw [Array.getElem?_eq_getElem (by rw [Array.size_modify]; exact hlt), Array.getElem_modify_self, hk]
  rfl
theorem RefZ.set10 {w : World} {B : Nat} {l : Int} {d : Bool} (h : RefZ w B l d) (b : Bool) : RefZ (w.setCell ⟨B, 10, none⟩ (.bool b)) B l b := by
  obtain ⟨hlt, hk⟩ := Array.getElem?_eq_some_iff.1 h
  show (w.heap.modify B _)[B]? = _
  rw [Array.getElem?_eq_getElem (by rw [Array.size_modify]; exact hlt), Array.getElem_modify_self, hk]
  rfl
/-- One block alone is turned. -/
def Only (B : Nat) (w w' : World) : Prop := w.grownBy w' (some B) ∧ w'.heap.size = w.heap.size
theorem Only.refl (B : Nat) (w : World) : Only B w w := ⟨⟨rfl, rfl, rfl, Nat.le_refl _, fun _ _ _ => rfl⟩, rfl⟩
theorem Only.set {B : Nat} {w w' : World} (h : Only B w w') (j : Nat) (v : Value) : Only B w (w'.setCell ⟨B, j, none⟩ v) := by
  obtain ⟨hg, hs⟩ := h
  have g2 := grown_set w' B j v
  refine ⟨⟨g2.os.trans hg.os, g2.tape.trans hg.tape, g2.output.trans hg.output, Nat.le_trans hg.size g2.size, fun k hk hne => (g2.block k (by omega) hne).trans (hg.block k hk hne)⟩, ?_⟩
  rw [← hs]
  simp
/-- Err a step has, what is left, whether it is down. -/
def stepErr (l : Int) (d : Bool) : Nat := if d = true ∨ l = 0 then 11 else 0
def stepL (l : Int) (d : Bool) : Int := if d = true ∨ l = 0 then l else if 0 < l then l - 1 else l
def stepD (l : Int) (d : Bool) : Bool := decide (d = true ∨ l = 0)
set_option maxRecDepth 100000 in
set_option maxHeartbeats 1000000 in
theorem stepD_any (B : Nat) (l : Int) (d : Bool) (w : World) (h : DiskZ w B l d) (hl : -9223372036854775808 ≤ l ∧ l ≤ 9223372036854775807) : Calls Try.prog 115 #[.pointer (some ⟨B, 0, none⟩)] w fun e w' => e = .returned (errV ((stepErr l d : Nat) : Int)) ∧ DiskZ w' B (stepL l d) (stepD l d) ∧ Only B w w' := by
  obtain ⟨c9, c10, _⟩ := h.cells
  have f9 := h.frozen 9
  have f10 := h.frozen 10
  by_cases h0 : l = 0
  · subst h0
    obtain ⟨e9, e10, _⟩ := (h.set10 true).cells
    have HZ := hideIt (h.set10 true)
    have HO := hideIt ((Only.refl B w).set 10 (.bool true))
    clear h
    go_enter Try.func115, Try.ntmps115
    go_wp2_with fail
    go_ret
    exact ⟨by simp [stepErr, errV], by simpa [stepL, stepD] using HZ.out, HO.out⟩
  · cases d with
    | true =>
      have HZ := hideIt h
      have hb : (l == 0) = false := by simp [h0]
      clear h
      go_enter Try.func115, Try.ntmps115
      go_wp2_with fail
      go_ret
      exact ⟨by simp [stepErr, errV], by simpa [stepL, stepD] using HZ.out, Only.refl _ _⟩
    | false =>
      have hb : (l == 0) = false := by simp [h0]
      by_cases hp : 0 < l
      · have hw : wrap64 (l - 1) = l - 1 := by unfold wrap64; omega
        have HZ := hideIt (h.set9 (l - 1))
        have HO := hideIt ((Only.refl B w).set 9 (.int .i64 (l - 1)))
        clear h
        go_enter Try.func115, Try.ntmps115
        go_wp2_with fail
        go_ret
        exact ⟨by simp [stepErr, errV, h0], by simpa [stepL, stepD, h0, hp] using HZ.out, HO.out⟩
      · have HZ := hideIt h
        have hp' : l ≤ 0 := by omega
        have HE : Hid (stepL l false = l) := by unfold Hid stepL; rw [if_neg (by simp [h0]), if_neg hp]
        clear h
        go_enter Try.func115, Try.ntmps115
        go_wp2_with fail
        go_ret
        exact ⟨by simp [stepErr, errV, h0], by rw [HE.out]; simpa [stepD, h0] using HZ.out, Only.refl _ _⟩
def refL (l : Int) (d : Bool) : Int := if d = true then l else if l = 0 then -1 else if 0 < l then l - 1 else l
set_option maxRecDepth 100000 in
set_option maxHeartbeats 1000000 in
theorem refStep_any (B : Nat) (l : Int) (d : Bool) (w : World) (h : RefZ w B l d) (hl : -9223372036854775808 ≤ l ∧ l ≤ 9223372036854775807) : Calls Try.prog 74 #[.pointer (some ⟨B, 0, none⟩)] w fun e w' => e = .returned (.int .i64 ((stepErr l d : Nat) : Int)) ∧ RefZ w' B (refL l d) (stepD l d) ∧ Only B w w' := by
  obtain ⟨c9, c10, _⟩ := h.cells
  have f9 := h.frozen 9
  have f10 := h.frozen 10
  cases d with
  | true =>
    have HZ := hideIt h
    clear h
    go_enter Try.func74, Try.ntmps74
    go_wp2_with fail
    go_ret
    exact ⟨by simp [stepErr], by simpa [refL, stepD] using HZ.out, Only.refl _ _⟩
  | false =>
    by_cases h0 : l = 0
    · subst h0
      have h1 := h.set10 true
      obtain ⟨d9, d10, _⟩ := h1.cells
      have g9 := h1.frozen 9
      have h2 := h1.set9 (-1)
      obtain ⟨e9, e10, _⟩ := h2.cells
      have HZ := hideIt h2
      have HO := hideIt (((Only.refl B w).set 10 (.bool true)).set 9 (.int .i64 (-1)))
      clear h h1 h2
      go_enter Try.func74, Try.ntmps74
      go_wp2_with fail
      go_ret
      exact ⟨by simp [stepErr], by simpa [refL, stepD] using HZ.out, HO.out⟩
    · have hb : (l == 0) = false := by simp [h0]
      by_cases hp : 0 < l
      · have hw : wrap64 (l - 1) = l - 1 := by unfold wrap64; omega
        have HZ := hideIt (h.set9 (l - 1))
        have HO := hideIt ((Only.refl B w).set 9 (.int .i64 (l - 1)))
        clear h
        go_enter Try.func74, Try.ntmps74
        go_wp2_with fail
        go_ret
        exact ⟨by simp [stepErr, h0], by simpa [refL, stepD, h0, hp] using HZ.out, HO.out⟩
      · have HZ := hideIt h
        have hp' : l ≤ 0 := by omega
        have HE : Hid (refL l false = l) := by unfold Hid refL; rw [if_neg (by decide), if_neg h0, if_neg hp]
        clear h
        go_enter Try.func74, Try.ntmps74
        go_wp2_with fail
        go_ret
        exact ⟨by simp [stepErr, h0], by rw [HE.out]; simpa [stepD, h0] using HZ.out, Only.refl _ _⟩
set_option maxRecDepth 100000 in
theorem arm_anyR (B : Nat) (l n : Int) (d : Bool) (w : World) (h : DiskZ w B l d) : Calls Try.prog 77 #[.pointer (some ⟨B, 0, none⟩), .int .i64 n] w fun e w' => e = .returned (.tuple #[]) ∧ DiskZ w' B n d ∧ Only B w w' := by
  obtain ⟨c9, _, _⟩ := h.cells
  have f9 := h.frozen 9
  have HZ := hideIt (h.set9 n)
  have HO := hideIt ((Only.refl B w).set 9 (.int .i64 n))
  clear h
  go_enter Try.func77, Try.ntmps77
  go_wp2_with fail
  go_end0
  exact ⟨rfl, HZ.out, HO.out⟩
theorem newDisk_any (w : World) : Calls Try.prog 71 #[] w fun e w' => e = .returned (.pointer (some ⟨w.heap.size, 0, none⟩)) ∧ DiskZ w' w.heap.size (-1) false ∧ Below w.heap.size w w' ∧ w'.heap.size = w.heap.size + 1 := by
  go_enter Try.func71, Try.ntmps71
  go_wp2_with fail
  go_ret
  exact ⟨rfl, World.alloc_heap_new w _, (Below.refl _ _).alloc (Nat.le_refl _) _, by simp⟩
theorem newRef_any (w : World) : Calls Try.prog 73 #[] w fun e w' => e = .returned (.pointer (some ⟨w.heap.size, 0, none⟩)) ∧ RefZ w' w.heap.size (-1) false ∧ Below w.heap.size w w' ∧ w'.heap.size = w.heap.size + 1 := by
  go_enter Try.func73, Try.ntmps73
  go_wp2_with fail
  go_ret
  exact ⟨rfl, World.alloc_heap_new w _, (Below.refl _ _).alloc (Nat.le_refl _) _, by simp⟩
theorem DiskZ.same0 {w : World} {B : Nat} {l : Int} {d : Bool} (h : DiskZ w B l d) : DiskZ (w.setCell ⟨B, 0, none⟩ (.bool false)) B l d := by
  obtain ⟨hlt, hk⟩ := Array.getElem?_eq_some_iff.1 h
  show (w.heap.modify B _)[B]? = _
  rw [Array.getElem?_eq_getElem (by rw [Array.size_modify]; exact hlt), Array.getElem_modify_self, hk]
  rfl
theorem DiskZ.same1 {w : World} {B : Nat} {l : Int} {d : Bool} (h : DiskZ w B l d) : DiskZ (w.setCell ⟨B, 1, none⟩ (.string ⟨#[]⟩)) B l d := by
  obtain ⟨hlt, hk⟩ := Array.getElem?_eq_some_iff.1 h
  show (w.heap.modify B _)[B]? = _
  rw [Array.getElem?_eq_getElem (by rw [Array.size_modify]; exact hlt), Array.getElem_modify_self, hk]
  rfl
theorem DiskZ.same2 {w : World} {B : Nat} {l : Int} {d : Bool} (h : DiskZ w B l d) : DiskZ (w.setCell ⟨B, 2, none⟩ (.bool false)) B l d := by
  obtain ⟨hlt, hk⟩ := Array.getElem?_eq_some_iff.1 h
  show (w.heap.modify B _)[B]? = _
  rw [Array.getElem?_eq_getElem (by rw [Array.size_modify]; exact hlt), Array.getElem_modify_self, hk]
  rfl
theorem DiskZ.same3 {w : World} {B : Nat} {l : Int} {d : Bool} (h : DiskZ w B l d) : DiskZ (w.setCell ⟨B, 3, none⟩ (.string ⟨#[]⟩)) B l d := by
  obtain ⟨hlt, hk⟩ := Array.getElem?_eq_some_iff.1 h
  show (w.heap.modify B _)[B]? = _
  rw [Array.getElem?_eq_getElem (by rw [Array.size_modify]; exact hlt), Array.getElem_modify_self, hk]
  rfl
theorem DiskZ.same8 {w : World} {B : Nat} {l : Int} {d : Bool} (h : DiskZ w B l d) : DiskZ (w.setCell ⟨B, 8, none⟩ (.slice none 0 0)) B l d := by
  obtain ⟨hlt, hk⟩ := Array.getElem?_eq_some_iff.1 h
  show (w.heap.modify B _)[B]? = _
  rw [Array.getElem?_eq_getElem (by rw [Array.size_modify]; exact hlt), Array.getElem_modify_self, hk]
  rfl
theorem DiskZ.all {w : World} {B : Nat} {l : Int} {d : Bool} (h : DiskZ w B l d) : w.cell? ⟨B, 0, none⟩ = some (.bool false) ∧ w.cell? ⟨B, 1, none⟩ = some (.string ⟨#[]⟩) ∧ w.cell? ⟨B, 2, none⟩ = some (.bool false) ∧ w.cell? ⟨B, 3, none⟩ = some (.string ⟨#[]⟩) ∧ w.cell? ⟨B, 4, none⟩ = some (.bool false) ∧ w.cell? ⟨B, 5, none⟩ = some (.string ⟨#[]⟩) ∧ w.cell? ⟨B, 6, none⟩ = some (.bool false) ∧ w.cell? ⟨B, 7, none⟩ = some (.string ⟨#[]⟩) ∧ w.cell? ⟨B, 8, none⟩ = some (.slice none 0 0) := by
  refine ⟨?_, ?_, ?_, ?_, ?_, ?_, ?_, ?_, ?_⟩ <;> simp [World.cell?, show w.heap[B]? = _ from h]
theorem RefZ.same4 {w : World} {B : Nat} {l : Int} {d : Bool} (h : RefZ w B l d) : RefZ (w.setCell ⟨B, 4, none⟩ (.string ⟨#[]⟩)) B l d := by
  obtain ⟨hlt, hk⟩ := Array.getElem?_eq_some_iff.1 h
  show (w.heap.modify B _)[B]? = _
  rw [Array.getElem?_eq_getElem (by rw [Array.size_modify]; exact hlt), Array.getElem_modify_self, hk]
  rfl
theorem RefZ.same5 {w : World} {B : Nat} {l : Int} {d : Bool} (h : RefZ w B l d) : RefZ (w.setCell ⟨B, 5, none⟩ (.string ⟨#[]⟩)) B l d := by
  obtain ⟨hlt, hk⟩ := Array.getElem?_eq_some_iff.1 h
  show (w.heap.modify B _)[B]? = _
  rw [Array.getElem?_eq_getElem (by rw [Array.size_modify]; exact hlt), Array.getElem_modify_self, hk]
  rfl
theorem RefZ.same6 {w : World} {B : Nat} {l : Int} {d : Bool} (h : RefZ w B l d) : RefZ (w.setCell ⟨B, 6, none⟩ (.bool false)) B l d := by
  obtain ⟨hlt, hk⟩ := Array.getElem?_eq_some_iff.1 h
  show (w.heap.modify B _)[B]? = _
  rw [Array.getElem?_eq_getElem (by rw [Array.size_modify]; exact hlt), Array.getElem_modify_self, hk]
  rfl
theorem RefZ.same7 {w : World} {B : Nat} {l : Int} {d : Bool} (h : RefZ w B l d) : RefZ (w.setCell ⟨B, 7, none⟩ (.bool false)) B l d := by
  obtain ⟨hlt, hk⟩ := Array.getElem?_eq_some_iff.1 h
  show (w.heap.modify B _)[B]? = _
  rw [Array.getElem?_eq_getElem (by rw [Array.size_modify]; exact hlt), Array.getElem_modify_self, hk]
  rfl
theorem RefZ.same8 {w : World} {B : Nat} {l : Int} {d : Bool} (h : RefZ w B l d) : RefZ (w.setCell ⟨B, 8, none⟩ (.slice none 0 0)) B l d := by
  obtain ⟨hlt, hk⟩ := Array.getElem?_eq_some_iff.1 h
  show (w.heap.modify B _)[B]? = _
  rw [Array.getElem?_eq_getElem (by rw [Array.size_modify]; exact hlt), Array.getElem_modify_self, hk]
  rfl
theorem RefZ.all {w : World} {B : Nat} {l : Int} {d : Bool} (h : RefZ w B l d) : w.cell? ⟨B, 0, none⟩ = some (.string ⟨#[]⟩) ∧ w.cell? ⟨B, 1, none⟩ = some (.string ⟨#[]⟩) ∧ w.cell? ⟨B, 2, none⟩ = some (.bool false) ∧ w.cell? ⟨B, 3, none⟩ = some (.bool false) ∧ w.cell? ⟨B, 4, none⟩ = some (.string ⟨#[]⟩) ∧ w.cell? ⟨B, 5, none⟩ = some (.string ⟨#[]⟩) ∧ w.cell? ⟨B, 6, none⟩ = some (.bool false) ∧ w.cell? ⟨B, 7, none⟩ = some (.bool false) ∧ w.cell? ⟨B, 8, none⟩ = some (.slice none 0 0) := by
  refine ⟨?_, ?_, ?_, ?_, ?_, ?_, ?_, ?_, ?_⟩ <;> simp [World.cell?, show w.heap[B]? = _ from h]
set_option maxRecDepth 100000 in
set_option maxHeartbeats 2000000 in
theorem restart_anyR (B : Nat) (l : Int) (d : Bool) (w : World) (h : DiskZ w B l d) : Calls Try.prog 78 #[.pointer (some ⟨B, 0, none⟩), .int .i64 0, .int .i64 0] w fun e w' => e = .returned (.tuple #[]) ∧ DiskZ w' B (-1) false ∧ Only B w w' := by
  obtain ⟨a0, a1, a2, a3, a4, a5, a6, a7, a8⟩ := h.all
  obtain ⟨a9, a10, _⟩ := h.cells
  have f0 := h.frozen 0
  have f1 := h.frozen 1
  have f2 := h.frozen 2
  have f3 := h.frozen 3
  have f8 := h.frozen 8
  have f9 := h.frozen 9
  have f10 := h.frozen 10
  have HZ := hideIt ((((((h.same0.same1).same2).same3).same8).set9 (-1)).set10 false)
  have HO := hideIt ((((((((Only.refl B w).set 0 (.bool false)).set 1 (.string ⟨#[]⟩)).set 2 (.bool false)).set 3 (.string ⟨#[]⟩)).set 8 (.slice none 0 0)).set 9 (.int .i64 (-1))).set 10 (.bool false))
  clear h
  go_enter Try.func78, Try.ntmps78
  go_wp2_with fail
  go_loop [23] (fun i => i = .int .i64 0) (fun _ => 0)
  case atStart => rfl
  case round =>
    subst hrel
    go_wp2_with fail
    go_end0
    exact ⟨rfl, HZ.out, HO.out⟩
set_option maxRecDepth 100000 in
set_option maxHeartbeats 2000000 in
theorem refRestart_any (B : Nat) (l : Int) (d : Bool) (w : World) (h : RefZ w B l d) : Calls Try.prog 79 #[.pointer (some ⟨B, 0, none⟩), .int .i64 0, .int .i64 0] w fun e w' => e = .returned (.tuple #[]) ∧ RefZ w' B (-1) false ∧ Only B w w' := by
  obtain ⟨a0, a1, a2, a3, a4, a5, a6, a7, a8⟩ := h.all
  obtain ⟨a9, a10, _⟩ := h.cells
  have f4 := h.frozen 4
  have f5 := h.frozen 5
  have f6 := h.frozen 6
  have f7 := h.frozen 7
  have f8 := h.frozen 8
  have f9 := h.frozen 9
  have f10 := h.frozen 10
  have HZ := hideIt ((((((h.same4.same5).same6).same7).same8).set10 false).set9 (-1))
  have HO := hideIt ((((((((Only.refl B w).set 4 (.string ⟨#[]⟩)).set 5 (.string ⟨#[]⟩)).set 6 (.bool false)).set 7 (.bool false)).set 8 (.slice none 0 0)).set 10 (.bool false)).set 9 (.int .i64 (-1)))
  clear h
  go_enter Try.func79, Try.ntmps79
  go_wp2_with fail
  go_loop [6] (fun i => i = .int .i64 0) (fun _ => 0)
  case atStart => rfl
  case round =>
    subst hrel
    go_wp2_with fail
    go_end0
    exact ⟨rfl, HZ.out, HO.out⟩
end Go.Proofs.Ythekalhceamcoaa
