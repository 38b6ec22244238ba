/- How much is used together: no program, no world. -/
import Derived.Test.YthekalhceamcoaaEMath2
namespace Go.Proofs.Ythekalhceamcoaa
namespace Qos
theorem sum_perm {l1 l2 : List Int} (h : l1.Perm l2) : l1.sum = l2.sum := by
  induction h with
  | nil => rfl
  | cons x _ ih => simp [ih]
  | swap x y l => simp only [List.sum_cons]; omega
  | trans _ _ h1 h2 => exact h1.trans h2
/-- What all use, up to a place. -/
def allOf (us : List Nd) (ps : List Pd) (n : Nat) : Int := sumTo (fun k => usedOf us (pd ps k).nm) n
theorem sumTo_list (f : Nat → Int) (n : Nat) : sumTo f n = ((List.range n).map f).sum := by
  induction n with
  | zero => rfl
  | succ n ih => rw [sumTo, ih, List.range_succ, List.map_append, List.sum_append]; simp
theorem all_tail {us : List Nd} {ps qs : List Pd} (h : qs.Perm ps) : allOf us ps ps.length = tail us qs 0 := by
  unfold allOf tail
  rw [sumTo_list, List.drop_zero]
  have e : (List.range ps.length).map (fun k => usedOf us (pd ps k).nm) = ps.map fun p => usedOf us p.nm := by
    have := congrArg (List.map fun p => usedOf us p.nm) (pds_map ps)
    rw [List.map_map] at this
    exact this
  rw [e]
  exact (sum_perm (h.map _)).symm
def Tame (us : List Nd) : Prop := ∀ k, k < us.length → -1125899906842624 ≤ (nd us k).many ∧ (nd us k).many ≤ 1125899906842624
theorem used_in {us : List Nd} (h : Tame us) (nm : ByteArray) : -1125899906842624 ≤ usedOf us nm ∧ usedOf us nm ≤ 1125899906842624 := by
  unfold usedOf
  cases e : us.find? fun u => decide (u.kind = nm) with
  | none => simp
  | some x =>
    have hm := List.mem_of_find?_eq_some e
    obtain ⟨k, hk, rfl⟩ := List.getElem_of_mem hm
    have := h k hk
    simp [nd, hk] at this
    simp
    exact this
theorem sum_in {l : List Int} {B : Int} (h : ∀ x ∈ l, -B ≤ x ∧ x ≤ B) : -(l.length * B) ≤ l.sum ∧ l.sum ≤ l.length * B := by
  induction l with
  | nil => simp
  | cons x l ih =>
    have h1 := h x (by simp)
    have h2 := ih (fun y hy => h y (by simp [hy]))
    rw [List.sum_cons, List.length_cons]
    have e : ((l.length + 1 : Nat) : Int) * B = l.length * B + B := by rw [Int.natCast_add, Int.add_mul]; simp
    omega
theorem tail_in {us : List Nd} (h : Tame us) {l : List Pd} (hl : l.length ≤ 16) (i : Nat) : -18014398509481984 ≤ tail us l i ∧ tail us l i ≤ 18014398509481984 := by
  have := sum_in (l := (l.drop i).map fun p => usedOf us p.nm) (B := 1125899906842624) (fun x hx => by
    obtain ⟨p, _, rfl⟩ := List.mem_map.1 hx
    exact used_in h p.nm)
  unfold tail
  rw [List.length_map, List.length_drop] at this
  omega
theorem allOf_in {us : List Nd} (h : Tame us) (ps : List Pd) {n : Nat} (hn : n ≤ 16) : -18014398509481984 ≤ allOf us ps n ∧ allOf us ps n ≤ 18014398509481984 := by
  have := sum_in (l := (List.range n).map fun k => usedOf us (pd ps k).nm) (B := 1125899906842624) (fun x hx => by
    obtain ⟨k, _, rfl⟩ := List.mem_map.1 hx
    exact used_in h _)
  unfold allOf
  rw [sumTo_list]
  rw [List.length_map, List.length_range] at this
  omega
/-- The first word on a name. -/
theorem used_hit {us : List Nd} {nm : ByteArray} {k : Nat} (hk : k < us.length) (hn : ∀ j, j < k → (nd us j).kind ≠ nm) (he : (nd us k).kind = nm) : usedOf us nm = (nd us k).many := by
  unfold usedOf
  have e : us.find? (fun u => decide (u.kind = nm)) = some us[k] := by
    rw [List.find?_eq_some_iff_getElem]
    refine ⟨?_, k, hk, rfl, fun j hj => ?_⟩
    · have : us[k].kind = nm := by simpa [nd, hk] using he
      simp [this]
    · have := hn j hj
      have hj' : j < us.length := by omega
      simp [nd, hj'] at this
      simp [this]
  rw [e]
  simp [nd, hk]
theorem used_miss {us : List Nd} {nm : ByteArray} (hn : ∀ j, j < us.length → (nd us j).kind ≠ nm) : usedOf us nm = 0 := by
  unfold usedOf
  have e : us.find? (fun u => decide (u.kind = nm)) = none := by
    rw [List.find?_eq_none]
    intro x hx
    obtain ⟨k, hk, rfl⟩ := List.getElem_of_mem hx
    have := hn k hk
    simp [nd, hk] at this
    simp [this]
  rw [e]
  rfl
end Qos
end Go.Proofs.Ythekalhceamcoaa
