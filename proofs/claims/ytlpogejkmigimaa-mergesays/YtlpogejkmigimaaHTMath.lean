/- Plain facts about hints: each has enough; a good one is as narrow as any could be: no program, no world. -/
import Derived.Test.YtlpogejkmigimaaHMath
namespace Go.Proofs.Ytlpogejkmigimaa
namespace Ost
theorem take_getD {α : Type} (l : List α) (d : α) (k : Nat) (h : k < l.length) : l.take (k + 1) = l.take k ++ [l.getD k d] := by
  rw [List.take_succ_eq_append_getElem h]; simp [h]
theorem hintsTo_eq (free all : N4) (many : Int) (F : Nat) (l : List Nat) (k : Nat) (hk : k ≤ l.length) : hintsTo free all many F l k = ((l.take k).filter fun m => decide (many ≤ sumOn free m)).map fun m => (m, goodH all many F m) := by
  induction k with
  | zero => simp [hintsTo]
  | succ k ih =>
    rw [take_getD l 0 k (by omega), List.filter_append, List.map_append, ← ih (by omega), hintsTo]
    by_cases h : decide (many ≤ sumOn free (l.getD k 0)) = true
    · rw [if_pos h]
      generalize l.getD k 0 = m at *
      simp [h]
    · rw [if_neg h]
      generalize l.getD k 0 = m at *
      simp [h]
theorem hints_eq (free all : N4) (nodes : Nat) (many : Int) : hints free all nodes many = ((masksTo nodes 16).filter fun m => decide (many ≤ sumOn free m)).map fun m => (m, goodH all many (few all nodes many) m) := by
  unfold hints
  rw [hintsTo_eq _ _ _ _ _ _ (Nat.le_refl _), List.take_length]
theorem fewTo_min (q : N4) (many : Int) (l : List Nat) (k j : Nat) (hj : j < k) (h : many ≤ sumOn q (l.getD j 0)) : fewTo q many l k ≤ pop8 (l.getD j 0) := by
  induction k with
  | zero => omega
  | succ k ih =>
    rw [fewTo]
    by_cases e : j = k
    · subst e; rw [if_pos (decide_eq_true h)]; omega
    · have := ih (by omega)
      split <;> omega
/-- No mask on which there would be enough has fewer nodes. -/
theorem few_min {all : N4} {nodes : Nat} {many : Int} {m : Nat} (hm : m < 16) (hs : isSub nodes m = true) (h : many ≤ sumOn all m) : few all nodes many ≤ pop8 m := by
  have hmem : m ∈ masksTo nodes 16 := by unfold masksTo; rw [List.mem_filter, List.mem_range]; exact ⟨hm, hs⟩
  obtain ⟨j, hj, he⟩ := List.getElem_of_mem hmem
  have e : (masksTo nodes 16).getD j 0 = m := by simp [hj, he]
  have := fewTo_min all many (masksTo nodes 16) (masksTo nodes 16).length j hj (by rw [e]; exact h)
  rw [e] at this
  exact this
theorem hints_mem {free all : N4} {nodes : Nat} {many : Int} {h : Nat × Bool} (hm : h ∈ hints free all nodes many) : 1 ≤ h.1 ∧ h.1 < 16 ∧ h.1 &&& nodes = h.1 ∧ many ≤ sumOn free h.1 ∧ h.2 = goodH all many (few all nodes many) h.1 := by
  rw [hints_eq, List.mem_map] at hm
  obtain ⟨m, hm, rfl⟩ := hm
  rw [List.mem_filter] at hm
  have h1 := masksTo_mem hm.1
  simp only [isSub, Bool.and_eq_true, decide_eq_true_eq] at h1
  exact ⟨h1.2.1, h1.1, h1.2.2, of_decide_eq_true hm.2, rfl⟩
theorem hints_len (free all : N4) (nodes : Nat) (many : Int) : (hints free all nodes many).length ≤ 16 := by
  unfold hints
  have h1 := hintsTo_le free all many (few all nodes many) (masksTo nodes 16) (masksTo nodes 16).length
  have h2 := masksTo_le nodes 16
  omega
theorem hints_nodup (free all : N4) (nodes : Nat) (many : Int) : ((hints free all nodes many).map (·.1)).Nodup := by
  rw [hints_eq, List.map_map]
  have : ((fun x : Nat × Bool => x.1) ∘ fun m => (m, goodH all many (few all nodes many) m)) = id := rfl
  rw [this, List.map_id]
  exact (List.nodup_range.filter _).filter _
/-- Which masks there are among the first hints. -/
def thereTo (H : List (Nat × Bool)) (i j : Nat) : Bool := decide (j ∈ (H.take i).map (·.1))
theorem thereTo_step {H : List (Nat × Bool)} {i : Nat} (hi : i < H.length) (j : Nat) : thereTo H (i + 1) j = (thereTo H i j || decide (j = (H.getD i (0, false)).1)) := by
  unfold thereTo
  rw [take_getD H (0, false) i hi, List.map_append]
  generalize H.getD i (0, false) = h
  rw [Bool.eq_iff_iff]
  simp
theorem thereTo_new {H : List (Nat × Bool)} (hn : (H.map (·.1)).Nodup) {i : Nat} (hi : i < H.length) : thereTo H i (H.getD i (0, false)).1 = false := by
  unfold thereTo
  rw [decide_eq_false_iff_not]
  intro hm
  have e : H.map (·.1) = (H.take i).map (·.1) ++ (H.drop i).map (·.1) := by rw [← List.map_append, List.take_append_drop]
  rw [e, List.nodup_append] at hn
  refine hn.2.2 _ hm _ ?_ rfl
  rw [List.mem_map]
  refine ⟨H.getD i (0, false), ?_, rfl⟩
  have e2 : H.getD i (0, false) = H[i] := by simp [hi]
  rw [e2, List.drop_eq_getElem_cons hi]
  exact List.mem_cons_self
theorem thereTo_end {free all : N4} {nodes : Nat} {many : Int} {m : Nat} (hm : m < 16) (h1 : 1 ≤ m) (hs : m &&& nodes = m) : thereTo (hints free all nodes many) (hints free all nodes many).length m = decide (many ≤ sumOn free m) := by
  unfold thereTo
  rw [List.take_length, hints_eq, List.map_map]
  have : ((fun x : Nat × Bool => x.1) ∘ fun m => (m, goodH all many (few all nodes many) m)) = id := rfl
  rw [this, List.map_id, Bool.eq_iff_iff, decide_eq_true_eq, List.mem_filter]
  constructor
  · exact fun h => h.2
  · intro h
    refine ⟨?_, h⟩
    unfold masksTo isSub
    rw [List.mem_filter, List.mem_range, decide_eq_true h1, decide_eq_true hs]
    exact ⟨hm, rfl⟩
end Ost
end Go.Proofs.Ytlpogejkmigimaa
