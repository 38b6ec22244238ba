/- Plain facts: what the reference's For tells is what hints.For tells. -/
import Derived.Test.YtlpogejkmigimaaHTMath
namespace Go.Proofs.Ytlpogejkmigimaa
namespace Ost
def narrower (all : N4) (nodes : Nat) (many : Int) (m j : Nat) : Bool := decide (j &&& nodes = j) && (decide (many ≤ sumOn all j) && decide (pop8 j < pop8 m))
/-- Is none of the first masks narrower? -/
def rgTo (all : N4) (nodes : Nat) (many : Int) (m : Nat) : Nat → Bool
  | 0 => true
  | 1 => true
  | j + 2 => if narrower all nodes many m (j + 1) then false else rgTo all nodes many m (j + 1)
theorem rgTo_yes {all : N4} {nodes : Nat} {many : Int} {m j : Nat} (hj : 1 ≤ j) (h : narrower all nodes many m j = true) : rgTo all nodes many m (j + 1) = false := by
  obtain ⟨i, rfl⟩ : ∃ i, j = i + 1 := ⟨j - 1, by omega⟩
  rw [rgTo, if_pos h]
theorem rgTo_no {all : N4} {nodes : Nat} {many : Int} {m j : Nat} (hj : 1 ≤ j) (h : narrower all nodes many m j = false) : rgTo all nodes many m (j + 1) = rgTo all nodes many m j := by
  obtain ⟨i, rfl⟩ : ∃ i, j = i + 1 := ⟨j - 1, by omega⟩
  rw [rgTo, if_neg (by rw [h]; simp)]
theorem rgTo_iff (all : N4) (nodes : Nat) (many : Int) (m k : Nat) : rgTo all nodes many m k = true ↔ ∀ j, 1 ≤ j → j < k → narrower all nodes many m j = false := by
  induction k with
  | zero => simp [rgTo]
  | succ k ih =>
    rcases Nat.eq_zero_or_pos k with rfl | hk
    · simp [rgTo]
      intro j h1 h2
      omega
    · cases h : narrower all nodes many m k
      · rw [rgTo_no hk h, ih]
        constructor
        · intro H j h1 h2
          by_cases e : j = k
          · subst e; exact h
          · exact H j h1 (by omega)
        · exact fun H j h1 h2 => H j h1 (by omega)
      · rw [rgTo_yes hk h]
        constructor
        · intro H; cases H
        · intro H
          have := H k hk (by omega)
          rw [h] at this; cases this
def rGood (all : N4) (nodes : Nat) (many : Int) (m : Nat) : Bool := rgTo all nodes many m 256 && decide (many ≤ sumOn all m)
def refTo (free all : N4) (nodes : Nat) (many : Int) (k : Nat) : List (Nat × Bool) := ((masksTo nodes k).filter fun m => decide (many ≤ sumOn free m)).map fun m => (m, rGood all nodes many m)
theorem refTo_yes {free all : N4} {nodes : Nat} {many : Int} {k : Nat} (h : isSub nodes k = true) (hf : many ≤ sumOn free k) : refTo free all nodes many (k + 1) = refTo free all nodes many k ++ [(k, rGood all nodes many k)] := by
  unfold refTo
  rw [masksTo_yes h, List.filter_append, List.map_append]
  simp [hf]
theorem refTo_few {free all : N4} {nodes : Nat} {many : Int} {k : Nat} (hf : sumOn free k < many) : refTo free all nodes many (k + 1) = refTo free all nodes many k := by
  unfold refTo
  cases h : isSub nodes k
  · rw [masksTo_no h]
  · rw [masksTo_yes h, List.filter_append, List.map_append]
    simp; omega
theorem refTo_no {free all : N4} {nodes : Nat} {many : Int} {k : Nat} (h : isSub nodes k = false) : refTo free all nodes many (k + 1) = refTo free all nodes many k := by
  unfold refTo
  rw [masksTo_no h]
theorem refTo_len (free all : N4) (nodes : Nat) (many : Int) (k : Nat) : (refTo free all nodes many k).length ≤ k := by
  unfold refTo
  rw [List.length_map]
  exact Nat.le_trans (List.length_filter_le _ _) (masksTo_le nodes k)
theorem masks_all (nodes : Nat) (hn : nodes ≤ 15) (d : Nat) : masksTo nodes (16 + d) = masksTo nodes 16 := by
  induction d with
  | zero => rfl
  | succ d ih =>
    rw [← Nat.add_assoc, masksTo_no, ih]
    unfold isSub
    have : (16 + d) &&& nodes ≤ nodes := Nat.and_le_right
    rw [decide_eq_false (show ¬ (16 + d) &&& nodes = 16 + d by omega)]
    simp
theorem pop8_four (m : Nat) (h : m < 16) : pop8 m ≤ 4 := by
  have key : ∀ x : Fin 16, pop8 x.val ≤ 4 := by decide +kernel
  exact key ⟨m, h⟩
theorem fewTo_met (q : N4) (many : Int) (l : List Nat) (k : Nat) (hk : k ≤ l.length) : fewTo q many l k = 4 ∨ ∃ j, j ∈ l ∧ many ≤ sumOn q j ∧ pop8 j = fewTo q many l k := by
  induction k with
  | zero => left; rfl
  | succ k ih =>
    rw [fewTo]
    by_cases h : decide (many ≤ sumOn q (l.getD k 0)) = true
    · rw [if_pos h]
      have hm : l.getD k 0 ∈ l := by simp [show k < l.length by omega]
      by_cases h2 : pop8 (l.getD k 0) ≤ fewTo q many l k
      · right
        exact ⟨_, hm, of_decide_eq_true h, by omega⟩
      · rcases ih (by omega) with h3 | ⟨j, hj, h3, h4⟩
        · left; omega
        · right; exact ⟨j, hj, h3, by omega⟩
    · rw [if_neg h]
      exact ih (by omega)
theorem rGood_eq {all : N4} {nodes : Nat} {many : Int} {m : Nat} (hn : nodes ≤ 15) (hm : m < 16) (hs : isSub nodes m = true) : rGood all nodes many m = goodH all many (few all nodes many) m := by
  unfold rGood goodH
  by_cases he : many ≤ sumOn all m
  · rw [decide_eq_true he, Bool.and_true, Bool.true_and, Bool.eq_iff_iff, rgTo_iff, decide_eq_true_eq]
    have h1 := few_min hm hs he
    have h4 := pop8_four m hm
    constructor
    · intro H
      rcases fewTo_met all many (masksTo nodes 16) _ (Nat.le_refl _) with h | ⟨j, hj, h2, h3⟩
      · have h' : few all nodes many = 4 := h
        omega
      · have h3' : pop8 j = few all nodes many := h3
        have hj' := masksTo_mem hj
        have hj2 := hj'.2
        simp only [isSub, Bool.and_eq_true, decide_eq_true_eq] at hj2
        have := H j hj2.1 (by omega)
        unfold narrower at this
        rw [decide_eq_true hj2.2, decide_eq_true h2] at this
        simp at this
        omega
    · intro H j h1j hj
      unfold narrower
      by_cases hs2 : j &&& nodes = j
      · by_cases h2 : many ≤ sumOn all j
        · have hjn : j ≤ 15 := by
            have : j &&& nodes ≤ nodes := Nat.and_le_right
            omega
          have := few_min (all := all) (nodes := nodes) (many := many) (m := j) (by omega) (by unfold isSub; rw [decide_eq_true h1j, decide_eq_true hs2]; rfl) h2
          rw [decide_eq_false (show ¬ pop8 j < pop8 m by omega)]
          simp
        · rw [decide_eq_false h2]; simp
      · rw [decide_eq_false hs2]; simp
  · rw [decide_eq_false he, Bool.and_false, Bool.false_and]
theorem refTo_all (free all : N4) (nodes : Nat) (many : Int) (hn : nodes ≤ 15) : refTo free all nodes many 256 = hints free all nodes many := by
  rw [hints_eq]
  unfold refTo
  rw [show (256 : Nat) = 16 + 240 from rfl, masks_all nodes hn]
  refine List.map_congr_left fun m hm => ?_
  rw [List.mem_filter] at hm
  have := masksTo_mem hm.1
  rw [rGood_eq hn this.1 this.2]
end Ost
end Go.Proofs.Ytlpogejkmigimaa
