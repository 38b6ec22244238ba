/- Plain facts about masks of nodes, and so many things on each: no program, no world. -/
import Derived.Test.YtlpogejkmigimaaSMath
namespace Go.Proofs.Ytlpogejkmigimaa
namespace Ost
/-- So many on each node. -/
structure N4 where
  a : Int
  b : Int
  c : Int
  d : Int
def N4.get (q : N4) : Nat → Int
  | 0 => q.a
  | 1 => q.b
  | 2 => q.c
  | _ => q.d
/-- So many on the nodes of a mask, of the first ones. -/
def sumTo (q : N4) (m : Nat) : Nat → Int
  | 0 => 0
  | k + 1 => if m.testBit k then sumTo q m k + q.get k else sumTo q m k
def sumOn (q : N4) (m : Nat) : Int := sumTo q m 4
theorem sumTo_yes {q : N4} {m k : Nat} (h : m.testBit k = true) : sumTo q m (k + 1) = sumTo q m k + q.get k := by rw [sumTo, if_pos h]
theorem sumTo_no {q : N4} {m k : Nat} (h : m.testBit k = false) : sumTo q m (k + 1) = sumTo q m k := by rw [sumTo, if_neg (by rw [h]; simp)]
/-- No great numbers. -/
def Sm (q : N4) : Prop := ∀ k, -1000000 ≤ q.get k ∧ q.get k ≤ 1000000
theorem sumTo_bound {q : N4} (h : Sm q) (m k : Nat) : -1000000 * (k : Int) ≤ sumTo q m k ∧ sumTo q m k ≤ 1000000 * (k : Int) := by
  induction k with
  | zero => simp [sumTo]
  | succ k ih =>
    have := h k
    rw [sumTo]
    split <;> omega
/-- How many nodes a mask has. -/
def pop8 (m : Nat) : Nat := (listTo m 8).length
theorem pop8_le (m : Nat) : pop8 m ≤ 8 := by
  unfold pop8 listTo
  exact Nat.le_trans (List.length_filter_le _ _) (by simp)
/-- Is it a mask of some of these nodes? -/
def isSub (nodes m : Nat) : Bool := decide (1 ≤ m) && decide (m &&& nodes = m)
def masksTo (nodes k : Nat) : List Nat := (List.range k).filter (isSub nodes)
theorem masksTo_yes {nodes k : Nat} (h : isSub nodes k = true) : masksTo nodes (k + 1) = masksTo nodes k ++ [k] := by
  unfold masksTo
  rw [List.range_succ, List.filter_append]; simp [h]
theorem masksTo_no {nodes k : Nat} (h : isSub nodes k = false) : masksTo nodes (k + 1) = masksTo nodes k := by
  unfold masksTo
  rw [List.range_succ, List.filter_append]; simp [h]
theorem masksTo_le (nodes k : Nat) : (masksTo nodes k).length ≤ k := by
  unfold masksTo
  exact Nat.le_trans (List.length_filter_le _ _) (by simp)
theorem masksTo_mem {nodes k m : Nat} (h : m ∈ masksTo nodes k) : m < k ∧ isSub nodes m = true := by
  unfold masksTo at h
  rw [List.mem_filter, List.mem_range] at h
  exact h
/-- How few nodes have so many at all. -/
def fewTo (q : N4) (many : Int) (l : List Nat) : Nat → Nat
  | 0 => 4
  | k + 1 => if decide (many ≤ sumOn q (l.getD k 0)) then min (fewTo q many l k) (pop8 (l.getD k 0)) else fewTo q many l k
theorem fewTo_le (q : N4) (many : Int) (l : List Nat) (k : Nat) : fewTo q many l k ≤ 4 := by
  induction k with
  | zero => exact Nat.le_refl _
  | succ k ih => rw [fewTo]; split <;> omega
/-- Is a hint good? -/
def goodH (all : N4) (many : Int) (few m : Nat) : Bool := decide (many ≤ sumOn all m) && decide (pop8 m = few)
/-- The hints of the first masks. -/
def hintsTo (free all : N4) (many : Int) (few : Nat) (l : List Nat) : Nat → List (Nat × Bool)
  | 0 => []
  | k + 1 => if decide (many ≤ sumOn free (l.getD k 0)) then hintsTo free all many few l k ++ [(l.getD k 0, goodH all many few (l.getD k 0))] else hintsTo free all many few l k
theorem hintsTo_le (free all : N4) (many : Int) (few : Nat) (l : List Nat) (k : Nat) : (hintsTo free all many few l k).length ≤ k := by
  induction k with
  | zero => exact Nat.le_refl _
  | succ k ih =>
    rw [hintsTo]
    split
    · rw [List.length_append]; simp only [List.length_cons, List.length_nil]; omega
    · omega
def few (all : N4) (nodes : Nat) (many : Int) : Nat := fewTo all many (masksTo nodes 16) (masksTo nodes 16).length
/-- What hints.For tells. -/
def hints (free all : N4) (nodes : Nat) (many : Int) : List (Nat × Bool) := hintsTo free all many (few all nodes many) (masksTo nodes 16) (masksTo nodes 16).length
end Ost
end Go.Proofs.Ytlpogejkmigimaa
