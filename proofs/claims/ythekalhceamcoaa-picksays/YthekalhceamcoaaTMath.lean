/- Plain facts about processors and where they lie: no program, no world. -/
import Derived.Test.YthekalhceamcoaaSMath
namespace Go.Proofs.Ythekalhceamcoaa
namespace Ost
/-- A processor: its core, its socket, its node. -/
structure Cpu where
  core : Int
  sock : Int
  node : Int
deriving DecidableEq
def cpu0 : Cpu := ⟨0, 0, 0⟩
/-- The set of those that are chosen, of the first ones. -/
def chosenTo (p : Cpu → Bool) (l : List Cpu) : Nat → Nat
  | 0 => 0
  | k + 1 => if p (l.getD k cpu0) then chosenTo p l k ||| 2 ^ k else chosenTo p l k
theorem chosenTo_yes {p : Cpu → Bool} {l : List Cpu} {k : Nat} (h : p (l.getD k cpu0) = true) : chosenTo p l (k + 1) = chosenTo p l k ||| 2 ^ k := by rw [chosenTo, if_pos h]
theorem chosenTo_no {p : Cpu → Bool} {l : List Cpu} {k : Nat} (h : p (l.getD k cpu0) = false) : chosenTo p l (k + 1) = chosenTo p l k := by rw [chosenTo, if_neg (by rw [h]; simp)]
def chosen (p : Cpu → Bool) (l : List Cpu) : Nat := chosenTo p l l.length
theorem chosenTo_bit (p : Cpu → Bool) (l : List Cpu) (k i : Nat) : (chosenTo p l k).testBit i = (decide (i < k) && p (l.getD i cpu0)) := by
  induction k with
  | zero => simp [chosenTo]
  | succ k ih =>
    by_cases h : p (l.getD k cpu0) = true
    · rw [chosenTo_yes h, Nat.testBit_or, ih, Nat.testBit_two_pow]
      by_cases hi : i = k
      · subst hi; rw [h]; simp
      · by_cases h2 : i < k
        · simp [h2, show i < k + 1 by omega, show ¬ k = i by omega]
        · simp [h2, show ¬ i < k + 1 by omega, show ¬ k = i by omega]
    · have h' : p (l.getD k cpu0) = false := by simpa using h
      rw [chosenTo_no h', ih]
      by_cases hi : i = k
      · subst hi; rw [h']; simp
      · by_cases h2 : i < k
        · simp [h2, show i < k + 1 by omega]
        · simp [h2, show ¬ i < k + 1 by omega]
theorem chosenTo_lt (p : Cpu → Bool) (l : List Cpu) (k : Nat) (hk : k ≤ 64) : chosenTo p l k < 18446744073709551616 := by
  apply Nat.lt_pow_two_of_testBit (n := 64)
  intro i hi
  rw [chosenTo_bit]
  simp [show ¬ i < k by omega]
theorem chosen_bit (p : Cpu → Bool) (l : List Cpu) (i : Nat) : (chosen p l).testBit i = (decide (i < l.length) && p (l.getD i cpu0)) := chosenTo_bit p l _ i
theorem chosen_congr {p q : Cpu → Bool} {l : List Cpu} (h : ∀ c ∈ l, p c = q c) : chosen p l = chosen q l := by
  apply Nat.eq_of_testBit_eq
  intro i
  rw [chosen_bit, chosen_bit]
  by_cases hi : i < l.length
  · have : l.getD i cpu0 ∈ l := by simp [hi]
    rw [h _ this]
  · simp [hi]
end Ost
end Go.Proofs.Ythekalhceamcoaa
