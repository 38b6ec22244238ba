/- Plain facts: nodes, sockets and cores part processors: no program, no world. -/
import Derived.Test.YthekalhceamcoaaTMath2
namespace Go.Proofs.Ythekalhceamcoaa
namespace Ost
def low (f : Cpu → Int) (l : List Cpu) (k : Nat) : Nat := chosen (fun x => decide (f x < k)) l
def at' (f : Cpu → Int) (l : List Cpu) (k : Nat) : Nat := chosen (fun x => f x == (k : Int)) l
theorem low_and (f : Cpu → Int) (l : List Cpu) (k : Nat) : low f l k &&& at' f l k = 0 := by
  apply Nat.eq_of_testBit_eq
  intro i
  rw [Nat.testBit_and, low, at', chosen_bit, chosen_bit, Nat.zero_testBit]
  generalize l.getD i cpu0 = x
  by_cases h : f x = (k : Int)
  · simp [h]
  · simp [h]
theorem low_or (f : Cpu → Int) (l : List Cpu) (k : Nat) : low f l k ||| at' f l k = low f l (k + 1) := by
  apply Nat.eq_of_testBit_eq
  intro i
  rw [Nat.testBit_or, low, at', low, chosen_bit, chosen_bit, chosen_bit]
  generalize l.getD i cpu0 = x
  by_cases hi : i < l.length
  · rw [decide_eq_true hi, Bool.true_and, Bool.true_and, Bool.true_and, Bool.eq_iff_iff, Bool.or_eq_true, decide_eq_true_eq, decide_eq_true_eq, beq_iff_eq]
    omega
  · simp [hi]
theorem low_zero {f : Cpu → Int} {l : List Cpu} (h : ∀ x ∈ l, 0 ≤ f x) : low f l 0 = 0 := by
  apply Nat.eq_of_testBit_eq
  intro i
  rw [low, chosen_bit, Nat.zero_testBit]
  by_cases hi : i < l.length
  · have := h (l.getD i cpu0) (by simp [hi])
    have e : decide (f (l.getD i cpu0) < ((0 : Nat) : Int)) = false := decide_eq_false (by omega)
    rw [e]; simp
  · simp [hi]
theorem low_all {f : Cpu → Int} {l : List Cpu} {K : Nat} (h : ∀ x ∈ l, f x < K) : low f l K = chosen (fun _ => true) l := by
  apply chosen_congr
  intro c hc
  exact decide_eq_true (h c hc)
theorem low_stay {f : Cpu → Int} {l : List Cpu} {k : Nat} (h : ∀ x ∈ l, f x < k) : low f l k = low f l (k + 1) := by
  apply chosen_congr
  intro c hc
  have := h c hc
  rw [decide_eq_true this, decide_eq_true (by omega)]
theorem at_zero {f : Cpu → Int} {l : List Cpu} {k : Nat} : at' f l k = 0 ↔ ∀ i, i < l.length → f (l.getD i cpu0) ≠ k := by
  constructor
  · intro h i hi he
    have := congrArg (fun z => Nat.testBit z i) h
    simp only [at', chosen_bit, Nat.zero_testBit, he, decide_eq_true hi] at this
    simp at this
  · intro h
    apply Nat.eq_of_testBit_eq
    intro i
    rw [at', chosen_bit, Nat.zero_testBit]
    by_cases hi : i < l.length
    · have e : (f (l.getD i cpu0) == (k : Int)) = false := by rw [beq_eq_false_iff_ne]; exact h i hi
      rw [e]; simp
    · simp [hi]
/-- A core lies in one socket, or not at all in it. -/
theorem core_sock {l : List Cpu} (h : fault l = 0) (k j : Nat) (hne : at' (·.core) l k &&& at' (·.sock) l j ≠ 0) : at' (·.core) l k &&& at' (·.sock) l j = at' (·.core) l k := by
  have : ∃ i, (at' (·.core) l k &&& at' (·.sock) l j).testBit i = true := by
    apply Classical.byContradiction
    intro hn
    apply hne
    apply Nat.eq_of_testBit_eq
    intro i
    rw [Nat.zero_testBit]
    cases hb : (at' (·.core) l k &&& at' (·.sock) l j).testBit i with
    | false => rfl
    | true => exact absurd ⟨i, hb⟩ hn
  obtain ⟨i, hi⟩ := this
  rw [Nat.testBit_and, at', at', chosen_bit, chosen_bit, Bool.and_eq_true, Bool.and_eq_true, Bool.and_eq_true, decide_eq_true_eq, beq_iff_eq, beq_iff_eq] at hi
  obtain ⟨⟨hil, hc⟩, _, hs⟩ := hi
  apply Nat.eq_of_testBit_eq
  intro a
  rw [Nat.testBit_and, at', at', chosen_bit, chosen_bit]
  by_cases ha : a < l.length
  · by_cases hac : (l.getD a cpu0).core = k
    · have e := fault_core h ha hil (hac.trans hc.symm)
      simp only [e, hc, hs]
      simp
    · have e1 : ((l.getD a cpu0).core == (k : Int)) = false := by rw [beq_eq_false_iff_ne]; exact hac
      rw [e1]; simp
  · simp [ha]
theorem listTo_all (l : List Cpu) (k : Nat) : (listTo (chosen (fun _ => true) l) k).length = min k l.length := by
  induction k with
  | zero => simp [listTo]
  | succ k ih =>
    rw [listTo_succ, chosen_bit]
    by_cases h : k < l.length
    · simp only [h, decide_true, Bool.true_and, if_true, List.length_append, ih, List.length_cons, List.length_nil]; omega
    · simp only [h, decide_false, Bool.false_and]
      rw [if_neg (by simp), ih]; omega
end Ost
end Go.Proofs.Ythekalhceamcoaa
