/- Plain facts: which lists of processors are a machine: no program, no world. -/
import Derived.Test.YthekalhceamcoaaTMath
namespace Go.Proofs.Ythekalhceamcoaa
namespace Ost
/-- Are its core, socket and node such as there may be? -/
def inB (c : Cpu) : Bool := decide (0 ≤ c.core) && decide (c.core < 64) && (decide (0 ≤ c.sock) && decide (c.sock < 64)) && (decide (0 ≤ c.node) && decide (c.node < 4))
theorem inB_iff (c : Cpu) : inB c = true ↔ 0 ≤ c.core ∧ c.core < 64 ∧ 0 ≤ c.sock ∧ c.sock < 64 ∧ 0 ≤ c.node ∧ c.node < 4 := by
  simp only [inB, Bool.and_eq_true, decide_eq_true_eq]; omega
/-- Does one lie in the other's core, but elsewhere? -/
def clash (a c : Cpu) : Bool := decide (a.core = c.core) && decide (a ≠ c)
def clashTo (l : List Cpu) (c : Cpu) : Nat → Bool
  | 0 => false
  | k + 1 => clashTo l c k || clash (l.getD k cpu0) c
theorem clashTo_iff (l : List Cpu) (c : Cpu) (k : Nat) : clashTo l c k = true ↔ ∃ j, j < k ∧ clash (l.getD j cpu0) c = true := by
  induction k with
  | zero => simp [clashTo]
  | succ k ih =>
    rw [clashTo, Bool.or_eq_true, ih]
    constructor
    · rintro (⟨j, hj, h⟩ | h)
      · exact ⟨j, by omega, h⟩
      · exact ⟨k, by omega, h⟩
    · rintro ⟨j, hj, h⟩
      by_cases e : j = k
      · subst e; exact .inr h
      · exact .inl ⟨j, by omega, h⟩
/-- What is wrong with one of them. -/
def faultAt (l : List Cpu) (i : Nat) : Int := if inB (l.getD i cpu0) then (if clashTo l (l.getD i cpu0) i then 3 else 0) else 1
/-- What is wrong with the first ones. -/
def faultTo (l : List Cpu) : Nat → Int
  | 0 => 0
  | k + 1 => if faultTo l k = 0 then faultAt l k else faultTo l k
def fault (l : List Cpu) : Int := if l.length = 0 ∨ 64 < l.length then 2 else faultTo l l.length
theorem faultTo_stay (l : List Cpu) (i k : Nat) (f : Int) (hf : f ≠ 0) (h : faultTo l i = f) : faultTo l (i + k) = f := by
  induction k with
  | zero => exact h
  | succ k ih =>
    show faultTo l ((i + k) + 1) = f
    rw [faultTo, ih, if_neg hf]
theorem faultTo_zero (l : List Cpu) (k : Nat) (h : faultTo l k = 0) : ∀ j, j < k → faultAt l j = 0 := by
  induction k with
  | zero => intro j hj; omega
  | succ k ih =>
    rw [faultTo] at h
    by_cases h0 : faultTo l k = 0
    · rw [if_pos h0] at h
      intro j hj
      by_cases e : j = k
      · subst e; exact h
      · exact ih h0 j (by omega)
    · rw [if_neg h0] at h; exact absurd h h0
theorem fault_at (l : List Cpu) (i : Nat) (f : Int) (h0 : 0 < l.length) (h64 : l.length ≤ 64) (hi : i < l.length) (hp : faultTo l i = 0) (ha : faultAt l i = f) (hf : f ≠ 0) : fault l = f := by
  unfold fault
  rw [if_neg (by omega)]
  have : faultTo l (i + 1) = f := by rw [faultTo, if_pos hp, ha]
  have := faultTo_stay l (i + 1) (l.length - (i + 1)) f hf this
  rwa [show i + 1 + (l.length - (i + 1)) = l.length by omega] at this
theorem fault_none (l : List Cpu) (h0 : 0 < l.length) (h64 : l.length ≤ 64) (hp : faultTo l l.length = 0) : fault l = 0 := by
  unfold fault
  rw [if_neg (by omega)]; exact hp
theorem faultTo_next {l : List Cpu} {k : Nat} (h : faultTo l k = 0) (hb : inB (l.getD k cpu0) = true) (hc : clashTo l (l.getD k cpu0) k = false) : faultTo l (k + 1) = 0 := by
  rw [faultTo, if_pos h, faultAt, if_pos hb, if_neg (by rw [hc]; simp)]
theorem faultAt_bound {l : List Cpu} {k : Nat} (hb : inB (l.getD k cpu0) = false) : faultAt l k = 1 := by rw [faultAt, if_neg (by rw [hb]; simp)]
theorem faultAt_shape {l : List Cpu} {k : Nat} (hb : inB (l.getD k cpu0) = true) (hc : clashTo l (l.getD k cpu0) k = true) : faultAt l k = 3 := by
  rw [faultAt, if_pos hb, if_pos hc]
/-- The last one ahead that lies in a core. -/
def seen (l : List Cpu) : Nat → Int → Option Cpu
  | 0, _ => none
  | k + 1, c => if (l.getD k cpu0).core = c then some (l.getD k cpu0) else seen l k c
theorem seen_some {l : List Cpu} {k : Nat} {c : Int} {x : Cpu} (h : seen l k c = some x) : ∃ j, j < k ∧ l.getD j cpu0 = x ∧ x.core = c := by
  induction k with
  | zero => simp [seen] at h
  | succ k ih =>
    rw [seen] at h
    by_cases e : (l.getD k cpu0).core = c
    · rw [if_pos e] at h
      simp only [Option.some.injEq] at h
      exact ⟨k, by omega, h, by rw [← h]; exact e⟩
    · rw [if_neg e] at h
      obtain ⟨j, hj, r⟩ := ih h
      exact ⟨j, by omega, r⟩
theorem seen_none {l : List Cpu} {k : Nat} {c : Int} (h : seen l k c = none) : ∀ j, j < k → (l.getD j cpu0).core ≠ c := by
  induction k with
  | zero => intro j hj; omega
  | succ k ih =>
    rw [seen] at h
    by_cases e : (l.getD k cpu0).core = c
    · rw [if_pos e] at h; cases h
    · rw [if_neg e] at h
      intro j hj
      by_cases ej : j = k
      · subst ej; exact e
      · exact ih h j (by omega)
theorem clash_none {l : List Cpu} {k : Nat} {x : Cpu} (h : seen l k x.core = none) : clashTo l x k = false := by
  rw [Bool.eq_false_iff]
  intro hc
  obtain ⟨j, hj, h2⟩ := (clashTo_iff l x k).1 hc
  simp only [clash, Bool.and_eq_true, decide_eq_true_eq] at h2
  exact seen_none h j hj h2.1
theorem clash_seen {l : List Cpu} {k : Nat} {x y : Cpu} (hf : faultTo l k = 0) (h : seen l k x.core = some y) : clashTo l x k = decide (y ≠ x) := by
  obtain ⟨j, hj, hy, hyc⟩ := seen_some h
  rw [Bool.eq_iff_iff, clashTo_iff, decide_eq_true_eq]
  constructor
  · rintro ⟨i, hi, h2⟩
    simp only [clash, Bool.and_eq_true, decide_eq_true_eq] at h2
    intro e
    by_cases hij : i = j
    · subst hij; rw [hy] at h2; exact h2.2 e
    · have key : ∀ a b, a < b → b < k → (l.getD a cpu0).core = (l.getD b cpu0).core → l.getD a cpu0 = l.getD b cpu0 := by
        intro a b hab hb hc
        have h0 := faultTo_zero l k hf b hb
        unfold faultAt at h0
        by_cases hB : inB (l.getD b cpu0) = true
        · rw [if_pos hB] at h0
          by_cases hC : clashTo l (l.getD b cpu0) b = true
          · rw [if_pos hC] at h0; cases h0
          · apply Classical.byContradiction
            intro hne
            exact hC ((clashTo_iff _ _ _).2 ⟨a, hab, by simp only [clash, Bool.and_eq_true, decide_eq_true_eq]; exact ⟨hc, hne⟩⟩)
        · rw [if_neg hB] at h0; cases h0
      have : l.getD i cpu0 = l.getD j cpu0 := by
        rcases Nat.lt_or_gt_of_ne hij with q | q
        · exact key i j q hj (by rw [h2.1, hy, hyc])
        · exact (key j i q hi (by rw [h2.1, hy, hyc])).symm
      rw [this, hy] at h2
      exact h2.2 e
  · intro hne
    exact ⟨j, hj, by simp only [clash, Bool.and_eq_true, decide_eq_true_eq]; rw [hy]; exact ⟨hyc, hne⟩⟩
theorem fault_good {l : List Cpu} (h : fault l = 0) : 0 < l.length ∧ l.length ≤ 64 ∧ ∀ c ∈ l, inB c = true := by
  unfold fault at h
  by_cases hl : l.length = 0 ∨ 64 < l.length
  · rw [if_pos hl] at h; cases h
  · rw [if_neg hl] at h
    refine ⟨by omega, by omega, fun c hc => ?_⟩
    obtain ⟨i, hi, rfl⟩ := List.getElem_of_mem hc
    have h0 := faultTo_zero l _ h i hi
    have e : l.getD i cpu0 = l[i] := by simp [hi]
    unfold faultAt at h0
    rw [e] at h0
    by_cases hB : inB l[i] = true
    · exact hB
    · rw [if_neg hB] at h0; cases h0
/-- In a machine a core lies in one socket and on one node. -/
theorem fault_core {l : List Cpu} (h : fault l = 0) {a b : Nat} (ha : a < l.length) (hb : b < l.length) (hc : (l.getD a cpu0).core = (l.getD b cpu0).core) : l.getD a cpu0 = l.getD b cpu0 := by
  unfold fault at h
  by_cases hl : l.length = 0 ∨ 64 < l.length
  · rw [if_pos hl] at h; cases h
  · rw [if_neg hl] at h
    have key : ∀ a b, a < b → b < l.length → (l.getD a cpu0).core = (l.getD b cpu0).core → l.getD a cpu0 = l.getD b cpu0 := by
      intro a b hab hb hc
      have h0 := faultTo_zero l _ h b hb
      unfold faultAt at h0
      by_cases hB : inB (l.getD b cpu0) = true
      · rw [if_pos hB] at h0
        by_cases hC : clashTo l (l.getD b cpu0) b = true
        · rw [if_pos hC] at h0; cases h0
        · apply Classical.byContradiction
          intro hne
          exact hC ((clashTo_iff _ _ _).2 ⟨a, hab, by simp only [clash, Bool.and_eq_true, decide_eq_true_eq]; exact ⟨hc, hne⟩⟩)
      · rw [if_neg hB] at h0; cases h0
    rcases Nat.lt_trichotomy a b with q | q | q
    · exact key a b q hb hc
    · rw [q]
    · exact (key b a q ha hc.symm).symm
end Ost
end Go.Proofs.Ythekalhceamcoaa
