/- Plain facts: which processors are given: no program, no world. -/
import Derived.Test.YthekalhceamcoaaTTMath
namespace Go.Proofs.Ythekalhceamcoaa
namespace Ost
/-- How many there are in a set. -/
def cnt (A : Nat) : Nat := (listTo A 64).length
/-- What is in the first, and not in the second. -/
def dif (A B : Nat) : Nat := A ^^^ (A &&& B)
theorem dif_bit (A B i : Nat) : (dif A B).testBit i = (A.testBit i && !B.testBit i) := by
  rw [dif, Nat.testBit_xor, Nat.testBit_and]
  cases A.testBit i <;> cases B.testBit i <;> rfl
theorem sub_iff (A B : Nat) : A &&& B = A ↔ ∀ i, A.testBit i = true → B.testBit i = true := by
  constructor
  · intro h i hi
    have e : (A &&& B).testBit i = A.testBit i := by rw [h]
    rw [Nat.testBit_and, hi] at e
    simpa using e
  · intro h
    apply Nat.eq_of_testBit_eq
    intro i
    rw [Nat.testBit_and]
    cases hA : A.testBit i with
    | false => rfl
    | true => rw [h i hA]; rfl
theorem apart_iff (A B : Nat) : A &&& B = 0 ↔ ∀ i, A.testBit i = true → B.testBit i = false := by
  constructor
  · intro h i hi
    have e : (A &&& B).testBit i = false := by rw [h, Nat.zero_testBit]
    rw [Nat.testBit_and, hi] at e
    simpa using e
  · intro h
    apply Nat.eq_of_testBit_eq
    intro i
    rw [Nat.testBit_and, Nat.zero_testBit]
    cases hA : A.testBit i with
    | false => rfl
    | true => rw [h i hA]; rfl
theorem cntTo_or {A B : Nat} (h : A &&& B = 0) (k : Nat) : (listTo (A ||| B) k).length = (listTo A k).length + (listTo B k).length := by
  induction k with
  | zero => rfl
  | succ k ih =>
    rw [listTo_succ, listTo_succ A, listTo_succ B, Nat.testBit_or]
    have hx := (apart_iff A B).1 h k
    cases hA : A.testBit k with
    | true => rw [hx hA]; simp [ih]; omega
    | false => cases hB : B.testBit k <;> simp [ih]; omega
theorem cnt_or {A B : Nat} (h : A &&& B = 0) : cnt (A ||| B) = cnt A + cnt B := cntTo_or h 64
theorem cnt_0 : cnt 0 = 0 := by decide +kernel
theorem lt64_bit {A : Nat} (h : A < 18446744073709551616) {i : Nat} (hi : A.testBit i = true) : i < 64 := by
  apply Classical.byContradiction
  intro hn
  have : A.testBit i = false := Nat.testBit_lt_two_pow (Nat.lt_of_lt_of_le (show A < 2 ^ 64 from h) (Nat.pow_le_pow_right (n := 2) (by omega) (by omega)))
  rw [this] at hi; cases hi
theorem cnt_zero {A : Nat} (h : A < 18446744073709551616) (hc : cnt A = 0) : A = 0 := by
  apply Nat.eq_of_testBit_eq
  intro i
  rw [Nat.zero_testBit]
  cases hb : A.testBit i with
  | false => rfl
  | true =>
    have : i ∈ listTo A 64 := by unfold listTo; simp [hb, lt64_bit h hb]
    have := List.length_pos_of_mem this
    unfold cnt at hc; omega
theorem dif_lt {A : Nat} (B : Nat) (h : A < 18446744073709551616) : dif A B < 18446744073709551616 := by
  apply Nat.lt_pow_two_of_testBit (n := 64)
  intro i hi
  rw [dif_bit]
  cases hA : A.testBit i with
  | false => rfl
  | true => have := lt64_bit h hA; omega
theorem dif_or {A B : Nat} (h : B &&& A = B) : dif A B ||| B = A := by
  apply Nat.eq_of_testBit_eq
  intro i
  rw [Nat.testBit_or, dif_bit]
  have := (sub_iff B A).1 h i
  cases hB : B.testBit i with
  | true => rw [this hB]; rfl
  | false => simp
theorem dif_apart (A B : Nat) : dif A B &&& B = 0 := by
  rw [apart_iff]
  intro i hi
  rw [dif_bit] at hi
  cases hB : B.testBit i with
  | true => rw [hB] at hi; simp at hi
  | false => rfl
theorem cnt_dif {A B : Nat} (h : B &&& A = B) : cnt (dif A B) + cnt B = cnt A := by
  rw [← cnt_or (dif_apart A B), dif_or h]
theorem cnt_le {A B : Nat} (h : B &&& A = B) : cnt B ≤ cnt A := by have := cnt_dif h; omega
theorem dif_sub (A B : Nat) : dif A B &&& A = dif A B := by
  rw [sub_iff]; intro i hi; rw [dif_bit] at hi; revert hi; cases A.testBit i <;> simp
theorem sub_lt {A B : Nat} (hB : B < 18446744073709551616) (h : A &&& B = A) : A < 18446744073709551616 := by
  rw [← h]; exact Nat.lt_of_le_of_lt Nat.and_le_right hB
theorem dif_zero (A : Nat) : dif A 0 = A := by
  apply Nat.eq_of_testBit_eq; intro i; rw [dif_bit, Nat.zero_testBit]; simp
theorem dif_self (A : Nat) : dif A A = 0 := by
  apply Nat.eq_of_testBit_eq; intro i; rw [dif_bit, Nat.zero_testBit]; cases A.testBit i <;> rfl
theorem dif_dif (A B C : Nat) : dif (dif A B) C = dif A (B ||| C) := by
  apply Nat.eq_of_testBit_eq; intro i; rw [dif_bit, dif_bit, dif_bit, Nat.testBit_or]; cases A.testBit i <;> cases B.testBit i <;> cases C.testBit i <;> rfl
theorem eq_of_cnt {A B : Nat} (hA : A < 18446744073709551616) (h : B &&& A = B) (hc : cnt B = cnt A) : B = A := by
  have h1 := cnt_dif h
  have h2 := cnt_zero (dif_lt B hA) (by omega)
  have h3 := dif_or h
  rw [h2] at h3; simpa using h3
theorem sub_trans {A B C : Nat} (h1 : A &&& B = A) (h2 : B &&& C = B) : A &&& C = A := by
  rw [sub_iff] at *; intro i hi; exact h2 i (h1 i hi)
theorem or_sub {A B C : Nat} (h1 : A &&& C = A) (h2 : B &&& C = B) : (A ||| B) &&& C = A ||| B := by
  rw [sub_iff] at *
  intro i hi
  rw [Nat.testBit_or, Bool.or_eq_true] at hi
  rcases hi with hi | hi
  · exact h1 i hi
  · exact h2 i hi
theorem and_comm0 {A B : Nat} (h : A &&& B = 0) : B &&& A = 0 := by rw [Nat.and_comm]; exact h
/-! ### All of each one -/
/-- What is taken of the first k: all of each that is among the free ones and no more than is wanted still. -/
def wholesTo (f : Nat → Nat) (free : Nat) (many : Int) : Nat → Nat
  | 0 => 0
  | k + 1 => if f k &&& free = f k ∧ (cnt (f k) : Int) ≤ many - cnt (wholesTo f free many k) then wholesTo f free many k ||| f k else wholesTo f free many k
def wholes (f : Nat → Nat) (free : Nat) (many : Int) : Nat := wholesTo f free many 64
theorem wholesTo_yes {f : Nat → Nat} {free : Nat} {many : Int} {k : Nat} (h1 : f k &&& free = f k) (h2 : (cnt (f k) : Int) ≤ many - cnt (wholesTo f free many k)) : wholesTo f free many (k + 1) = wholesTo f free many k ||| f k := by rw [wholesTo, if_pos ⟨h1, h2⟩]
theorem wholesTo_no1 {f : Nat → Nat} {free : Nat} {many : Int} {k : Nat} (h1 : ¬ f k &&& free = f k) : wholesTo f free many (k + 1) = wholesTo f free many k := by rw [wholesTo, if_neg (fun h => h1 h.1)]
theorem wholesTo_no2 {f : Nat → Nat} {free : Nat} {many : Int} {k : Nat} (h2 : ¬ (cnt (f k) : Int) ≤ many - cnt (wholesTo f free many k)) : wholesTo f free many (k + 1) = wholesTo f free many k := by rw [wholesTo, if_neg (fun h => h2 h.2)]
theorem wholesTo_sub (f : Nat → Nat) (free : Nat) (many : Int) (k : Nat) : wholesTo f free many k &&& free = wholesTo f free many k := by
  induction k with
  | zero => simp [wholesTo]
  | succ k ih =>
    rw [wholesTo]
    split
    · rename_i h; exact or_sub ih h.1
    · exact ih
theorem wholesTo_in (f : Nat → Nat) (free : Nat) (many : Int) (k i : Nat) (h : (wholesTo f free many k).testBit i = true) : ∃ n, n < k ∧ (f n).testBit i = true ∧ f n &&& wholesTo f free many k = f n := by
  induction k with
  | zero => simp [wholesTo] at h
  | succ k ih =>
    rw [wholesTo] at h ⊢
    split at h
    · rename_i hc
      rw [if_pos hc]
      rw [Nat.testBit_or, Bool.or_eq_true] at h
      rcases h with h | h
      · obtain ⟨n, hn, hb, hs⟩ := ih h
        refine ⟨n, by omega, hb, ?_⟩
        rw [sub_iff] at hs ⊢
        intro j hj; rw [Nat.testBit_or, hs j hj]; rfl
      · refine ⟨k, by omega, h, ?_⟩
        rw [sub_iff]; intro j hj; rw [Nat.testBit_or, hj]; simp
    · rename_i hc
      rw [if_neg hc]
      obtain ⟨n, hn, hb, hs⟩ := ih h
      exact ⟨n, by omega, hb, hs⟩
/-- Sets no two of which have one in common. -/
def Parts (f : Nat → Nat) : Prop := ∀ a b, a ≠ b → f a &&& f b = 0
theorem wholesTo_apart {f : Nat → Nat} (hp : Parts f) (free : Nat) (many : Int) (k n : Nat) (hn : k ≤ n) : wholesTo f free many k &&& f n = 0 := by
  rw [apart_iff]
  intro i hi
  obtain ⟨j, hj, hb, _⟩ := wholesTo_in f free many k i hi
  exact (apart_iff _ _).1 (hp j n (by omega)) i hb
theorem wholesTo_cnt {f : Nat → Nat} (hp : Parts f) (free : Nat) (many : Int) (h0 : 0 ≤ many) (k : Nat) : (cnt (wholesTo f free many k) : Int) ≤ many := by
  induction k with
  | zero => simp only [wholesTo, cnt_0]; omega
  | succ k ih =>
    rw [wholesTo]
    split
    · rename_i h; rw [cnt_or (wholesTo_apart hp free many k k (Nat.le_refl _))]; omega
    · exact ih
theorem wholesTo_lt (f : Nat → Nat) (free : Nat) (many : Int) (k : Nat) (h : free < 18446744073709551616) : wholesTo f free many k < 18446744073709551616 := sub_lt h (wholesTo_sub f free many k)
theorem wholesTo_grow (f : Nat → Nat) (free : Nat) (many : Int) (k j : Nat) : wholesTo f free many k &&& wholesTo f free many (k + j) = wholesTo f free many k := by
  induction j with
  | zero => simp
  | succ j ih =>
    rw [sub_iff] at ih ⊢
    intro i hi
    rw [← Nat.add_assoc, wholesTo]
    split
    · rw [Nat.testBit_or, ih i hi]; rfl
    · exact ih i hi
/-- The document's step: what is free shrinks as it is taken. -/
theorem wholes_ref {f : Nat → Nat} (hp : Parts f) (F : Nat) (L : Int) (k : Nat) :
    wholesTo f F L (k + 1) = if f k ≠ 0 ∧ f k &&& dif F (wholesTo f F L k) = f k ∧ (cnt (f k) : Int) ≤ L - cnt (wholesTo f F L k) then wholesTo f F L k ||| f k else wholesTo f F L k := by
  by_cases h0 : f k = 0
  · rw [if_neg (fun h => h.1 h0), wholesTo]
    split
    · rw [h0]; simp
    · rfl
  · have e : f k &&& dif F (wholesTo f F L k) = f k ↔ f k &&& F = f k := by
      rw [sub_iff, sub_iff]
      have ha := (apart_iff _ _).1 (and_comm0 (wholesTo_apart hp F L k k (Nat.le_refl _)))
      constructor
      · intro h i hi
        have := h i hi
        rw [dif_bit, Bool.and_eq_true] at this
        exact this.1
      · intro h i hi
        rw [dif_bit, h i hi, ha i hi]; rfl
    rw [wholesTo]
    by_cases h1 : f k &&& F = f k
    · by_cases h2 : (cnt (f k) : Int) ≤ L - cnt (wholesTo f F L k)
      · rw [if_pos ⟨h1, h2⟩, if_pos ⟨h0, e.2 h1, h2⟩]
      · rw [if_neg (fun h => h2 h.2), if_neg (fun h => h2 h.2.2)]
    · rw [if_neg (fun h => h1 h.1), if_neg (fun h => h1 (e.1 h.2.1))]
theorem wholes_none {f : Nat → Nat} (hl : ∀ n, f n < 18446744073709551616) (F k : Nat) : wholesTo f F 0 k = 0 := by
  induction k with
  | zero => rfl
  | succ k ih =>
    rw [wholesTo, ih]
    split
    · rename_i h
      have : cnt (f k) = 0 := by have := h.2; rw [cnt_0] at this; omega
      rw [cnt_zero (hl k) this]; rfl
    · rfl
/-! ### Single ones -/
/-- Which one comes first. -/
def less (c : Nat → Nat) (x y : Nat) : Bool := decide (c x < c y ∨ (c x = c y ∧ x < y))
def order (c : Nat → Nat) (A : Nat) : List Nat := (listTo A 64).mergeSort (fun x y => !less c y x)
def orB (l : List Nat) : Nat := l.foldl (fun s n => s ||| 2 ^ n) 0
theorem orB_snoc (l : List Nat) (n : Nat) : orB (l ++ [n]) = orB l ||| 2 ^ n := by simp [orB]
theorem orB_bit (l : List Nat) (i : Nat) : (orB l).testBit i = decide (i ∈ l) := by
  have key : ∀ r : List Nat, (orB r.reverse).testBit i = decide (i ∈ r.reverse) := by
    intro r
    induction r with
    | nil => simp [orB]
    | cons n r ih =>
      rw [List.reverse_cons, orB_snoc, Nat.testBit_or, ih, Nat.testBit_two_pow, Bool.eq_iff_iff]
      simp only [Bool.or_eq_true, decide_eq_true_eq, List.mem_append, List.mem_singleton]
      constructor
      · rintro (h | h)
        · exact .inl h
        · exact .inr h.symm
      · rintro (h | h)
        · exact .inl h
        · exact .inr h.symm
  have := key l.reverse
  rwa [List.reverse_reverse] at this
theorem order_perm (c : Nat → Nat) (A : Nat) : (order c A).Perm (listTo A 64) := List.mergeSort_perm _ _
theorem order_length (c : Nat → Nat) (A : Nat) : (order c A).length = cnt A := (order_perm c A).length_eq
theorem listTo_mem (A i : Nat) : i ∈ listTo A 64 ↔ i < 64 ∧ A.testBit i = true := by unfold listTo; simp
theorem order_mem {c : Nat → Nat} {A i : Nat} : i ∈ order c A ↔ i < 64 ∧ A.testBit i = true := by rw [(order_perm c A).mem_iff, listTo_mem]
theorem order_nodup (c : Nat → Nat) (A : Nat) : (order c A).Nodup := by
  rw [(order_perm c A).nodup_iff]
  unfold listTo
  exact List.Pairwise.filter _ List.nodup_range
theorem order_sorted (c : Nat → Nat) (A : Nat) : (order c A).Pairwise (fun x y => less c y x = false) := by
  have h := List.pairwise_mergeSort (le := fun x y => !less c y x) (fun a b d h1 h2 => by simp [less] at *; omega) (fun a b => by simp [less]; omega) (listTo A 64)
  refine h.imp ?_
  intro a b hab
  simpa using hab
theorem less_total {c : Nat → Nat} {x y : Nat} (h1 : less c x y = false) (h2 : less c y x = false) : x = y := by simp [less] at *; omega
theorem take_bit {l : List Nat} (h : l.Nodup) (j : Nat) {i : Nat} (hi : i ∈ l) : (i ∈ l.take j ↔ ¬ i ∈ l.drop j) := by
  have e := List.take_append_drop j l
  rw [← e] at h hi
  rw [List.nodup_append] at h
  rw [List.mem_append] at hi
  constructor
  · intro h1 h2; exact h.2.2 i h1 i h2 rfl
  · intro h2; rcases hi with h1 | h1
    · exact h1
    · exact absurd h1 h2
/-- What is left free behind j single ones. -/
def rest (c : Nat → Nat) (A j : Nat) : Nat := dif A (orB ((order c A).take j))
theorem rest_bit {c : Nat → Nat} {A : Nat} (hA : A < 18446744073709551616) (j i : Nat) : (rest c A j).testBit i = true ↔ i ∈ (order c A).drop j := by
  rw [rest, dif_bit, orB_bit, Bool.and_eq_true]
  constructor
  · rintro ⟨h1, h2⟩
    have hm : i ∈ order c A := order_mem.2 ⟨lt64_bit hA h1, h1⟩
    have := (take_bit (order_nodup c A) j hm)
    apply Classical.byContradiction
    intro hn
    rw [decide_eq_true (this.2 hn)] at h2
    cases h2
  · intro h
    have hm : i ∈ order c A := List.mem_of_mem_drop h
    refine ⟨(order_mem.1 hm).2, ?_⟩
    have := (take_bit (order_nodup c A) j hm)
    rw [decide_eq_false (fun ht => (this.1 ht) h)]; rfl
theorem rest_zero {c : Nat → Nat} {A : Nat} (hA : A < 18446744073709551616) (j : Nat) : rest c A j = 0 ↔ (order c A).length ≤ j := by
  constructor
  · intro h
    apply Classical.byContradiction
    intro hn
    have : (order c A)[j]'(by omega) ∈ (order c A).drop j := by
      rw [List.drop_eq_getElem_cons (by omega)]; exact List.mem_cons_self
    rw [← rest_bit hA, h, Nat.zero_testBit] at this
    cases this
  · intro h
    apply Nat.eq_of_testBit_eq
    intro i
    rw [Nat.zero_testBit]
    cases hb : (rest c A j).testBit i with
    | false => rfl
    | true => rw [rest_bit hA, List.drop_eq_nil_of_le h] at hb; cases hb
theorem rest_lt {c : Nat → Nat} {A : Nat} (hA : A < 18446744073709551616) (j : Nat) : rest c A j < 18446744073709551616 := dif_lt _ hA
/-- The best of the first ones, as the document's text looks for it. -/
def bestToP (c : Nat → Nat) (A : Nat) : Nat → Int
  | 0 => -1
  | i + 1 => if A.testBit i = true ∧ (bestToP c A i < 0 ∨ c i < c (bestToP c A i).toNat) then (i : Int) else bestToP c A i
theorem bestTo_specP (c : Nat → Nat) (A k : Nat) : (bestToP c A k = -1 ∧ ∀ x, x < k → A.testBit x = false) ∨ ∃ b : Nat, bestToP c A k = b ∧ b < k ∧ A.testBit b = true ∧ ∀ x, x < k → A.testBit x = true → less c x b = false := by
  induction k with
  | zero => exact .inl ⟨rfl, fun x hx => absurd hx (Nat.not_lt_zero _)⟩
  | succ k ih =>
    rw [bestToP]
    cases hb : A.testBit k with
    | false =>
      rw [if_neg (fun h => by cases h.1)]
      rcases ih with ⟨h1, h2⟩ | ⟨b, h1, h2, h3, h4⟩
      · refine .inl ⟨h1, fun x hx => ?_⟩
        by_cases e : x = k
        · rw [e]; exact hb
        · exact h2 x (by omega)
      · refine .inr ⟨b, h1, by omega, h3, fun x hx hxb => ?_⟩
        by_cases e : x = k
        · rw [e, hb] at hxb; cases hxb
        · exact h4 x (by omega) hxb
    | true =>
      rcases ih with ⟨h1, h2⟩ | ⟨b, h1, h2, h3, h4⟩
      · rw [if_pos ⟨rfl, .inl (by omega)⟩]
        refine .inr ⟨k, rfl, by omega, hb, fun x hx hxb => ?_⟩
        by_cases e : x = k
        · rw [e]; simp [less]
        · rw [h2 x (by omega)] at hxb; cases hxb
      · rw [h1]
        by_cases hlt : c k < c b
        · rw [if_pos ⟨rfl, .inr (by simpa using hlt)⟩]
          refine .inr ⟨k, rfl, by omega, hb, fun x hx hxb => ?_⟩
          by_cases e : x = k
          · rw [e]; simp [less]
          · have := h4 x (by omega) hxb
            simp [less] at *; omega
        · rw [if_neg (fun h => by rcases h.2 with h | h; omega; exact hlt (by simpa using h))]
          refine .inr ⟨b, rfl, by omega, h3, fun x hx hxb => ?_⟩
          by_cases e : x = k
          · rw [e]; simp [less]; omega
          · exact h4 x (by omega) hxb
theorem bestTo_next {c : Nat → Nat} {A j K : Nat} (hA : A < 18446744073709551616) (hK : ∀ i, A.testBit i = true → i < K) (hj : j < (order c A).length) : bestToP c (rest c A j) K = ((order c A)[j] : Nat) := by
  have hd : (order c A).drop j = (order c A)[j] :: (order c A).drop (j + 1) := List.drop_eq_getElem_cons hj
  have hin : (rest c A j).testBit (order c A)[j] = true := by rw [rest_bit hA, hd]; exact List.mem_cons_self
  have hAin : ∀ i, (rest c A j).testBit i = true → i < K := fun i hi => hK i (by rw [rest, dif_bit, Bool.and_eq_true] at hi; exact hi.1)
  have hmin : ∀ x, (rest c A j).testBit x = true → less c x (order c A)[j] = false := by
    intro x hx
    rw [rest_bit hA, hd, List.mem_cons] at hx
    rcases hx with rfl | hx
    · simp [less]
    · have hp := (order_sorted c A).sublist (List.drop_sublist j _)
      rw [hd, List.pairwise_cons] at hp
      exact hp.1 x hx
  rcases bestTo_specP c (rest c A j) K with ⟨_, h2⟩ | ⟨b, h1, h2, h3, h4⟩
  · rw [h2 _ (hAin _ hin)] at hin; cases hin
  · rw [h1]
    have := less_total (h4 _ (hAin _ hin) hin) (hmin b h3)
    rw [this]
theorem rest_step {c : Nat → Nat} {A j : Nat} (hj : j < (order c A).length) : rest c A (j + 1) = dif (rest c A j) (2 ^ (order c A)[j]) := by
  rw [rest, rest, dif_dif, List.take_succ_eq_append_getElem hj, orB_snoc]
theorem cnt_pow {n : Nat} (h : n < 64) : cnt (2 ^ n) = 1 := by
  have : ∀ i : Fin 64, cnt (2 ^ i.val) = 1 := by decide +kernel
  exact this ⟨n, h⟩
theorem cnt_orB {l : List Nat} (hn : l.Nodup) (h64 : ∀ i ∈ l, i < 64) : cnt (orB l) = l.length := by
  have key : ∀ r : List Nat, r.reverse.Nodup → (∀ i ∈ r.reverse, i < 64) → cnt (orB r.reverse) = r.reverse.length := by
    intro r
    induction r with
    | nil => intro _ _; simp [orB, cnt_0]
    | cons n r ih =>
      intro hn h64
      rw [List.reverse_cons] at hn h64 ⊢
      rw [List.nodup_append] at hn
      rw [orB_snoc, cnt_or, ih hn.1 (fun i hi => h64 i (List.mem_append_left _ hi)), cnt_pow (h64 n (by simp))]
      · simp
      · rw [apart_iff]
        intro i hi
        rw [orB_bit, decide_eq_true_eq] at hi
        rw [Nat.testBit_two_pow]
        exact decide_eq_false (fun e => hn.2.2 i hi n (by simp) e.symm)
  have := key l.reverse
  rw [List.reverse_reverse] at this
  exact this hn h64
/-- Single ones: as many as are wanted, or all. -/
def singles (c : Nat → Nat) (A : Nat) (many : Nat) : Nat := orB ((order c A).take many)
theorem singles_sub (c : Nat → Nat) (A many : Nat) : singles c A many &&& A = singles c A many := by
  rw [sub_iff]
  intro i hi
  rw [singles, orB_bit, decide_eq_true_eq] at hi
  exact (order_mem.1 (List.mem_of_mem_take hi)).2
theorem singles_cnt (c : Nat → Nat) (A many : Nat) : cnt (singles c A many) = min many (cnt A) := by
  rw [singles, cnt_orB, List.length_take, order_length]
  · exact (order_nodup c A).sublist (List.take_sublist _ _)
  · intro i hi; exact (order_mem.1 (List.mem_of_mem_take hi)).1
theorem singles_min (c : Nat → Nat) (A many : Nat) : singles c A (min many (cnt A)) = singles c A many := by
  unfold singles
  rw [← order_length c A]
  congr 1
  rw [List.take_eq_take_iff]; omega
/-! ### Some, and what is given -/
def sockAt (l : List Cpu) (n : Nat) : Nat := at' (·.sock) l n
def coreAt (l : List Cpu) (n : Nat) : Nat := at' (·.core) l n
theorem at_parts (f : Cpu → Int) (l : List Cpu) : Parts (at' f l) := by
  intro a b hab
  rw [apart_iff]
  intro i hi
  rw [at', chosen_bit, Bool.and_eq_true, beq_iff_eq] at hi
  rw [at', chosen_bit, hi.2]
  have : (((a : Nat) : Int) == (b : Int)) = false := by rw [beq_eq_false_iff_ne]; omega
  rw [this]; simp
theorem at_lt (f : Cpu → Int) {l : List Cpu} (h : l.length ≤ 64) (n : Nat) : at' f l n < 18446744073709551616 := chosenTo_lt _ l _ h
/-- How many of one's core are among these. -/
def leftOf (l : List Cpu) (now n : Nat) : Nat := cnt (chosen (fun x => x.core == (l.getD n cpu0).core) l &&& now)
def some1 (l : List Cpu) (F : Nat) (L : Int) : Nat := wholes (sockAt l) F L
def some2 (l : List Cpu) (F : Nat) (L : Int) : Nat := some1 l F L ||| wholes (coreAt l) (dif F (some1 l F L)) (L - cnt (some1 l F L))
def someOf (l : List Cpu) (F : Nat) (L : Int) : Nat := some2 l F L ||| singles (leftOf l (dif F (some2 l F L))) (dif F (some2 l F L)) (L - cnt (some2 l F L)).toNat
theorem some1_sub (l : List Cpu) (F : Nat) (L : Int) : some1 l F L &&& F = some1 l F L := wholesTo_sub _ _ _ _
theorem some1_cnt (l : List Cpu) (F : Nat) (L : Int) (h : 0 ≤ L) : (cnt (some1 l F L) : Int) ≤ L := wholesTo_cnt (at_parts _ l) F L h 64
theorem some2_sub (l : List Cpu) (F : Nat) (L : Int) : some2 l F L &&& F = some2 l F L :=
  or_sub (some1_sub l F L) (sub_trans (wholesTo_sub _ _ _ _) (dif_sub F _))
theorem apart_dif {A B C : Nat} (h : B &&& dif C A = B) : A &&& B = 0 := by
  apply and_comm0
  rw [sub_iff] at h
  rw [apart_iff]
  intro i hi
  have := h i hi
  rw [dif_bit, Bool.and_eq_true] at this
  simpa using this.2
theorem some2_cnt (l : List Cpu) (F : Nat) (L : Int) (h : 0 ≤ L) : (cnt (some2 l F L) : Int) ≤ L := by
  have h1 := some1_cnt l F L h
  unfold some2 wholes
  rw [cnt_or (apart_dif (wholesTo_sub (coreAt l) (dif F (some1 l F L)) (L - cnt (some1 l F L)) 64))]
  have h2 := wholesTo_cnt (at_parts (·.core) l) (dif F (some1 l F L)) (L - cnt (some1 l F L)) (by omega) 64
  have e : coreAt l = at' (·.core) l := rfl
  rw [e]
  omega
theorem someOf_sub (l : List Cpu) (F : Nat) (L : Int) : someOf l F L &&& F = someOf l F L :=
  or_sub (some2_sub l F L) (sub_trans (singles_sub _ _ _) (dif_sub F _))
theorem someOf_cnt (l : List Cpu) (F : Nat) (L : Int) (h : 0 ≤ L) : (cnt (someOf l F L) : Int) = min L (cnt F) := by
  have h1 := some2_cnt l F L h
  have h2 := cnt_dif (some2_sub l F L)
  rw [someOf, cnt_or (apart_dif (singles_sub _ _ _)), singles_cnt]
  omega
theorem some2_none {l : List Cpu} (hl : l.length ≤ 64) (F : Nat) : some2 l F 0 = 0 := by
  have e1 : some1 l F 0 = 0 := wholes_none (f := sockAt l) (at_lt _ hl) F 64
  rw [some2, e1, cnt_0, show ((0 : Int) - (0 : Nat)) = 0 from rfl]
  have : wholes (coreAt l) (dif F 0) 0 = 0 := wholes_none (f := coreAt l) (at_lt _ hl) _ 64
  rw [this]; rfl
theorem someOf_none {l : List Cpu} (hl : l.length ≤ 64) (F : Nat) : someOf l F 0 = 0 := by
  rw [someOf, some2_none hl, cnt_0]
  simp [singles, orB]
/-- What is given, and which error. -/
def takeOut (l : List Cpu) (F : Nat) (L : Int) (on : Nat) : Nat × Int :=
  if L < 0 ∨ 64 < L ∨ ¬ F &&& chosen (fun _ => true) l = F then (0, 1) else
  if (cnt F : Int) < L then (0, 8) else
  (someOf l (F &&& on) L ||| someOf l (dif F (F &&& on)) (L - cnt (someOf l (F &&& on) L)), 0)
theorem and_sub (A B : Nat) : A &&& B &&& A = A &&& B := by
  apply Nat.eq_of_testBit_eq; intro i; simp only [Nat.testBit_and]; cases A.testBit i <;> cases B.testBit i <;> rfl
/-- The document's text takes the others out of all that isn't taken. -/
theorem take_others {l : List Cpu} (hl : l.length ≤ 64) {F : Nat} (hF : F < 18446744073709551616) {L : Int} (h0 : 0 ≤ L) (on : Nat) :
    someOf l (dif F (someOf l (F &&& on) L)) (L - cnt (someOf l (F &&& on) L)) = someOf l (dif F (F &&& on)) (L - cnt (someOf l (F &&& on) L)) := by
  have hc := someOf_cnt l (F &&& on) L h0
  by_cases h : L ≤ cnt (F &&& on)
  · have : L - cnt (someOf l (F &&& on) L) = 0 := by omega
    rw [this, someOf_none hl, someOf_none hl]
  · have : someOf l (F &&& on) L = F &&& on := eq_of_cnt (sub_lt hF (and_sub F on)) (someOf_sub l _ L) (by omega)
    rw [this]
/-! ### What the whole is for -/
theorem take_good {l : List Cpu} {F : Nat} {L : Int} (on : Nat) (h0 : 0 ≤ L) (h64 : L ≤ 64) (hin : F &&& chosen (fun _ => true) l = F) (hc : L ≤ cnt F) :
    takeOut l F L on = (someOf l (F &&& on) L ||| someOf l (dif F (F &&& on)) (L - cnt (someOf l (F &&& on) L)), 0) := by
  rw [takeOut, if_neg (fun h => by rcases h with h | h | h; omega; omega; exact h hin), if_neg (by omega)]
theorem take_facts {l : List Cpu} {F : Nat} {L : Int} (on : Nat) (h0 : 0 ≤ L) (hc : L ≤ cnt F) (s : Nat) (hs : s = someOf l (F &&& on) L ||| someOf l (dif F (F &&& on)) (L - cnt (someOf l (F &&& on) L))) :
    (cnt s : Int) = L ∧ s &&& F = s ∧ (cnt (s &&& on) : Int) = min L (cnt (F &&& on)) := by
  have ha := someOf_cnt l (F &&& on) L h0
  have has := someOf_sub l (F &&& on) L
  have hbs := someOf_sub l (dif F (F &&& on)) (L - cnt (someOf l (F &&& on) L))
  have hb := someOf_cnt l (dif F (F &&& on)) (L - cnt (someOf l (F &&& on) L)) (by omega)
  have hd := cnt_dif (and_sub F on)
  generalize someOf l (dif F (F &&& on)) (L - cnt (someOf l (F &&& on) L)) = b at *
  generalize someOf l (F &&& on) L = a at *
  have hab : a &&& b = 0 := by
    rw [sub_iff] at has hbs
    rw [apart_iff]
    intro i hi
    cases hbi : b.testBit i with
    | false => rfl
    | true =>
      have h1 := has i hi
      have h2 := hbs i hbi
      rw [dif_bit, h1] at h2
      simp at h2
  have hson : s &&& on = a := by
    rw [hs]
    rw [sub_iff] at has hbs
    apply Nat.eq_of_testBit_eq
    intro i
    rw [Nat.testBit_and, Nat.testBit_or]
    cases hai : a.testBit i with
    | true =>
      have h1 := has i hai
      rw [Nat.testBit_and, Bool.and_eq_true] at h1
      rw [h1.2]; rfl
    | false =>
      cases hbi : b.testBit i with
      | false => rfl
      | true =>
        have h2 := hbs i hbi
        rw [dif_bit, Nat.testBit_and] at h2
        revert h2
        cases F.testBit i <;> cases on.testBit i <;> simp
  refine ⟨?_, ?_, ?_⟩
  · rw [hs, cnt_or hab]; omega
  · rw [hs]; exact or_sub (sub_trans has (and_sub F on)) (sub_trans hbs (dif_sub F _))
  · rw [hson]; exact ha
theorem nonzero_bit {A : Nat} (h : A ≠ 0) : ∃ i, A.testBit i = true := by
  apply Classical.byContradiction
  intro hn
  apply h
  apply Nat.eq_of_testBit_eq
  intro i
  rw [Nat.zero_testBit]
  cases hb : A.testBit i with
  | false => rfl
  | true => exact absurd ⟨i, hb⟩ hn
theorem ne_of_bit {A i : Nat} (h : A.testBit i = true) : A ≠ 0 := by intro e; rw [e, Nat.zero_testBit] at h; cases h
theorem sub_or (A B : Nat) : A &&& (A ||| B) = A := by rw [sub_iff]; intro i hi; rw [Nat.testBit_or, hi]; rfl
/-- Where one core alone would do, a whole core is given. -/
theorem some_core {l : List Cpu} (hf : fault l = 0) {N : Nat} {L : Int} {n : Nat} (hn : n < 64) (h0 : coreAt l n ≠ 0) (hin : coreAt l n &&& N = coreAt l n) (hc : (cnt (coreAt l n) : Int) = L) :
    ∃ k, k < 64 ∧ coreAt l k ≠ 0 ∧ coreAt l k &&& someOf l N L = coreAt l k := by
  have key : ∃ k, k < 64 ∧ coreAt l k ≠ 0 ∧ coreAt l k &&& some2 l N L = coreAt l k := by
    by_cases h1 : some1 l N L = 0
    · have e2 : some2 l N L = wholesTo (coreAt l) N L 64 := by
        rw [some2, h1, cnt_0, dif_zero]
        show 0 ||| wholesTo (coreAt l) N (L - (0 : Nat)) 64 = _
        rw [show L - ((0 : Nat) : Int) = L by omega]; simp
      rw [e2]
      by_cases h2 : wholesTo (coreAt l) N L n = 0
      · have e3 := wholesTo_yes (f := coreAt l) (free := N) (many := L) (k := n) hin (by rw [h2, cnt_0]; omega)
        rw [h2] at e3
        have e4 := wholesTo_grow (coreAt l) N L (n + 1) (63 - n)
        rw [show n + 1 + (63 - n) = 64 by omega, e3] at e4
        refine ⟨n, hn, h0, ?_⟩
        simpa using e4
      · obtain ⟨i, hi⟩ := nonzero_bit h2
        obtain ⟨k, hk, hb, hs⟩ := wholesTo_in _ _ _ _ _ hi
        have e4 := wholesTo_grow (coreAt l) N L n (64 - n)
        rw [show n + (64 - n) = 64 by omega] at e4
        exact ⟨k, by omega, ne_of_bit hb, sub_trans hs e4⟩
    · obtain ⟨i, hi⟩ := nonzero_bit h1
      obtain ⟨j, hj, hb, hs⟩ := wholesTo_in (sockAt l) N L 64 i hi
      have hb0 := hb
      rw [sockAt, at', chosen_bit, Bool.and_eq_true, decide_eq_true_eq] at hb
      have hx := (inB_iff _).1 ((fault_good hf).2.2 (l.getD i cpu0) (by simp [hb.1]))
      have hcb : (coreAt l (l.getD i cpu0).core.toNat).testBit i = true := by
        rw [coreAt, at', chosen_bit, decide_eq_true hb.1, Bool.true_and, beq_iff_eq]
        show (l.getD i cpu0).core = _
        omega
      have hcs : coreAt l (l.getD i cpu0).core.toNat &&& sockAt l j = coreAt l (l.getD i cpu0).core.toNat := by
        apply core_sock hf
        apply ne_of_bit (i := i)
        rw [Nat.testBit_and]
        have h1 : (at' (·.core) l (l.getD i cpu0).core.toNat).testBit i = true := hcb
        have h2 : (at' (·.sock) l j).testBit i = true := hb0
        rw [h1, h2]; rfl
      exact ⟨(l.getD i cpu0).core.toNat, by omega, ne_of_bit hcb, sub_trans (sub_trans hcs hs) (sub_or _ _)⟩
  obtain ⟨k, hk, h2, h3⟩ := key
  exact ⟨k, hk, h2, sub_trans h3 (sub_or _ _)⟩
end Ost
end Go.Proofs.Ythekalhceamcoaa
