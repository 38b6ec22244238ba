/- Plain facts: a set's text is read as it. -/
import Derived.Test.YtfnkmlpgfohjnaaDoorSMath
import Derived.Test.YtfnkmlpgfohjnaaDoorMath4
namespace Go.Proofs.YtfnkmlpgfohjnaaDoor
namespace Ost
theorem spansTo_half (A k : Nat) : 2 * (spansTo A k).length ≤ k + 1 ∧ (A.testBit k = true → 2 * (spansTo A k).length ≤ k) := by
  induction k with
  | zero => simp [spansTo]
  | succ k ih =>
    unfold spansTo
    by_cases h : A.testBit k = true
    · by_cases h1 : A.testBit (k + 1) = true
      · simp [h, h1]; omega
      · have h1' : A.testBit (k + 1) = false := by simpa using h1
        simp [h, h1']
        have := ih.2 h
        omega
    · have h' : A.testBit k = false := by simpa using h
      simp [h']; omega
theorem dd_two (n : Nat) (h : n < 100) : (Lib.decDigits n).length ≤ 2 := decN_len 1 n (by omega)
theorem spanTxt_len (f l : Nat) (hf : f < 64) (hl : l < 64) : (spanTxt (f, l)).length ≤ 5 := by
  have h1 := dd_two f (by omega)
  have h2 := dd_two l (by omega)
  unfold spanTxt
  split
  · exact Nat.le_trans h1 (by omega)
  · simp; omega
theorem runStart_le' (A k : Nat) : runStart A k ≤ k := by
  induction k with
  | zero => exact Nat.le_refl _
  | succ k ih => unfold runStart; split <;> omega
theorem spansTo_mem (A k : Nat) (p : Nat × Nat) (h : p ∈ spansTo A k) : p.1 ≤ p.2 ∧ p.2 < k := by
  induction k with
  | zero => simp [spansTo] at h
  | succ k ih =>
    unfold spansTo at h
    split at h
    · rcases List.mem_append.1 h with h | h
      · have := ih h; omega
      · simp at h; subst h; exact ⟨runStart_le' A k, by omega⟩
    · have := ih h; omega
theorem joined_len (l : List (Nat × Nat)) (h : ∀ p ∈ l, p.1 ≤ p.2 ∧ p.2 < 64) : (joined l).length ≤ 6 * l.length := by
  have key : ∀ r : List (Nat × Nat), (∀ p ∈ r.reverse, p.1 ≤ p.2 ∧ p.2 < 64) → (joined r.reverse).length ≤ 6 * r.reverse.length := by
    intro r
    induction r with
    | nil => intro _; simp [joined, Lib.join, List.intercalate]
    | cons p r ih =>
      intro hr
      rw [List.reverse_cons] at hr ⊢
      have h1 := ih (fun q hq => hr q (List.mem_append.2 (.inl hq)))
      have h2 := hr p (List.mem_append.2 (.inr (by simp)))
      have h3 : (spanTxt p).length ≤ 5 := spanTxt_len p.1 p.2 (by omega) (by omega)
      rw [joined_snoc, List.length_append]
      split
      · simp only [List.length_cons, List.length_nil]; omega
      · rw [List.length_append, List.length_append]; simp only [List.length_cons, List.length_nil]; omega
  have := key l.reverse (by simpa using h)
  simpa using this
def txt (A : Nat) : List UInt8 := joined (spansTo A 64)
theorem txt_len (A : Nat) : (txt A).length ≤ 300 := by
  have h1 := joined_len (spansTo A 64) (fun p hp => spansTo_mem A 64 p hp)
  have h2 := (spansTo_half A 64).1
  unfold txt; omega
/-- A text's parts between a byte. -/
def splitC (c : UInt8) : List UInt8 → List (List UInt8)
  | [] => [[]]
  | b :: r => if b = c then [] :: splitC c r else
    match splitC c r with
    | [] => [[b]]
    | x :: xs => (b :: x) :: xs
theorem splitC_ne (c : UInt8) (l : List UInt8) : splitC c l ≠ [] := by
  cases l with
  | nil => simp [splitC]
  | cons b r =>
    unfold splitC
    split
    · simp
    · split <;> simp
theorem splitC_none (c : UInt8) (l : List UInt8) (h : c ∉ l) : splitC c l = [l] := by
  induction l with
  | nil => rfl
  | cons b r ih =>
    simp at h
    rw [splitC, if_neg (fun e => h.1 e.symm), ih h.2]
theorem splitC_cut (c : UInt8) (l r : List UInt8) (h : c ∉ l) : splitC c (l ++ c :: r) = l :: splitC c r := by
  induction l with
  | nil => simp [splitC]
  | cons b l ih =>
    simp at h
    rw [List.cons_append, splitC, if_neg (fun e => h.1 e.symm), ih h.2]
theorem splitC_join (c : UInt8) (xs : List (List UInt8)) (h : ∀ x ∈ xs, c ∉ x) (hne : xs ≠ []) : splitC c (Lib.join xs [c]) = xs := by
  induction xs with
  | nil => exact absurd rfl hne
  | cons a r ih =>
    cases r with
    | nil => simp [Lib.join, List.intercalate]; exact splitC_none c a (h a (by simp))
    | cons b t =>
      have e : Lib.join (a :: b :: t) [c] = a ++ c :: Lib.join (b :: t) [c] := by simp [Lib.join, List.intercalate, List.intersperse]
      rw [e, splitC_cut c _ _ (h a (by simp)), ih (fun x hx => h x (by simp at hx ⊢; exact .inr hx)) (by simp)]
/-- Two numbers of a span. -/
def spanOf (t : List UInt8) : Option (Int × Int) :=
  if (cut1 45 t).2.2 then
    (if (good 19 (cut1 45 t).1 && good 19 (cut1 45 t).2.1 && decide (val (cut1 45 t).1 ≤ val (cut1 45 t).2.1)) then some (val (cut1 45 t).1, val (cut1 45 t).2.1) else none)
  else if good 19 (cut1 45 t).1 then some (val (cut1 45 t).1, val (cut1 45 t).1) else none
/-- The numbers from f on, so many. -/
def rb (f : Nat) : Nat → Nat
  | 0 => 0
  | m + 1 => rb f m ||| 2 ^ (f + m)
/-- What spans are, one after another, and an error's number. -/
def pieces (acc : Nat) : List (List UInt8) → Nat × Int
  | [] => (acc, 0)
  | t :: r => match spanOf t with
    | none => (0, 4)
    | some (f, l) => if 63 < l then (0, 1) else pieces (acc ||| rb f.toNat (l - f + 1).toNat) r
def parseOut (l : List UInt8) : Nat × Int := if 300 < l.length then (0, 2) else if l = [] then (0, 0) else pieces 0 (splitC 44 l)
theorem dig_not (n : Nat) (c : UInt8) (hc : isDig c = false) : c ∉ Lib.decDigits n := by
  intro hm
  have := List.all_eq_true.1 (decN_all n).1 c hm
  rw [hc] at this; cases this
theorem good19 (n : Nat) (h : n < 64) : good 19 (Lib.decDigits n) = true := by
  have h1 := decN_good n 1 (by omega) (by omega)
  obtain ⟨a, b, c⟩ := (good_iff _ _).1 h1
  exact (good_iff _ _).2 ⟨a, Int.le_trans b (by omega), c⟩
theorem cut1_at (c : UInt8) (l r : List UInt8) (h : c ∉ l) : cut1 c (l ++ c :: r) = (l, r, true) := by
  induction l with
  | nil => simp [cut1]
  | cons b l ih =>
    simp at h
    rw [List.cons_append, cut1, if_neg (fun e => h.1 e.symm), ih h.2]
theorem cut1_not (c : UInt8) (l : List UInt8) (h : c ∉ l) : cut1 c l = (l, [], false) := by
  induction l with
  | nil => rfl
  | cons b l ih =>
    simp at h
    rw [cut1, if_neg (fun e => h.1 e.symm), ih h.2]
theorem spanOf_txt (f l : Nat) (h : f ≤ l) (hl : l < 64) : spanOf (spanTxt (f, l)) = some ((f : Int), (l : Int)) := by
  have v1 : val (Lib.decDigits f) = f := (decN_all f).2
  have v2 : val (Lib.decDigits l) = l := (decN_all l).2
  unfold spanTxt
  by_cases e : f = l
  · subst e
    rw [if_pos rfl]
    unfold spanOf
    rw [cut1_not 45 _ (dig_not f 45 (by decide)), good19 f hl, v1]; simp
  · rw [if_neg e]
    unfold spanOf
    rw [List.append_assoc, List.singleton_append, cut1_at 45 _ _ (dig_not f 45 (by decide)), good19 f (by omega), good19 l hl, v1, v2]
    have : (f : Int) ≤ l := by omega
    simp [this]
theorem rb_bit (f m i : Nat) : (rb f m).testBit i = decide (f ≤ i ∧ i < f + m) := by
  induction m with
  | zero => simp [rb]
  | succ m ih =>
    rw [rb, Nat.testBit_or, ih, Nat.testBit_two_pow]
    rw [Bool.eq_iff_iff]
    simp
    omega
def orSpans (acc : Nat) (l : List (Nat × Nat)) : Nat := l.foldl (fun s p => s ||| rb p.1 (p.2 - p.1 + 1)) acc
theorem pieces_spans (l : List (Nat × Nat)) (h : ∀ p ∈ l, p.1 ≤ p.2 ∧ p.2 < 64) (acc : Nat) : pieces acc (l.map spanTxt) = (orSpans acc l, 0) := by
  induction l generalizing acc with
  | nil => rfl
  | cons p r ih =>
    have hp := h p (by simp)
    rw [List.map_cons, pieces, show spanTxt p = spanTxt (p.1, p.2) from rfl, spanOf_txt p.1 p.2 hp.1 hp.2]
    simp only
    rw [if_neg (by omega), ih (fun q hq => h q (by simp [hq]))]
    rw [show ((p.1 : Nat) : Int).toNat = p.1 by omega, show (((p.2 : Nat) : Int) - (p.1 : Nat) + 1).toNat = p.2 - p.1 + 1 by omega]
    rfl
theorem run_bits (A k i : Nat) (hk : A.testBit k = true) (h1 : runStart A k ≤ i) (h2 : i ≤ k) : A.testBit i = true := by
  induction k with
  | zero => obtain rfl : i = 0 := by omega
            exact hk
  | succ k ih =>
    by_cases e : i = k + 1
    · subst e; exact hk
    · unfold runStart at h1
      by_cases hb : A.testBit k = true
      · rw [if_pos hb] at h1; exact ih hb h1 (by omega)
      · rw [if_neg hb] at h1; omega
theorem orSpans_bit (A k i : Nat) : (orSpans 0 (spansTo A k)).testBit i = (A.testBit i && decide (i < if A.testBit k then runStart A k else k)) := by
  induction k with
  | zero =>
    have e : (if A.testBit 0 then runStart A 0 else 0) = 0 := by split <;> rfl
    rw [e]
    simp [spansTo, orSpans]
  | succ k ih =>
    by_cases hb : A.testBit k = true
    · rw [if_pos hb] at ih
      by_cases hq : A.testBit (k + 1) = true
      · rw [if_pos hq, show spansTo A (k + 1) = spansTo A k by simp [spansTo, hq], ih, runStart, if_pos hb]
      · have hq' : A.testBit (k + 1) = false := by simpa using hq
        rw [if_neg hq, show spansTo A (k + 1) = spansTo A k ++ [(runStart A k, k)] by simp [spansTo, hb, hq']]
        have e : orSpans 0 (spansTo A k ++ [(runStart A k, k)]) = orSpans 0 (spansTo A k) ||| rb (runStart A k) (k - runStart A k + 1) := by simp [orSpans]
        rw [e, Nat.testBit_or, ih, rb_bit]
        have hr := runStart_le' A k
        by_cases h1 : i < runStart A k
        · rw [decide_eq_true h1, decide_eq_false (by omega), decide_eq_true (show i < k + 1 by omega)]; simp
        · by_cases h2 : i ≤ k
          · rw [run_bits A k i hb (by omega) h2, decide_eq_true (show runStart A k ≤ i ∧ i < runStart A k + (k - runStart A k + 1) by omega), decide_eq_true (show i < k + 1 by omega)]; simp
          · rw [decide_eq_false h1, decide_eq_false (show ¬ (runStart A k ≤ i ∧ i < runStart A k + (k - runStart A k + 1)) by omega), decide_eq_false (show ¬ i < k + 1 by omega)]; simp
    · have hb' : A.testBit k = false := by simpa using hb
      rw [if_neg hb] at ih
      rw [show spansTo A (k + 1) = spansTo A k by simp [spansTo, hb'], ih]
      have e : (if A.testBit (k + 1) then runStart A (k + 1) else k + 1) = k + 1 := by
        split
        · rw [runStart, if_neg hb]
        · rfl
      rw [e]
      by_cases h1 : i = k
      · subst h1; rw [hb']; simp
      · have : decide (i < k) = decide (i < k + 1) := by
          by_cases h2 : i < k
          · rw [decide_eq_true h2, decide_eq_true (by omega)]
          · rw [decide_eq_false h2, decide_eq_false (by omega)]
        rw [this]
theorem bit_high (A : Nat) (hA : A < 18446744073709551616) (i : Nat) (h : 64 ≤ i) : A.testBit i = false :=
  Nat.testBit_lt_two_pow (Nat.lt_of_lt_of_le hA (Nat.pow_le_pow_right (n := 2) (by omega) h))
theorem orSpans_all (A : Nat) (hA : A < 18446744073709551616) : orSpans 0 (spansTo A 64) = A := by
  apply Nat.eq_of_testBit_eq
  intro i
  rw [orSpans_bit, bit_high A hA 64 (Nat.le_refl _)]
  by_cases h : i < 64
  · rw [decide_eq_true (by simpa using h), Bool.and_true]
  · rw [bit_high A hA i (by omega)]; rfl
/-- A SET'S TEXT IS READ AS IT. -/
theorem parse_txt (A : Nat) (hA : A < 18446744073709551616) : parseOut (txt A) = (A, 0) := by
  unfold parseOut
  have hl := txt_len A
  rw [if_neg (by omega)]
  by_cases he : spansTo A 64 = []
  · have h0 : txt A = [] := by unfold txt; rw [he]; rfl
    rw [if_pos h0]
    have := orSpans_all A hA
    rw [he] at this
    rw [← this]; rfl
  · have hne : txt A ≠ [] := fun e => he ((joined_nil _).1 e)
    rw [if_neg hne]
    have hs : splitC 44 (txt A) = (spansTo A 64).map spanTxt := by
      refine splitC_join 44 _ ?_ (by simpa using he)
      intro x hx
      obtain ⟨p, _, rfl⟩ := List.mem_map.1 hx
      unfold spanTxt
      have d := fun n => dig_not n 44 (by decide)
      split
      · exact d _
      · simp; exact ⟨d _, d _⟩
    rw [hs, pieces_spans _ (fun p hp => spansTo_mem A 64 p hp), orSpans_all A hA]
theorem txt_inj (A B : Nat) (hA : A < 18446744073709551616) (hB : B < 18446744073709551616) : txt A = txt B ↔ A = B := by
  constructor
  · intro h
    have h1 := parse_txt A hA
    rw [h, parse_txt B hB] at h1
    exact (Prod.mk.inj h1).1.symm
  · rintro rfl; rfl
/-- How many. -/
theorem count_andor (A B k : Nat) : (listTo A k).length + (listTo B k).length = (listTo (A &&& B) k).length + (listTo (A ||| B) k).length := by
  induction k with
  | zero => rfl
  | succ k ih =>
    rw [listTo_succ, listTo_succ, listTo_succ, listTo_succ, Nat.testBit_and, Nat.testBit_or]
    cases A.testBit k <;> cases B.testBit k <;> simp <;> omega
end Ost
end Go.Proofs.YtfnkmlpgfohjnaaDoor
