/- Plain facts: numbers held against each other as they are written. -/
import Derived.Test.YtfnkmlpgfohjnaaDoorSMath2
namespace Go.Proofs.YtfnkmlpgfohjnaaDoor
namespace Ost
theorem foldl_step (r : List UInt8) : ∀ n : Int, r.foldl step n = n * 10 ^ r.length + val r := by
  induction r with
  | nil => intro n; simp [val]
  | cons b r ih =>
    intro n
    have e1 := ih (step n b)
    have e2 := ih (step 0 b)
    simp only [List.foldl_cons, val] at *
    rw [e1, e2]
    unfold step
    simp only [List.length_cons, Int.pow_succ, Int.add_mul, Int.mul_assoc, Int.zero_mul, Int.zero_add, Int.mul_comm 10]
    omega
theorem val_cons (b : UInt8) (r : List UInt8) : val (b :: r) = ((b.toNat : Int) - 48) * 10 ^ r.length + val r := by
  show (b :: r).foldl step 0 = _
  rw [List.foldl_cons, foldl_step]
  unfold step; simp
theorem pow_pos' (n : Nat) : (0 : Int) < 10 ^ n := Int.pow_pos (by omega)
theorem less_eq : ∀ (a b : List UInt8), a.length = b.length → allDig a = true → allDig b = true → (Op.bytesLess a b = true ↔ val a < val b) ∧ (a = b ↔ val a = val b) := by
  intro a
  induction a with
  | nil => intro b hl _ _; cases b with
    | nil => simp [Op.bytesLess]
    | cons _ _ => simp at hl
  | cons x r ih =>
    intro b hl ha hb
    cases b with
    | nil => simp at hl
    | cons y t =>
      simp only [List.length_cons, Nat.add_right_cancel_iff] at hl
      simp only [allDig, List.all_cons, Bool.and_eq_true] at ha hb
      have hx := (isDig_iff x).1 ha.1
      have hy := (isDig_iff y).1 hb.1
      obtain ⟨i1, i2⟩ := ih t hl ha.2 hb.2
      have v1 := val_nonneg r ha.2
      have v2 := val_lt_pow r ha.2
      have v3 := val_nonneg t hb.2
      have v4 := val_lt_pow t hb.2
      rw [val_cons, val_cons, hl] at *
      have hp := pow_pos' t.length
      generalize (10 : Int) ^ t.length = P at *
      have hlt : x < y ↔ x.toNat < y.toNat := UInt8.lt_iff_toNat_lt
      have heq : x = y ↔ x.toNat = y.toNat := ⟨fun h => by rw [h], fun h => UInt8.toNat_inj.1 h⟩
      have mono : ∀ p q : Int, p + 1 ≤ q → p * P + P ≤ q * P := fun p q h => by
        have := Int.mul_le_mul_of_nonneg_right h (Int.le_of_lt hp)
        rw [Int.add_mul, Int.one_mul] at this; exact this
      rcases Nat.lt_trichotomy x.toNat y.toNat with h | h | h
      · have m := mono ((x.toNat : Int) - 48) ((y.toNat : Int) - 48) (by omega)
        have hxy : x < y := hlt.2 h
        have hne : x ≠ y := fun e => by rw [e] at h; omega
        refine ⟨?_, ?_⟩
        · simp [Op.bytesLess, hxy]; omega
        · simp [hne]; omega
      · have e : x = y := heq.2 h
        subst e
        have hnl : ¬ x < x := fun h => by have := hlt.1 h; omega
        refine ⟨?_, ?_⟩
        · simp [Op.bytesLess, hnl]; rw [i1]
        · simp; rw [i2]
      · have m := mono ((y.toNat : Int) - 48) ((x.toNat : Int) - 48) (by omega)
        have hnl : ¬ x < y := fun e => by have := hlt.1 e; omega
        have hne : x ≠ y := fun e => by rw [e] at h; omega
        refine ⟨?_, ?_⟩
        · simp [Op.bytesLess, hnl, hne]; omega
        · simp [hne]; omega
theorem num_low (l : List UInt8) (h : isNum l = true) (h2 : 2 ≤ l.length) : (10 : Int) ^ (l.length - 1) ≤ val l := by
  obtain ⟨_, hz, hd⟩ := (isNum_iff l).1 h
  cases l with
  | nil => simp at h2
  | cons b r =>
    simp only [List.length_cons, Nat.add_sub_cancel] at *
    simp only [allDig, List.all_cons, Bool.and_eq_true] at hd
    have hb := (isDig_iff b).1 hd.1
    have hb2 : b.toNat ≠ 48 := fun e => hz ⟨by omega, by simp; exact (u8_eq b 48 (by omega)).2 e⟩
    have hv := val_nonneg r hd.2
    have hp := pow_pos' r.length
    rw [val_cons]
    have : (1 : Int) * 10 ^ r.length ≤ ((b.toNat : Int) - 48) * 10 ^ r.length := Int.mul_le_mul_of_nonneg_right (by omega) (Int.le_of_lt hp)
    omega
theorem pow_le' (a b : Nat) (h : a ≤ b) : (10 : Int) ^ a ≤ 10 ^ b := by
  have : (10 : Nat) ^ a ≤ 10 ^ b := Nat.pow_le_pow_right (by omega) h
  exact_mod_cast this
theorem len_less (a b : List UInt8) (ha : isNum a = true) (hb : isNum b = true) (h : a.length < b.length) : val a < val b := by
  have h1 := val_lt_pow a ((isNum_iff a).1 ha).2.2
  have h0 : a.length ≠ 0 := fun e => ((isNum_iff a).1 ha).1 (List.eq_nil_of_length_eq_zero e)
  have h2 := num_low b hb (by omega)
  have h3 := pow_le' a.length (b.length - 1) (by omega)
  omega
/-- The greatest number of 64 bits, as it is written. -/
def maxTxt : List UInt8 := [57, 50, 50, 51, 51, 55, 50, 48, 51, 54, 56, 53, 52, 55, 55, 53, 56, 48, 55]
theorem maxTxt_val : val maxTxt = maxI := by decide +kernel
theorem maxTxt_num : isNum maxTxt = true := by decide +kernel
def inIntB (l : List UInt8) : Bool := decide (l.length < 19) || (decide (l.length = 19) && (Op.bytesLess l maxTxt || l == maxTxt))
theorem inInt_val (l : List UInt8) (h : isNum l = true) : inIntB l = decide (val l ≤ maxI) := by
  have hd := ((isNum_iff l).1 h).2.2
  have hm := maxTxt_val
  rw [Bool.eq_iff_iff, decide_eq_true_eq]
  unfold inIntB
  by_cases h1 : l.length < 19
  · have := len_less l maxTxt h maxTxt_num h1
    simp [h1]; omega
  · by_cases h2 : l.length = 19
    · obtain ⟨i1, i2⟩ := less_eq l maxTxt h2 hd ((isNum_iff _).1 maxTxt_num).2.2
      simp only [decide_eq_false h1, decide_eq_true h2, Bool.false_or, Bool.true_and, Bool.or_eq_true, beq_iff_eq]
      rw [i1, i2]; omega
    · have := len_less maxTxt l maxTxt_num h (show 19 < l.length by omega)
      simp [decide_eq_false h1, decide_eq_false h2]; omega
theorem good19_val (l : List UInt8) : good 19 l = (isNum l && decide (val l ≤ maxI)) := by
  cases hn : isNum l with
  | false => simp [good, hn]
  | true =>
    have : val l ≤ maxI → (l.length : Int) ≤ 19 := by
      intro hv
      by_cases h2 : l.length ≤ 19
      · omega
      · exfalso
        have := len_less maxTxt l maxTxt_num hn (show 19 < l.length by omega)
        rw [maxTxt_val] at this; omega
    by_cases hv : val l ≤ maxI
    · simp [good, hn, hv, this hv]
    · simp [good, hn, hv]
/-- Is the second one less? -/
def lessB (a b : List UInt8) : Bool := decide (b.length < a.length) || (decide (a.length = b.length) && (!Op.bytesLess a b && !(a == b)))
theorem lessB_val (a b : List UInt8) (ha : isNum a = true) (hb : isNum b = true) : lessB a b = decide (val b < val a) := by
  rw [Bool.eq_iff_iff, decide_eq_true_eq]
  unfold lessB
  by_cases h1 : b.length < a.length
  · have := len_less b a hb ha h1
    simp [h1, this]
  · by_cases h2 : a.length = b.length
    · obtain ⟨i1, i2⟩ := less_eq a b h2 ((isNum_iff _).1 ha).2.2 ((isNum_iff _).1 hb).2.2
      simp only [decide_eq_false h1, decide_eq_true h2, Bool.false_or, Bool.true_and, Bool.and_eq_true, Bool.not_eq_true', ← Bool.not_eq_true, beq_iff_eq]
      rw [i1, i2]; omega
    · have := len_less a b ha hb (by omega)
      simp [decide_eq_false h1, decide_eq_false h2]; omega
/-- A part of a set's text, by its two numbers as they are written. -/
theorem spanOf_ab (t a b : List UInt8) (h : ((cut1 45 t).2.2 = true ∧ a = (cut1 45 t).1 ∧ b = (cut1 45 t).2.1) ∨ ((cut1 45 t).2.2 = false ∧ a = t ∧ b = t)) :
    spanOf t = if isNum a && isNum b && (inIntB a && inIntB b) && !lessB a b then some (val a, val b) else none := by
  unfold spanOf
  rcases h with ⟨hf, rfl, rfl⟩ | ⟨hf, ha, hb⟩
  · rw [if_pos hf, good19_val, good19_val]
    cases h1 : isNum (cut1 45 t).1 with
    | false => simp
    | true =>
      cases h2 : isNum (cut1 45 t).2.1 with
      | false => simp
      | true =>
        rw [inInt_val _ h1, inInt_val _ h2, lessB_val _ _ h1 h2]
        have : decide (val (cut1 45 t).1 ≤ val (cut1 45 t).2.1) = !decide (val (cut1 45 t).2.1 < val (cut1 45 t).1) := by
          by_cases h : val (cut1 45 t).2.1 < val (cut1 45 t).1
          · rw [decide_eq_true h, decide_eq_false (by omega)]; rfl
          · rw [decide_eq_false h, decide_eq_true (by omega)]; rfl
        rw [this]; simp
  · rw [if_neg (by rw [hf]; simp), ha, hb]
    have e : (cut1 45 t).1 = t := by
      rcases cut1_index 45 t with ⟨_, h⟩ | ⟨i, _, h⟩
      · rw [h]
      · rw [h] at hf; cases hf
    rw [e, good19_val]
    cases h1 : isNum t with
    | false => simp
    | true =>
      rw [inInt_val _ h1, lessB_val _ _ h1 h1]; simp
end Ost
end Go.Proofs.YtfnkmlpgfohjnaaDoor
