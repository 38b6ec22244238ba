/- Plain facts about texts of digits: no program, no world. -/
import Derived.WalkKit
namespace Go.Proofs.Ythekalhceamcoaa
namespace Ost

def isDig (b : UInt8) : Bool := decide (48 ≤ b.toNat ∧ b.toNat ≤ 57)
def step (n : Int) (b : UInt8) : Int := n * 10 + ((b.toNat : Int) - 48)
def val (l : List UInt8) : Int := l.foldl step 0
def allDig (l : List UInt8) : Bool := l.all isDig
def maxI : Int := 9223372036854775807
/-- A number as it is written: digits, no noughts ahead. -/
def isNum (l : List UInt8) : Bool := !l.isEmpty && !(decide (1 < l.length) && (l.headD 0 == 48)) && allDig l
/-- What number.Read takes. -/
def good (m : Int) (l : List UInt8) : Bool := isNum l && decide ((l.length : Int) ≤ m) && decide (val l ≤ maxI)

theorem isDig_iff (b : UInt8) : isDig b = true ↔ 48 ≤ b.toNat ∧ b.toNat ≤ 57 := by simp [isDig]
theorem isDig_not (b : UInt8) : isDig b = false ↔ ¬ (48 ≤ b.toNat ∧ b.toNat ≤ 57) := by simp [isDig]
theorem val_nil : val [] = 0 := rfl
theorem val_snoc (l : List UInt8) (b : UInt8) : val (l ++ [b]) = step (val l) b := by simp [val]
theorem allDig_snoc (l : List UInt8) (b : UInt8) : allDig (l ++ [b]) = (allDig l && isDig b) := by simp [allDig]
theorem allDig_append (l r : List UInt8) : allDig (l ++ r) = (allDig l && allDig r) := by simp [allDig]
theorem foldl_step_mono (l : List UInt8) (h : allDig l = true) : ∀ n : Int, 0 ≤ n → n ≤ l.foldl step n := by
  induction l with
  | nil => intro n _; simp
  | cons b r ih =>
    intro n hn
    simp only [allDig, List.all_cons, Bool.and_eq_true] at h
    have hb := (isDig_iff b).1 h.1
    have h1 : n ≤ step n b := by unfold step; omega
    exact Int.le_trans h1 (ih h.2 _ (by omega))
theorem val_nonneg (l : List UInt8) (h : allDig l = true) : 0 ≤ val l := foldl_step_mono l h 0 (Int.le_refl _)
theorem val_append (l r : List UInt8) : val (l ++ r) = r.foldl step (val l) := by simp [val]
theorem val_le_append (l r : List UInt8) (hl : allDig l = true) (h : allDig r = true) : val l ≤ val (l ++ r) := by
  rw [val_append]; exact foldl_step_mono r h _ (val_nonneg l hl)
theorem take_snoc (s : ByteArray) (k : Nat) (h : k < s.size) : s.data.toList.take (k + 1) = s.data.toList.take k ++ [s[k]] := by
  rw [List.take_succ_eq_append_getElem (by simpa using h)]; rfl
theorem allDig_take (l : List UInt8) (k : Nat) (h : allDig l = true) : allDig (l.take k) = true := by
  simp only [allDig, List.all_eq_true] at h ⊢
  exact fun x hx => h x (List.mem_of_mem_take hx)
theorem val_take_le (l : List UInt8) (k : Nat) (h : allDig l = true) : val (l.take k) ≤ val l := by
  have e := List.take_append_drop k l
  have hd : allDig (l.drop k) = true := by
    simp only [allDig, List.all_eq_true] at h ⊢
    exact fun x hx => h x (List.mem_of_mem_drop hx)
  have := val_le_append (l.take k) (l.drop k) (allDig_take l k h) hd
  rw [e] at this; exact this
theorem allDig_not_of_take (l : List UInt8) (k : Nat) (h : allDig (l.take k) = false) : allDig l = false := by
  cases hh : allDig l with
  | false => rfl
  | true => rw [allDig_take l k hh] at h; cases h
theorem good_iff (m : Int) (l : List UInt8) : good m l = true ↔ (l ≠ [] ∧ ¬ (1 < l.length ∧ l.headD 0 = 48) ∧ allDig l = true) ∧ (l.length : Int) ≤ m ∧ val l ≤ maxI := by
  simp only [good, isNum, Bool.and_eq_true, Bool.not_eq_true', decide_eq_true_eq, List.isEmpty_eq_false_iff, Bool.and_eq_false_iff, decide_eq_false_iff_not, beq_eq_false_iff_ne]
  constructor
  · rintro ⟨⟨⟨⟨h1, h2⟩, h3⟩, h4⟩, h5⟩
    exact ⟨⟨h1, fun ⟨a, b⟩ => by rcases h2 with h | h; exact h a; exact h b, h3⟩, h4, h5⟩
  · rintro ⟨⟨h1, h2, h3⟩, h4, h5⟩
    refine ⟨⟨⟨⟨h1, ?_⟩, h3⟩, h4⟩, h5⟩
    by_cases ha : 1 < l.length
    · exact .inr fun hb => h2 ⟨ha, hb⟩
    · exact .inl ha
theorem isNum_iff (l : List UInt8) : isNum l = true ↔ (l ≠ [] ∧ ¬ (1 < l.length ∧ l.headD 0 = 48) ∧ allDig l = true) := by
  simp only [isNum, Bool.and_eq_true, Bool.not_eq_true', List.isEmpty_eq_false_iff, Bool.and_eq_false_iff, decide_eq_false_iff_not, beq_eq_false_iff_ne]
  constructor
  · rintro ⟨⟨h1, h2⟩, h3⟩
    exact ⟨h1, fun ⟨a, b⟩ => by rcases h2 with h | h; exact h a; exact h b, h3⟩
  · rintro ⟨h1, h2, h3⟩
    refine ⟨⟨h1, ?_⟩, h3⟩
    by_cases ha : 1 < l.length
    · exact .inr fun hb => h2 ⟨ha, hb⟩
    · exact .inl ha
theorem not_good_iff (m : Int) (l : List UInt8) : good m l = false ↔ ¬ ((l ≠ [] ∧ ¬ (1 < l.length ∧ l.headD 0 = 48) ∧ allDig l = true) ∧ (l.length : Int) ≤ m ∧ val l ≤ maxI) := by
  rw [← good_iff, Bool.not_eq_true]
theorem head_s (s : ByteArray) (h : 0 < s.size) : s.data.toList.headD 0 = s[0] := by
  rcases s with ⟨⟨l⟩⟩
  cases l with
  | nil => exact absurd h (by simp [ByteArray.size])
  | cons a r => rfl
theorem u8_eq (b : UInt8) (n : Nat) (hn : n < 256) : b = UInt8.ofNat n ↔ b.toNat = n := by
  constructor
  · rintro rfl; simp; omega
  · intro h; rw [← h]; simp
theorem allDig_get (l : List UInt8) (k : Nat) (h : k < l.length) (hd : isDig l[k] = false) : allDig l = false := by
  cases hh : allDig l with
  | false => rfl
  | true =>
    have := List.all_eq_true.1 hh _ (List.getElem_mem h)
    rw [this] at hd; cases hd
theorem not_good_dig (m : Int) (s : ByteArray) (k : Nat) (h : k < s.size) (hd : isDig s[k] = false) : good m s.data.toList = false := by
  rw [not_good_iff]
  rintro ⟨⟨_, _, h3⟩, _⟩
  rw [allDig_get s.data.toList k (by simpa using h) hd] at h3
  cases h3
theorem not_good_val (m : Int) (s : ByteArray) (k : Nat) (h : maxI < val (s.data.toList.take k)) : good m s.data.toList = false := by
  rw [not_good_iff]
  rintro ⟨⟨_, _, h3⟩, _, h5⟩
  have := val_take_le s.data.toList k h3
  omega
theorem toList_isEmpty (s : ByteArray) : s.toList.isEmpty = decide (s.size = 0) := by
  rw [ByteArray.toList_eq]
  rcases s with ⟨⟨l⟩⟩
  cases l <;> simp [ByteArray.size]
end Ost
end Go.Proofs.Ythekalhceamcoaa
