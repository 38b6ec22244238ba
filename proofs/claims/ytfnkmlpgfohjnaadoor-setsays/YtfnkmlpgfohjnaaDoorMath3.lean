/- More plain facts about how amounts are read. -/
import Derived.Test.YtfnkmlpgfohjnaaDoorMath2
namespace Go.Proofs.YtfnkmlpgfohjnaaDoor
namespace Ost
theorem good_of_num (m : Int) (l : List UInt8) (hm : m ≤ 18) : good m l = (isNum l && decide ((l.length : Int) ≤ m)) := by
  cases hn : isNum l with
  | false => simp [good, hn]
  | true =>
    by_cases hl : (l.length : Int) ≤ m
    · have hd := ((isNum_iff l).1 hn).2.2
      have h1 := val_lt_pow l hd
      have h2 : (10 : Int) ^ l.length ≤ 10 ^ 18 := by
        have : (10 : Nat) ^ l.length ≤ 10 ^ 18 := Nat.pow_le_pow_right (by omega) (by omega)
        exact_mod_cast this
      have : val l ≤ maxI := by unfold maxI; omega
      simp [good, hn, hl, this]
    · simp [good, hn, hl]
/-- Where the first point stands (or the end) in what is behind place j. -/
def dotAt (l : List UInt8) (j : Nat) : Nat := j + (cut1 46 (l.drop j)).1.length
theorem dotAt_end (l : List UInt8) : dotAt l l.length = l.length := by simp [dotAt, cut1]
theorem dotAt_dot (l : List UInt8) (j : Nat) (h : j < l.length) (hd : l[j] = 46) : dotAt l j = j := by
  unfold dotAt
  rw [List.drop_eq_getElem_cons h, cut1, if_pos hd]; simp
theorem dotAt_not (l : List UInt8) (j : Nat) (h : j < l.length) (hd : l[j] ≠ 46) : dotAt l j = dotAt l (j + 1) := by
  unfold dotAt
  rw [List.drop_eq_getElem_cons h, cut1, if_neg hd]; simp; omega
theorem dotAt_le (l : List UInt8) (j : Nat) (h : j ≤ l.length) : dotAt l j ≤ l.length := by
  unfold dotAt
  rcases cut1_index 46 (l.drop j) with ⟨_, e⟩ | ⟨i, _, e⟩ <;> rw [e] <;> simp <;> omega
theorem cut1_dotAt (l : List UInt8) : cut1 46 l = (l.take (dotAt l 0), l.drop (dotAt l 0 + 1), decide (dotAt l 0 < l.length)) := by
  unfold dotAt
  rw [List.drop_zero, Nat.zero_add]
  rcases cut1_index 46 l with ⟨_, e⟩ | ⟨i, h, e⟩
  · rw [e]; simp
  · rw [e]
    have hi : i < l.length := by
      induction l generalizing i with
      | nil => simp [Lib.index] at h
      | cons b r ih =>
        simp only [List.length_cons]
        cases i with
        | zero => omega
        | succ i =>
          have hb : ¬ b = 46 := fun hb => by rw [cut1, if_pos hb] at e; simp at e
          rw [cut1, if_neg hb] at e
          simp at e
          have hp : ([46] : List UInt8).isPrefixOf (b :: r) = false := by simp [List.isPrefixOf]; exact fun e => hb e.symm
          rw [Lib.index, hp] at h
          by_cases hq : Lib.index r [46] = -1
          · simp [hq] at h; omega
          · have := ih i (by simp [hq] at h; omega) (by rw [← e.1, ← e.2.1, ← e.2.2])
            omega
    simp; omega
theorem hasSuffix_one (l : List UInt8) (c : UInt8) : Lib.hasSuffix l [c] = decide (l.getLast? = some c) := by
  unfold Lib.hasSuffix
  rw [Bool.eq_iff_iff]
  simp only [List.isSuffixOf_iff_suffix, decide_eq_true_eq]
  constructor
  · rintro ⟨t, rfl⟩; simp
  · intro h
    obtain ⟨t, rfl⟩ := List.getLast?_eq_some_iff.1 h
    exact ⟨t, rfl⟩
theorem trim_one (l : List UInt8) (c : UInt8) (h : Lib.hasSuffix l [c] = true) : Lib.trimSuffix l [c] = l.take (l.length - 1) := by
  simp [Lib.trimSuffix, h]
theorem last_s (s : ByteArray) (h : 0 < s.size) (c : UInt8) : s.data.toList.getLast? = some c ↔ s[s.size - 1] = c := by
  have hl : s.data.toList.length = s.size := by simp
  rw [List.getLast?_eq_getElem?, hl, List.getElem?_eq_getElem (by omega)]
  simp only [Option.some.injEq]
  exact Iff.rfl
end Ost
end Go.Proofs.YtfnkmlpgfohjnaaDoor
