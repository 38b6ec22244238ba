/- Plain facts about how amounts are written: no program, no world. -/
import Derived.Test.YtfnkmlpgfohjnaaDoorMath
import Derived.Lib.Strings
import Derived.Lib.Index
import Derived.Lib.Small
import Derived.Lib.CutLaws
import Derived.Lib.ItoaNum
namespace Go.Proofs.YtfnkmlpgfohjnaaDoor
namespace Ost

/-- Around the first of a byte. -/
def cut1 (c : UInt8) : List UInt8 → List UInt8 × List UInt8 × Bool
  | [] => ([], [], false)
  | b :: l => if b = c then ([], l, true) else (b :: (cut1 c l).1, (cut1 c l).2.1, (cut1 c l).2.2)
theorem cut1_index (c : UInt8) (l : List UInt8) :
    (Lib.index l [c] = -1 ∧ cut1 c l = (l, [], false)) ∨ ∃ i : Nat, Lib.index l [c] = i ∧ cut1 c l = (l.take i, l.drop (i + 1), true) := by
  induction l with
  | nil => exact .inl ⟨rfl, rfl⟩
  | cons b r ih =>
    by_cases h : b = c
    · subst h
      exact .inr ⟨0, by simp [Lib.index], by simp [cut1]⟩
    · have hp : ([c] : List UInt8).isPrefixOf (b :: r) = false := by simp [List.isPrefixOf]; exact fun e => h e.symm
      rcases ih with ⟨h1, h2⟩ | ⟨i, h1, h2⟩
      · exact .inl ⟨by rw [Lib.index, hp]; simp [h1], by rw [cut1, if_neg h, h2]⟩
      · refine .inr ⟨i + 1, ?_, by rw [cut1, if_neg h, h2]; simp⟩
        rw [Lib.index, hp, h1]
        have : ((i : Int) == -1) = false := by simp
        simp [this]
theorem cut_one (c : UInt8) (l : List UInt8) : Lib.cut l [c] = cut1 c l := by
  unfold Lib.cut
  rcases cut1_index c l with ⟨h1, h2⟩ | ⟨i, h1, h2⟩
  · rw [h1, h2]; simp
  · rw [h1, h2]; simp

/-- What stands behind a point, filled up with noughts to three places. -/
def pad (l : List UInt8) : List UInt8 := l ++ List.replicate (3 - l.length) 48
def placesOk (l : List UInt8) : Bool := decide (l.length ≠ 0 ∧ l.length ≤ 3) && allDig l
theorem pad_length (l : List UInt8) (h : l.length ≤ 3) : (pad l).length = 3 := by simp [pad]; omega
theorem pad_snoc (l : List UInt8) (k : Nat) (hl : l.length ≤ 3) (h : k < 3) : (pad l).take (k + 1) = (pad l).take k ++ [if hk : k < l.length then l[k] else 48] := by
  rw [List.take_succ_eq_append_getElem (by rw [pad_length l hl]; exact h)]
  congr 2
  unfold pad
  by_cases hk : k < l.length
  · rw [List.getElem_append_left hk, dif_pos hk]
  · rw [List.getElem_append_right (by omega), dif_neg hk]; simp
theorem val_pad_bound (l : List UInt8) (h : allDig l = true) : ∀ k, k ≤ 3 → l.length ≤ 3 → 0 ≤ val ((pad l).take k) ∧ val ((pad l).take k) ≤ 999 := by
  have hd : ∀ k, allDig ((pad l).take k) = true := fun k => allDig_take _ _ (by
    rw [pad, allDig_append, h]
    have : 3 - l.length = 0 ∨ 3 - l.length = 1 ∨ 3 - l.length = 2 ∨ 3 - l.length = 3 := by omega
    rcases this with e | e | e | e <;> rw [e] <;> decide)
  intro k hk hl
  refine ⟨val_nonneg _ (hd k), ?_⟩
  have h0 : val ((pad l).take 0) = 0 := by simp [val]
  have hs : ∀ j, j < 3 → val ((pad l).take (j + 1)) ≤ val ((pad l).take j) * 10 + 9 := by
    intro j hj
    have e := pad_snoc l j hl hj
    have hdj := hd (j + 1)
    rw [e, allDig_snoc, Bool.and_eq_true] at hdj
    rw [e, val_snoc]
    have := (isDig_iff _).1 hdj.2
    unfold step; omega
  have h1 := hs 0 (by omega)
  have h2 := hs 1 (by omega)
  have h3 := hs 2 (by omega)
  have : k = 0 ∨ k = 1 ∨ k = 2 ∨ k = 3 := by omega
  rcases this with e | e | e | e <;> subst e <;> simp only [Nat.zero_add, Nat.reduceAdd] at * <;> omega

/-- Thousandths as they are written, whatever their bound. -/
def milliRaw (l : List UInt8) : Option Int :=
  if Lib.hasSuffix l [109] then (if good 9 (Lib.trimSuffix l [109]) then some (val (Lib.trimSuffix l [109])) else none)
  else if good 6 (cut1 46 l).1 then
    (if (cut1 46 l).2.2 then (if placesOk (cut1 46 l).2.1 then some (val (cut1 46 l).1 * 1000 + val (pad (cut1 46 l).2.1)) else none)
     else some (val (cut1 46 l).1 * 1000))
  else none
/-- What is read, and an error's number (0: none). -/
def bound : Option Int → Int × Int
  | none => (0, 4)
  | some v => if 1000000 < v then (0, 1) else (v, 0)
def milliOut (l : List UInt8) : Int × Int := bound (milliRaw l)

/-- The sizes of units, and what stands ahead of one. -/
def cutUnit (l : List UInt8) : List UInt8 × Int :=
  if Lib.hasSuffix l [75, 105] then (Lib.trimSuffix l [75, 105], 1024)
  else if Lib.hasSuffix l [77, 105] then (Lib.trimSuffix l [77, 105], 1048576)
  else if Lib.hasSuffix l [71, 105] then (Lib.trimSuffix l [71, 105], 1073741824)
  else if Lib.hasSuffix l [84, 105] then (Lib.trimSuffix l [84, 105], 1099511627776)
  else (l, 1)
def bytesOut (l : List UInt8) : Int × Int :=
  if good 16 (cutUnit l).1 then (if 1125899906842624 / (cutUnit l).2 < val (cutUnit l).1 then (0, 1) else (val (cutUnit l).1 * (cutUnit l).2, 0)) else (0, 4)
theorem val_lt_pow (l : List UInt8) (h : allDig l = true) : val l < 10 ^ l.length := by
  have key : ∀ n : Int, l.foldl step n < (n + 1) * 10 ^ l.length := by
    induction l with
    | nil => intro n; simp; omega
    | cons b r ih =>
      intro n
      simp only [allDig, List.all_cons, Bool.and_eq_true] at h
      have hb := (isDig_iff b).1 h.1
      have := ih h.2 (step n b)
      simp only [List.foldl_cons, List.length_cons]
      have h2 : (step n b + 1) * 10 ^ r.length ≤ ((n + 1) * 10) * 10 ^ r.length := by
        apply Int.mul_le_mul_of_nonneg_right
        · unfold step; omega
        · exact Int.pow_nonneg (by omega)
      have h3 : ((n + 1) * 10) * 10 ^ r.length = (n + 1) * 10 ^ (r.length + 1) := by rw [Int.pow_succ, Int.mul_assoc, Int.mul_comm 10]
      omega
  have := key 0
  simpa [val] using this
end Ost
end Go.Proofs.YtfnkmlpgfohjnaaDoor
