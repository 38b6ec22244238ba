/- What is written is read: plain facts about amounts. -/
import Derived.Test.YtfnkmlpgfohjnaaDoorMath3
import Derived.Lib.ItoaNum
namespace Go.Proofs.YtfnkmlpgfohjnaaDoor
namespace Ost
def decN (n : Nat) : List UInt8 := Lib.decDigits n
theorem decN_small (n : Nat) (h : n < 10) : decN n = [UInt8.ofNat (48 + n)] := Lib.decDigits_one h
theorem decN_big (n : Nat) (h : ¬ n < 10) : decN n = decN (n / 10) ++ [UInt8.ofNat (48 + n % 10)] := by
  unfold decN; rw [Lib.decDigits, dif_neg h]
theorem dig_ofNat (d : Nat) (h : d < 10) : isDig (UInt8.ofNat (48 + d)) = true ∧ ((UInt8.ofNat (48 + d)).toNat : Int) - 48 = d := by
  have e : (UInt8.ofNat (48 + d)).toNat = 48 + d := by simp; omega
  exact ⟨by rw [isDig_iff, e]; omega, by rw [e]; omega⟩
theorem decN_ne (n : Nat) : decN n ≠ [] := by
  by_cases h : n < 10
  · rw [decN_small n h]; simp
  · rw [decN_big n h]; simp
theorem decN_all (n : Nat) : allDig (decN n) = true ∧ val (decN n) = n := by
  induction n using Nat.strongRecOn with
  | ind n ih =>
    by_cases h : n < 10
    · obtain ⟨h1, h2⟩ := dig_ofNat n h
      rw [decN_small n h]
      exact ⟨by show (isDig _ && true) = true; rw [h1]; rfl, by show step 0 _ = _; unfold step; omega⟩
    · obtain ⟨h1, h2⟩ := dig_ofNat (n % 10) (by omega)
      obtain ⟨i1, i2⟩ := ih (n / 10) (by omega)
      rw [decN_big n h]
      exact ⟨by rw [allDig_snoc, i1, h1]; rfl, by rw [val_snoc, i2]; unfold step; omega⟩
theorem decN_head (n : Nat) : ¬ (1 < (decN n).length ∧ (decN n).headD 0 = 48) := by
  have key : 0 < n → (decN n).headD 0 ≠ 48 := by
    induction n using Nat.strongRecOn with
    | ind n ih =>
      intro h0
      by_cases h : n < 10
      · rw [decN_small n h]
        simp only [List.headD_cons]
        intro e
        have e2 := congrArg UInt8.toNat e
        have e3 : (UInt8.ofNat (48 + n)).toNat = 48 + n := by simp; omega
        rw [e3] at e2
        simp at e2; omega
      · rw [decN_big n h]
        have := ih (n / 10) (by omega) (by omega)
        cases hd : decN (n / 10) with
        | nil => exact absurd hd (decN_ne _)
        | cons a r => rw [hd] at this; simpa using this
  by_cases h0 : 0 < n
  · exact fun h => key h0 h.2
  · have : n = 0 := by omega
    subst this
    rw [decN_small 0 (by omega)]; simp
theorem decN_num (n : Nat) : isNum (decN n) = true := (isNum_iff _).2 ⟨decN_ne n, decN_head n, (decN_all n).1⟩
theorem decN_len (k n : Nat) (h : n < 10 ^ (k + 1)) : (decN n).length ≤ k + 1 := by
  induction k generalizing n with
  | zero => rw [decN_small n (by simpa using h)]; simp
  | succ k ih =>
    by_cases hs : n < 10
    · rw [decN_small n hs]; simp
    · rw [decN_big n hs, List.length_append]
      have := ih (n / 10) (by rw [Nat.pow_succ] at h; omega)
      simp; omega
theorem decN_good (n : Nat) (k : Nat) (hk : k + 1 ≤ 18) (h : n < 10 ^ (k + 1)) : good ((k + 1 : Nat) : Int) (decN n) = true := by
  rw [good_of_num _ _ (by omega), decN_num n]
  have := decN_len k n h
  simp; omega
theorem last_dig (l : List UInt8) (h : allDig l = true) (c : UInt8) (hc : isDig c = false) : l.getLast? ≠ some c := by
  intro e
  have hm := List.mem_of_getLast? e
  have := List.all_eq_true.1 h c hm
  rw [hc] at this; cases this
theorem no_suffix (l : List UInt8) (h : allDig l = true) (p : List UInt8) (c : UInt8) (hc : isDig c = false) : Lib.hasSuffix l (p ++ [c]) = false := by
  rw [Lib.hasSuffix, ← Bool.not_eq_true, List.isSuffixOf_iff_suffix]
  rintro ⟨u, rfl⟩
  have := last_dig _ h c hc
  simp at this
theorem cut1_digits (l : List UInt8) (h : allDig l = true) (c : UInt8) (hc : isDig c = false) : cut1 c l = (l, [], false) := by
  induction l with
  | nil => rfl
  | cons b r ih =>
    simp only [allDig, List.all_cons, Bool.and_eq_true] at h
    rw [cut1, if_neg (fun e => by rw [e, hc] at h; cases h.1), ih h.2]
theorem suffix_append (l p : List UInt8) : Lib.hasSuffix (l ++ p) p = true := by
  rw [Lib.hasSuffix, List.isSuffixOf_iff_suffix]; exact ⟨l, rfl⟩
theorem trim_append (l p : List UInt8) : Lib.trimSuffix (l ++ p) p = l := by
  rw [Lib.trimSuffix, if_pos (suffix_append l p)]; simp
theorem suffix_other (l : List UInt8) (a b c : UInt8) (h : b ≠ a) : Lib.hasSuffix (l ++ [a, c]) [b, c] = false := by
  rw [Lib.hasSuffix, ← Bool.not_eq_true, List.isSuffixOf_iff_suffix]
  rintro ⟨u, hu⟩
  have := (List.append_inj' hu rfl).2
  simp at this
  exact h this
/-- Whole processors. -/
theorem milli_whole (q : Nat) (h : q ≤ 1000) : milliOut (decN q) = ((q : Int) * 1000, 0) := by
  have hd := (decN_all q).1
  have h1 : Lib.hasSuffix (decN q) [109] = false := no_suffix _ hd [] 109 (by decide)
  have h2 := cut1_digits _ hd 46 (by decide)
  have hg : good 6 (decN q) = true := decN_good q 5 (by omega) (by omega)
  rw [milliOut, milliRaw, h1, h2, hg, (decN_all q).2]
  simp [bound]
  omega
theorem milli_m (q : Nat) (h : q ≤ 1000000) : milliOut (decN q ++ [109]) = ((q : Int), 0) := by
  have hg : good 9 (decN q) = true := decN_good q 8 (by omega) (by omega)
  rw [milliOut, milliRaw, suffix_append, trim_append, hg, (decN_all q).2]
  simp [bound]
  omega
theorem milliOut_ok (l : List UInt8) (k : Int) (h : milliOut l = (k, 0)) : 0 ≤ k ∧ k ≤ 1000000 := by
  have key : ∀ v, milliRaw l = some v → 0 ≤ v := by
    intro v hv
    unfold milliRaw at hv
    split at hv
    · split at hv
      · rename_i hg
        obtain ⟨⟨_, _, h3⟩, _⟩ := (good_iff _ _).1 hg
        cases hv; exact val_nonneg _ h3
      · cases hv
    · split at hv
      · rename_i hg
        obtain ⟨⟨_, _, h3⟩, _⟩ := (good_iff _ _).1 hg
        have hv1 := val_nonneg _ h3
        split at hv
        · split at hv
          · rename_i hp
            unfold placesOk at hp
            rw [Bool.and_eq_true, decide_eq_true_eq] at hp
            have hb := val_pad_bound _ hp.2 3 (by omega) hp.1.2
            rw [List.take_of_length_le (by rw [pad_length _ hp.1.2]; omega)] at hb
            cases hv; omega
          · cases hv
        · cases hv; omega
      · cases hv
  unfold milliOut bound at h
  split at h
  · simp at h
  · rename_i v hv
    have := key v hv
    split at h
    · simp at h
    · simp at h; omega
theorem bytesOut_ok (l : List UInt8) (k : Int) (h : bytesOut l = (k, 0)) (hz : (cutUnit l).2 = 1 ∨ (cutUnit l).2 = 1024 ∨ (cutUnit l).2 = 1048576 ∨ (cutUnit l).2 = 1073741824 ∨ (cutUnit l).2 = 1099511627776) : 0 ≤ k ∧ k ≤ 1125899906842624 := by
  unfold bytesOut at h
  split at h
  · rename_i hg
    obtain ⟨⟨_, _, h3⟩, _⟩ := (good_iff _ _).1 hg
    have hv1 := val_nonneg _ h3
    split at h
    · simp at h
    · rename_i hb
      simp at h
      subst h
      generalize val (cutUnit l).1 = v at *
      rcases hz with e | e | e | e | e <;> rw [e] at hb ⊢ <;> omega
  · simp at h
/-- How many of a unit. -/
theorem bytes_unit (q : Nat) (k : Nat) (u : List UInt8) (z : Int) (hk : (k = 0 ∧ u = [] ∧ z = 1) ∨ (k = 1 ∧ u = [75, 105] ∧ z = 1024) ∨ (k = 2 ∧ u = [77, 105] ∧ z = 1048576) ∨ (k = 3 ∧ u = [71, 105] ∧ z = 1073741824) ∨ (k = 4 ∧ u = [84, 105] ∧ z = 1099511627776))
    (h : (q : Int) * z ≤ 1125899906842624) : bytesOut (decN q ++ u) = ((q : Int) * z, 0) := by
  have hd := (decN_all q).1
  have hc : cutUnit (decN q ++ u) = (decN q, z) := by
    rcases hk with ⟨_, rfl, rfl⟩ | ⟨_, rfl, rfl⟩ | ⟨_, rfl, rfl⟩ | ⟨_, rfl, rfl⟩ | ⟨_, rfl, rfl⟩
    · rw [List.append_nil]
      have n1 : ∀ c, Lib.hasSuffix (decN q) [c, 105] = false := fun c => no_suffix _ hd [c] 105 (by decide)
      simp [cutUnit, n1]
    · rw [cutUnit, if_pos (suffix_append _ _), trim_append]
    · rw [cutUnit, suffix_other _ 77 75 105 (by decide), if_neg (by decide), if_pos (suffix_append _ _), trim_append]
    · rw [cutUnit, suffix_other _ 71 75 105 (by decide), if_neg (by decide), suffix_other _ 71 77 105 (by decide), if_neg (by decide), if_pos (suffix_append _ _), trim_append]
    · rw [cutUnit, suffix_other _ 84 75 105 (by decide), if_neg (by decide), suffix_other _ 84 77 105 (by decide), if_neg (by decide), suffix_other _ 84 71 105 (by decide), if_neg (by decide), if_pos (suffix_append _ _), trim_append]
  have hq : (q : Int) ≤ 1125899906842624 := by
    rcases hk with ⟨_, rfl, rfl⟩ | ⟨_, rfl, rfl⟩ | ⟨_, rfl, rfl⟩ | ⟨_, rfl, rfl⟩ | ⟨_, rfl, rfl⟩ <;> omega
  have hg : good 16 (decN q) = true := decN_good q 15 (by omega) (by omega)
  rw [bytesOut, hc, hg, (decN_all q).2, if_pos rfl]
  show (if 1125899906842624 / z < (q : Int) then ((0 : Int), (1 : Int)) else ((q : Int) * z, 0)) = _
  rw [if_neg]
  rcases hk with ⟨_, rfl, rfl⟩ | ⟨_, rfl, rfl⟩ | ⟨_, rfl, rfl⟩ | ⟨_, rfl, rfl⟩ | ⟨_, rfl, rfl⟩ <;> omega
end Ost
end Go.Proofs.YtfnkmlpgfohjnaaDoor
