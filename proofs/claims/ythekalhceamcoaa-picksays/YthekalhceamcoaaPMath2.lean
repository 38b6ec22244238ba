/- Plain facts: how the document's text takes sockets, cores and single ones: no program, no world. -/
import Derived.Test.YthekalhceamcoaaPMath
namespace Go.Proofs.Ythekalhceamcoaa
namespace Ost
/-- Sockets first, then cores. -/
def fam (l : List Cpu) (k : Nat) : Nat → Nat := if k = 0 then sockAt l else coreAt l
/-- What is taken ahead of them. -/
def base (l : List Cpu) (F : Nat) (L : Int) (k : Nat) : Nat := if k = 0 then 0 else if k = 1 then some1 l F L else some2 l F L
/-- What is taken behind n of them. -/
def acc (l : List Cpu) (F : Nat) (L : Int) (k n : Nat) : Nat := base l F L k ||| wholesTo (fam l k) (dif F (base l F L k)) (L - cnt (base l F L k)) n
theorem fam_parts (l : List Cpu) (k : Nat) : Parts (fam l k) := by
  unfold fam
  split
  · exact at_parts _ l
  · exact at_parts _ l
theorem fam_lt {l : List Cpu} (h : l.length ≤ 64) (k n : Nat) : fam l k n < 18446744073709551616 := by
  unfold fam
  split
  · exact at_lt _ h n
  · exact at_lt _ h n
theorem base_sub (l : List Cpu) (F : Nat) (L : Int) (k : Nat) : base l F L k &&& F = base l F L k := by
  unfold base
  split
  · simp
  · split
    · exact some1_sub l F L
    · exact some2_sub l F L
theorem base_cnt (l : List Cpu) (F : Nat) (L : Int) (h : 0 ≤ L) (k : Nat) : (cnt (base l F L k) : Int) ≤ L := by
  unfold base
  split
  · rw [cnt_0]; omega
  · split
    · exact some1_cnt l F L h
    · exact some2_cnt l F L h
theorem acc_zero (l : List Cpu) (F : Nat) (L : Int) (k : Nat) : acc l F L k 0 = base l F L k := by simp [acc, wholesTo]
theorem acc_end (l : List Cpu) (F : Nat) (L : Int) (k : Nat) (hk : k < 2) : acc l F L k 64 = base l F L (k + 1) := by
  have : k = 0 ∨ k = 1 := by omega
  rcases this with rfl | rfl
  · show 0 ||| wholesTo (sockAt l) (dif F 0) (L - cnt 0) 64 = some1 l F L
    rw [dif_zero, cnt_0, show L - ((0 : Nat) : Int) = L by omega]
    simp [some1, wholes]
  · rfl
theorem acc_apart (l : List Cpu) (F : Nat) (L : Int) (k n : Nat) : base l F L k &&& wholesTo (fam l k) (dif F (base l F L k)) (L - cnt (base l F L k)) n = 0 := apart_dif (wholesTo_sub _ _ _ _)
theorem acc_sub (l : List Cpu) (F : Nat) (L : Int) (k n : Nat) : acc l F L k n &&& F = acc l F L k n := or_sub (base_sub l F L k) (sub_trans (wholesTo_sub _ _ _ _) (dif_sub F _))
theorem acc_cnt (l : List Cpu) (F : Nat) (L : Int) (h : 0 ≤ L) (k n : Nat) : (cnt (acc l F L k n) : Int) ≤ L := by
  have h1 := base_cnt l F L h k
  have h2 := wholesTo_cnt (fam_parts l k) (dif F (base l F L k)) (L - cnt (base l F L k)) (by omega) n
  rw [acc, cnt_or (acc_apart l F L k n)]
  omega
theorem acc_step (l : List Cpu) (F : Nat) (L : Int) (k n : Nat) :
    acc l F L k (n + 1) = if fam l k n ≠ 0 ∧ fam l k n &&& dif F (acc l F L k n) = fam l k n ∧ (cnt (fam l k n) : Int) ≤ L - cnt (acc l F L k n) then acc l F L k n ||| fam l k n else acc l F L k n := by
  have h := wholes_ref (fam_parts l k) (dif F (base l F L k)) (L - cnt (base l F L k)) n
  rw [dif_dif] at h
  have e : L - (cnt (base l F L k) : Int) - (cnt (wholesTo (fam l k) (dif F (base l F L k)) (L - cnt (base l F L k)) n) : Int) = L - cnt (acc l F L k n) := by
    rw [acc, cnt_or (acc_apart l F L k n)]; omega
  rw [e] at h
  have e2 : base l F L k ||| wholesTo (fam l k) (dif F (base l F L k)) (L - cnt (base l F L k)) n = acc l F L k n := rfl
  rw [e2] at h
  rw [acc, h]
  split
  · rw [← Nat.or_assoc]; rfl
  · rfl
theorem acc_yes {l : List Cpu} {F : Nat} {L : Int} {k n : Nat} (h1 : fam l k n ≠ 0) (h2 : fam l k n &&& dif F (acc l F L k n) = fam l k n) (h3 : (cnt (fam l k n) : Int) ≤ L - cnt (acc l F L k n)) : acc l F L k (n + 1) = acc l F L k n ||| fam l k n := by
  rw [acc_step, if_pos ⟨h1, h2, h3⟩]
theorem acc_no {l : List Cpu} {F : Nat} {L : Int} {k n : Nat} (h : fam l k n = 0 ∨ ¬ fam l k n &&& dif F (acc l F L k n) = fam l k n ∨ ¬ (cnt (fam l k n) : Int) ≤ L - cnt (acc l F L k n)) : acc l F L k (n + 1) = acc l F L k n := by
  rw [acc_step, if_neg]
  rintro ⟨h1, h2, h3⟩
  rcases h with h | h | h
  · exact h1 h
  · exact h h2
  · exact h h3
/-- What the step leaves free, and how many are wanted still. -/
theorem acc_left {l : List Cpu} {F : Nat} {L : Int} {k n : Nat} (h1 : fam l k n ≠ 0) (h2 : fam l k n &&& dif F (acc l F L k n) = fam l k n) (h3 : (cnt (fam l k n) : Int) ≤ L - cnt (acc l F L k n)) :
    dif (dif F (acc l F L k n)) (fam l k n) = dif F (acc l F L k (n + 1)) ∧ L - (cnt (acc l F L k n) : Int) - cnt (fam l k n) = L - cnt (acc l F L k (n + 1)) := by
  rw [acc_yes h1 h2 h3, dif_dif]
  refine ⟨rfl, ?_⟩
  rw [cnt_or (apart_dif h2)]; omega
theorem someOf_base (l : List Cpu) (F : Nat) (L : Int) : someOf l F L = base l F L 2 ||| singles (leftOf l (dif F (base l F L 2))) (dif F (base l F L 2)) (L - cnt (base l F L 2)).toNat := rfl
/-- Where the search for single ones ends. -/
theorem singles_end {c : Nat → Nat} {A : Nat} {L : Int} {j : Nat} (hj : (j : Int) ≤ L) (hl : j ≤ (order c A).length) (h : L - j ≤ 0 ∨ (order c A).length ≤ j) : orB ((order c A).take j) = singles c A L.toNat := by
  unfold singles
  congr 1
  rw [List.take_eq_take_iff]
  omega
theorem take_orB {c : Nat → Nat} {A j : Nat} (hj : j < (order c A).length) (T : Nat) : T ||| orB ((order c A).take (j + 1)) = T ||| orB ((order c A).take j) ||| 2 ^ (order c A)[j] := by
  rw [List.take_succ_eq_append_getElem hj, orB_snoc, Nat.or_assoc]
theorem order_lt {c : Nat → Nat} {A j : Nat} (hj : j < (order c A).length) : (order c A)[j] < 64 := (order_mem.1 (List.getElem_mem hj)).1
theorem orB_lt {c : Nat → Nat} {A : Nat} (hA : A < 18446744073709551616) (j : Nat) : orB ((order c A).take j) < 18446744073709551616 := sub_lt hA (singles_sub c A j)
theorem bestTo_in {c : Nat → Nat} {A k : Nat} (h : bestToP c A k ≠ -1) : ∃ b : Nat, bestToP c A k = b ∧ b < k := by
  rcases bestTo_specP c A k with ⟨h1, _⟩ | ⟨b, h1, h2, _⟩
  · exact absurd h1 h
  · exact ⟨b, h1, h2⟩
theorem bestTo_out {c : Nat → Nat} {A i : Nat} (h : A.testBit i = false) : bestToP c A (i + 1) = bestToP c A i := by rw [bestToP, if_neg (fun hh => by rw [h] at hh; cases hh.1)]
theorem bestTo_first {c : Nat → Nat} {A i : Nat} (h : A.testBit i = true) (hb : bestToP c A i = -1) : bestToP c A (i + 1) = i := by rw [bestToP, if_pos ⟨h, .inl (by omega)⟩]
theorem bestTo_less {c : Nat → Nat} {A i b : Nat} (h : A.testBit i = true) (hb : bestToP c A i = b) (hc : c i < c b) : bestToP c A (i + 1) = i := by rw [bestToP, if_pos ⟨h, .inr (by rw [hb]; exact hc)⟩]
theorem bestTo_more {c : Nat → Nat} {A i b : Nat} (hb : bestToP c A i = b) (hc : c b ≤ c i) : bestToP c A (i + 1) = b := by
  rw [bestToP, if_neg, hb]
  rintro ⟨_, h | h⟩
  · omega
  · rw [hb] at h; simp at h; omega
end Ost
end Go.Proofs.Ythekalhceamcoaa
