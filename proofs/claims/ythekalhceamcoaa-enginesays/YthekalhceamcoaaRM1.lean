/- What runs, in order: put in and taken out; no program. -/
import Derived.Test.YthekalhceamcoaaRS1
namespace Go.Proofs.Ythekalhceamcoaa
open Qos (cmpS ltS orI)
theorem cmpS_zero {a b : ByteArray} : cmpS a b = 0 ↔ a = b := by
  constructor
  · intro h
    unfold cmpS at h
    split at h
    · cases h
    · rename_i h1
      split at h
      · cases h
      · rename_i h2
        exact Qos.ltS_total a b (by unfold Qos.one; rw [if_neg h1]) (by unfold Qos.one; rw [if_neg h2])
  · rintro rfl
    have := Qos.ltS_irrefl a
    unfold Qos.one at this
    unfold cmpS
    split at this
    · cases this
    · rename_i h
      rw [if_neg h, if_neg h]
theorem cfR_zero {x y : RV} : cfR x y = 0 ↔ (x.pod = y.pod ∧ x.cont = y.cont) := by
  unfold cfR orI
  by_cases h : cmpS x.pod y.pod = 0
  · rw [if_pos h, cmpS_zero]
    rw [cmpS_zero] at h
    simp [h]
  · rw [if_neg h]
    constructor
    · intro e; exact absurd e h
    · rintro ⟨e, _⟩; exact absurd (cmpS_zero.2 e) h
theorem cmpS_swap (a b : ByteArray) : cmpS a b < 0 ↔ 0 < cmpS b a := by
  have h1 := Qos.ltS_asymm a b
  have h2 := Qos.ltS_asymm b a
  unfold Qos.one at h1 h2
  unfold cmpS
  generalize ltS a b = p at *
  generalize ltS b a = q at *
  cases p <;> cases q <;> simp at *
theorem cfR_swap (x y : RV) : cfR x y < 0 ↔ 0 < cfR y x := by
  have h1 := cmpS_swap x.pod y.pod
  have h2 := cmpS_swap x.cont y.cont
  have h3 := cmpS_swap y.pod x.pod
  have z1 : cmpS x.pod y.pod = 0 ↔ cmpS y.pod x.pod = 0 := by rw [cmpS_zero, cmpS_zero]; exact eq_comm
  unfold cfR orI
  by_cases h : cmpS x.pod y.pod = 0
  · rw [if_pos h, if_pos (z1.1 h)]; exact h2
  · rw [if_neg h, if_neg (fun e => h (z1.2 e))]; exact h1
theorem cfR_tri (x y : RV) : cfR x y < 0 ∨ (x.pod = y.pod ∧ x.cont = y.cont) ∨ cfR y x < 0 := by
  by_cases h0 : cfR x y = 0
  · exact .inr (.inl (cfR_zero.1 h0))
  · rw [cfR_swap y x]
    omega
theorem cfR_trans {x y z : RV} (h1 : cfR x y < 0) (h2 : cfR y z < 0) : cfR x z < 0 := of_decide_eq_true (swoR.trans x y z (decide_eq_true h1) (decide_eq_true h2))
def Asc (rs : List RV) : Prop := rs.Pairwise fun x y => cfR x y < 0
def insAt (rs : List RV) (k : Nat) (r : RV) : List RV := rs.take k ++ r :: rs.drop k
theorem ins_length (rs : List RV) (k : Nat) (r : RV) (h : k ≤ rs.length) : (insAt rs k r).length = rs.length + 1 := by
  unfold insAt
  rw [List.length_append, List.length_cons, List.length_take, List.length_drop]
  omega
theorem ins_end (rs : List RV) (r : RV) : insAt rs rs.length r = rs ++ [r] := by simp [insAt]
theorem ins_perm (rs : List RV) (k : Nat) (r : RV) : (insAt rs k r).Perm (r :: rs) := by
  unfold insAt
  refine List.perm_middle.trans ?_
  rw [List.take_append_drop]
theorem ins_at (rs : List RV) {k : Nat} (r : RV) (h : k ≤ rs.length) : rv (insAt rs k r) k = r := by
  unfold rv insAt
  rw [List.getD_eq_getElem?_getD, List.getElem?_append_right (by simp; omega)]
  simp [show min k rs.length = k by omega]
theorem ins_before (rs : List RV) {k j : Nat} (r : RV) (h : k ≤ rs.length) (hj : j < k) : rv (insAt rs k r) j = rv rs j := by
  unfold rv insAt
  rw [List.getD_eq_getElem?_getD, List.getElem?_append_left (by simp; omega), List.getElem?_take]
  simp [hj]
theorem ins_step (rs : List RV) {k : Nat} (r : RV) (h : k + 1 ≤ rs.length) : ((insAt rs (k + 1) r).set (k + 1) (rv rs k)).set k r = insAt rs k r := by
  have hk : k < rs.length := by omega
  unfold insAt
  rw [List.take_add_one, List.getElem?_eq_getElem hk, List.drop_eq_getElem_cons hk]
  simp only [Option.toList_some, List.append_assoc, List.singleton_append]
  have hl : (rs.take k).length = k := by simp; omega
  rw [List.set_append_right _ _ (by omega), hl, show k + 1 - k = 1 by omega]
  rw [List.set_append_right _ _ (by omega), hl, Nat.sub_self]
  simp [rv, hk]
theorem asc_ins {rs : List RV} {k : Nat} {r : RV} (ha : Asc rs) (hk : k ≤ rs.length) (h1 : ∀ j, k ≤ j → j < rs.length → cfR r (rv rs j) < 0) (h2 : k = 0 ∨ cfR (rv rs (k - 1)) r < 0) : Asc (insAt rs k r) := by
  unfold Asc insAt
  have hp : ∀ i j (hi : i < rs.length) (hj : j < rs.length), i < j → cfR rs[i] rs[j] < 0 := fun i j hi hj hij => List.pairwise_iff_getElem.1 ha i j hi hj hij
  rw [List.pairwise_append]
  refine ⟨ha.sublist (List.take_sublist _ _), ?_, ?_⟩
  · rw [List.pairwise_cons]
    refine ⟨fun y hy => ?_, ha.sublist (List.drop_sublist _ _)⟩
    obtain ⟨i, hi, rfl⟩ := List.getElem_of_mem hy
    simp at hi
    have := h1 (k + i) (by omega) (by omega)
    have hki : k + i < rs.length := by omega
    simp [rv, hki] at this
    simpa using this
  · intro x hx y hy
    obtain ⟨i, hi, rfl⟩ := List.getElem_of_mem hx
    simp at hi
    have hlast : cfR rs[i] r < 0 := by
      rcases h2 with h2 | h2
      · omega
      · have hk1 : k - 1 < rs.length := by omega
        simp [rv, hk1] at h2
        by_cases e : i = k - 1
        · subst e; exact h2
        · exact cfR_trans (hp i (k - 1) (by omega) hk1 (by omega)) h2
    rw [List.getElem_take]
    rcases List.mem_cons.1 hy with rfl | hy
    · exact hlast
    · obtain ⟨j, hj, rfl⟩ := List.getElem_of_mem hy
      simp at hj
      rw [List.getElem_drop]
      exact hp i (k + j) (by omega) (by omega) (by omega)
theorem asc_erase {rs : List RV} (ha : Asc rs) (k : Nat) : Asc (rs.eraseIdx k) := ha.sublist (List.eraseIdx_sublist rs k)
/-- Keys of what runs. -/
def sameKey (p c : ByteArray) (a : Rn) : Bool := decide (a.pod = p ∧ a.cont = c)
def cfN (a b : Rn) : Int := orI (cmpS a.pod b.pod) (cmpS a.cont b.cont)
theorem order_uniq {w : World} {ys rs : List RV} (hp : (ys.map (absR w)).Perm (rs.map (absR w))) (h1 : InOrder ys) (h2 : Asc rs) : ys.map (absR w) = rs.map (absR w) := by
  refine List.Perm.eq_of_pairwise (le := fun a b => ¬ cfN b a < 0) ?_ ?_ ?_ hp
  · intro a b ha hb g1 g2
    obtain ⟨x, hx, rfl⟩ := List.mem_map.1 (hp.mem_iff.1 ha)
    obtain ⟨y, hy, rfl⟩ := List.mem_map.1 hb
    rcases cfR_tri x y with h | h | h
    · exact absurd h g2
    · have : x = y := by
        obtain ⟨i, hi, rfl⟩ := List.getElem_of_mem hx
        obtain ⟨j, hj, rfl⟩ := List.getElem_of_mem hy
        rcases Nat.lt_trichotomy i j with e | e | e
        · have := List.pairwise_iff_getElem.1 h2 i j hi hj e
          rw [cfR_zero.2 h] at this; omega
        · subst e; rfl
        · have := List.pairwise_iff_getElem.1 h2 j i hj hi e
          rw [cfR_zero.2 ⟨h.1.symm, h.2.symm⟩] at this; omega
      rw [this]
    · exact absurd h g1
  · rw [List.pairwise_map]; exact h1
  · rw [List.pairwise_map]
    refine h2.imp fun {a b} h => ?_
    show ¬ cfR b a < 0
    rw [cfR_swap b a]
    omega
theorem asc_distinct {rs : List RV} (h : Asc rs) {i j : Nat} (hi : i < rs.length) (hj : j < rs.length) (e : (rv rs i).pod = (rv rs j).pod ∧ (rv rs i).cont = (rv rs j).cont) : i = j := by
  simp [rv, hi, hj] at e
  rcases Nat.lt_trichotomy i j with g | g | g
  · have := List.pairwise_iff_getElem.1 h i j hi hj g
    rw [cfR_zero.2 e] at this; omega
  · exact g
  · have := List.pairwise_iff_getElem.1 h j i hj hi g
    rw [cfR_zero.2 ⟨e.1.symm, e.2.symm⟩] at this; omega
theorem any_abs (w : World) (xs : List RV) (p c : ByteArray) : (xs.any fun x => decide (x.pod = p ∧ x.cont = c)) = (xs.map (absR w)).any (sameKey p c) := by
  rw [List.any_map]; rfl
theorem filter_abs (w : World) (xs : List RV) (p c : ByteArray) : (xs.filter fun x => !decide (x.pod = p ∧ x.cont = c)).map (absR w) = (xs.map (absR w)).filter fun a => !sameKey p c a := by
  rw [List.filter_map]; rfl
theorem erase_filter {w : World} {rs : List RV} (h : Asc rs) {k : Nat} (hk : k < rs.length) {p c : ByteArray} (he : (rv rs k).pod = p ∧ (rv rs k).cont = c) : (rs.map (absR w)).filter (fun a => !sameKey p c a) = (rs.eraseIdx k).map (absR w) := by
  rw [← filter_abs]
  congr 1
  rw [List.eraseIdx_eq_take_drop_succ]
  conv => lhs; rw [← List.take_append_drop k rs]
  rw [List.filter_append]
  have hk' : rs.drop k = rs[k] :: rs.drop (k + 1) := List.drop_eq_getElem_cons hk
  rw [hk', List.filter_cons]
  have e0 : (rs[k]).pod = p ∧ (rs[k]).cont = c := by simpa [rv, hk] using he
  rw [if_neg (by simp [e0])]
  congr 1
  · refine List.filter_eq_self.2 fun x hx => ?_
    obtain ⟨i, hi, rfl⟩ := List.getElem_of_mem hx
    simp at hi
    have hi2 : i < rs.length := by omega
    simp only [List.getElem_take, Bool.not_eq_true', decide_eq_false_iff_not]
    intro e
    have := asc_distinct h (i := i) (j := k) (by omega) hk (by simp [rv, hk, hi2]; exact ⟨e.1.trans e0.1.symm, e.2.trans e0.2.symm⟩)
    omega
  · refine List.filter_eq_self.2 fun x hx => ?_
    obtain ⟨i, hi, rfl⟩ := List.getElem_of_mem hx
    simp at hi
    have hi2 : k + 1 + i < rs.length := by omega
    simp only [List.getElem_drop, Bool.not_eq_true', decide_eq_false_iff_not]
    intro e
    have := asc_distinct h (i := k + 1 + i) (j := k) hi2 hk (by simp [rv, hk, hi2]; exact ⟨e.1.trans e0.1.symm, e.2.trans e0.2.symm⟩)
    omega
end Go.Proofs.Ythekalhceamcoaa
