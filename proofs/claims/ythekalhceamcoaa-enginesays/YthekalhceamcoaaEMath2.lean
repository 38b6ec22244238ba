/- Choosing the first one by one; leaving one out: no program, no world. -/
import Derived.Test.YthekalhceamcoaaEMath
namespace Go.Proofs.Ythekalhceamcoaa
namespace Qos
def kyAt (us : List Nd) (ps : List Pd) (j : Nat) : Key := key us (pd ps j)
/-- Those that are done, in order, and no other one is ahead of them. -/
structure Sel (us : List Nd) (ps : List Pd) (D : Nat → Bool) (out : List Nat) : Prop where
  nodup : out.Nodup
  mem : ∀ j, j ∈ out ↔ (j < ps.length ∧ D j = true)
  srt : out.Pairwise fun a b => keyLt (kyAt us ps b) (kyAt us ps a) = false
  ahead : ∀ a, a ∈ out → ∀ j, j < ps.length → D j = false → keyLt (kyAt us ps j) (kyAt us ps a) = false
theorem Sel.start (us : List Nd) (ps : List Pd) : Sel us ps (fun _ => false) [] := ⟨List.nodup_nil, fun j => by simp, List.Pairwise.nil, fun a h => by simp at h⟩
/-- The best one so far. -/
structure Best (us : List Nd) (ps : List Pd) (D : Nat → Bool) (i b : Nat) : Prop where
  lt : b < i
  free : D b = false
  least : ∀ j, j < i → D j = false → keyLt (kyAt us ps j) (kyAt us ps b) = false
theorem Best.stay {us : List Nd} {ps : List Pd} {D : Nat → Bool} {i b : Nat} (h : Best us ps D i b) (hi : D i = true ∨ keyLt (kyAt us ps i) (kyAt us ps b) = false) : Best us ps D (i + 1) b :=
  ⟨by have := h.lt; omega, h.free, fun j hj hd => by
    by_cases e : j = i
    · subst e
      rcases hi with g | g
      · rw [g] at hd; cases hd
      · exact g
    · exact h.least j (by omega) hd⟩
theorem Best.turn {us : List Nd} {ps : List Pd} {D : Nat → Bool} {i b : Nat} (h : Best us ps D i b) (hi : D i = false) (hl : keyLt (kyAt us ps i) (kyAt us ps b) = true) : Best us ps D (i + 1) i :=
  ⟨by omega, hi, fun j hj hd => by
    by_cases e : j = i
    · subst e; exact swoKey.irrefl _
    · rcases Bool.eq_false_or_eq_true (keyLt (kyAt us ps j) (kyAt us ps i)) with g | g
      · have := swoKey.trans _ _ _ g hl
        rw [h.least j (by omega) hd] at this; cases this
      · exact g⟩
theorem Best.first {us : List Nd} {ps : List Pd} {D : Nat → Bool} {i : Nat} (hn : ∀ j, j < i → D j = true) (hi : D i = false) : Best us ps D (i + 1) i :=
  ⟨by omega, hi, fun j hj hd => by
    by_cases e : j = i
    · subst e; exact swoKey.irrefl _
    · rw [hn j (by omega)] at hd; cases hd⟩
theorem Sel.step {us : List Nd} {ps : List Pd} {D : Nat → Bool} {out : List Nat} {b : Nat} (h : Sel us ps D out) (hb : Best us ps D ps.length b) : Sel us ps (fun j => D j || decide (j = b)) (out ++ [b]) := by
  have hnb : b ∉ out := fun hm => by have := ((h.mem b).1 hm).2; rw [hb.free] at this; cases this
  refine ⟨?_, ?_, ?_, ?_⟩
  · rw [List.nodup_append]
    exact ⟨h.nodup, by simp, fun a ha c hc e => by simp at hc; subst e; subst hc; exact hnb ha⟩
  · intro j
    have hl := hb.lt
    rw [List.mem_append, h.mem, List.mem_singleton, Bool.or_eq_true, decide_eq_true_iff]
    constructor
    · rintro (⟨h1, h2⟩ | rfl)
      · exact ⟨h1, .inl h2⟩
      · exact ⟨hl, .inr rfl⟩
    · rintro ⟨h1, h2 | h2⟩
      · exact .inl ⟨h1, h2⟩
      · exact .inr h2
  · rw [List.pairwise_append]
    exact ⟨h.srt, List.pairwise_singleton _ _, fun a ha c hc => by simp at hc; subst hc; exact h.ahead a ha c hb.lt hb.free⟩
  · intro a ha j hj hd
    rw [Bool.or_eq_false_iff] at hd
    rw [List.mem_append, List.mem_singleton] at ha
    rcases ha with ha | rfl
    · exact h.ahead a ha j hj hd.1
    · exact hb.least j hj hd.1
theorem Sel.left {us : List Nd} {ps : List Pd} {D : Nat → Bool} {out : List Nat} (h : Sel us ps D out) (hl : out.length < ps.length) : ¬ ∀ j, j < ps.length → D j = true := by
  intro ha
  have hs : List.range ps.length ⊆ out := fun j hj => (h.mem j).2 ⟨List.mem_range.1 hj, ha j (List.mem_range.1 hj)⟩
  have := List.Nodup.length_le_of_subset List.nodup_range hs
  rw [List.length_range] at this
  omega
theorem pds_map (ps : List Pd) : (List.range ps.length).map (fun j => pd ps j) = ps := by
  apply List.ext_getElem
  · simp
  · intro i h1 h2
    simp [pd, h2]
theorem Sel.all {us : List Nd} {ps : List Pd} {D : Nat → Bool} {out : List Nat} (h : Sel us ps D out) (hl : out.length = ps.length) : (out.map fun j => pd ps j).Perm ps ∧ Ranked ((out.map fun j => pd ps j).map (key us)) := by
  have hp : out.Perm (List.range ps.length) := by
    refine (List.perm_ext_iff_of_nodup h.nodup List.nodup_range).2 fun j => ?_
    rw [List.mem_range]
    constructor
    · exact fun hj => ((h.mem j).1 hj).1
    · intro hj
      refine Classical.byContradiction fun hc => ?_
      have hs : out ⊆ (List.range ps.length).erase j := fun a ha => by
        have h1 := ((h.mem a).1 ha).1
        have hne : a ≠ j := fun e => hc (by rw [← e]; exact ha)
        exact (List.mem_erase_of_ne hne).2 (List.mem_range.2 h1)
      have := List.Nodup.length_le_of_subset h.nodup hs
      rw [List.length_erase_of_mem (List.mem_range.2 hj), List.length_range] at this
      omega
  refine ⟨?_, ?_⟩
  · have := hp.map (fun j => pd ps j)
    rw [pds_map] at this
    exact this
  · unfold Ranked
    rw [List.pairwise_map, List.pairwise_map]
    exact h.srt
/-- In order, they are as any other such order. -/
theorem names_unique {us : List Nd} {l1 l2 : List Pd} (hp : l1.Perm l2) (h1 : Ranked (l1.map (key us))) (h2 : Ranked (l2.map (key us))) : l1.map Pd.nm = l2.map Pd.nm := by
  have := congrArg (List.map Key.nm) (ranked_unique (hp.map (key us)) h1 h2)
  rw [List.map_map, List.map_map] at this
  exact this
/-- Of unlike names, they are the same ones. -/
def Unlike (ps : List Pd) : Prop := (ps.map Pd.nm).Nodup
theorem nm_inj {ps : List Pd} (h : Unlike ps) {a b : Pd} (ha : a ∈ ps) (hb : b ∈ ps) (e : a.nm = b.nm) : a = b := by
  unfold Unlike at h
  induction ps with
  | nil => simp at ha
  | cons x l ih =>
    rw [List.map_cons, List.nodup_cons] at h
    rw [List.mem_cons] at ha hb
    rcases ha with rfl | ha
    · rcases hb with rfl | hb
      · rfl
      · exact absurd (List.mem_map.2 ⟨b, hb, e.symm⟩) h.1
    · rcases hb with rfl | hb
      · exact absurd (List.mem_map.2 ⟨a, ha, e⟩) h.1
      · exact ih h.2 ha hb
theorem order_unique {us : List Nd} {ps l1 l2 : List Pd} (hu : Unlike ps) (p1 : l1.Perm ps) (p2 : l2.Perm ps) (h1 : Ranked (l1.map (key us))) (h2 : Ranked (l2.map (key us))) : l1 = l2 := by
  refine List.Perm.eq_of_pairwise (le := fun a b => keyLt (key us b) (key us a) = false) ?_ (List.pairwise_map.1 h1) (List.pairwise_map.1 h2) (p1.trans p2.symm)
  intro a b ha hb g1 g2
  exact nm_inj hu (p1.mem_iff.1 ha) (p2.mem_iff.1 hb) (congrArg Key.nm (key_total (a := key us a) (b := key us b) g2 g1))
end Qos
end Go.Proofs.Ythekalhceamcoaa
