/- Leaving one out: no program, no world. -/
import Derived.Test.YthekalhceamcoaaEMath2
namespace Go.Proofs.Ythekalhceamcoaa
namespace Qos
/-- Those from i on, but one, from the last to the first. -/
def restFrom (ps : List Pd) (k i : Nat) : List Pd := (((List.range ps.length).drop i).reverse.filter fun j => decide (j ≠ k)).map (pd ps)
theorem rest_end (ps : List Pd) (k : Nat) : restFrom ps k ps.length = [] := by
  unfold restFrom
  rw [List.drop_eq_nil_of_le (by simp)]
  rfl
theorem rest_step (ps : List Pd) {k i : Nat} (h : i < ps.length) : restFrom ps k i = if i ≠ k then restFrom ps k (i + 1) ++ [pd ps i] else restFrom ps k (i + 1) := by
  unfold restFrom
  rw [List.drop_eq_getElem_cons (by simpa using h), List.reverse_cons, List.filter_append, List.map_append]
  by_cases e : i = k
  · simp [e]
  · simp [e]
theorem unlike_ne {ps : List Pd} (hu : Unlike ps) {i j : Nat} (hi : i < ps.length) (hj : j < ps.length) (e : (pd ps i).nm = (pd ps j).nm) : i = j := by
  unfold Unlike at hu
  have hi' : i < (ps.map Pd.nm).length := by simpa using hi
  have hj' : j < (ps.map Pd.nm).length := by simpa using hj
  have e2 : (ps.map Pd.nm)[i] = (ps.map Pd.nm)[j] := by simpa [pd, hi, hj] using e
  rcases Nat.lt_trichotomy i j with h | h | h
  · exact absurd e2 (List.pairwise_iff_getElem.1 hu i j hi' hj' h)
  · exact h
  · exact absurd e2.symm (List.pairwise_iff_getElem.1 hu j i hj' hi' h)
theorem rest_perm {ps : List Pd} (hu : Unlike ps) {k : Nat} (hk : k < ps.length) : (restFrom ps k 0).Perm (ps.filter fun p => decide (p.nm ≠ (pd ps k).nm)) := by
  unfold restFrom
  have e : (List.range ps.length).filter (fun j => decide (j ≠ k)) = (List.range ps.length).filter ((fun p => decide (p.nm ≠ (pd ps k).nm)) ∘ pd ps) := by
    refine List.filter_congr fun j hj => ?_
    rw [List.mem_range] at hj
    refine decide_eq_decide.2 ?_
    constructor
    · exact fun h g => h (unlike_ne hu hj hk g)
    · exact fun h g => h (by rw [g])
  have h2 : ((List.range ps.length).map (pd ps)).filter (fun p => decide (p.nm ≠ (pd ps k).nm)) = ps.filter fun p => decide (p.nm ≠ (pd ps k).nm) := by
    rw [show (List.range ps.length).map (pd ps) = ps from pds_map ps]
  rw [List.drop_zero, ← h2, List.filter_map, ← e]
  refine List.Perm.map _ ?_
  exact (List.reverse_perm _).filter _
theorem left_out {us : List Nd} {ps qs rs : List Pd} (hu : Unlike ps) {k : Nat} (hk : k < ps.length) (hq : qs.Perm ps) (hr : rs.Perm (restFrom ps k 0)) (h1 : Ranked (qs.map (key us))) (h2 : Ranked (rs.map (key us))) :
    rs.map Pd.nm = (qs.map Pd.nm).filter fun s => decide (s ≠ (pd ps k).nm) := by
  have hp : rs.Perm (qs.filter fun p => decide (p.nm ≠ (pd ps k).nm)) := (hr.trans (rest_perm hu hk)).trans (hq.symm.filter _)
  have h3 : Ranked ((qs.filter fun p => decide (p.nm ≠ (pd ps k).nm)).map (key us)) := by
    unfold Ranked at *
    rw [List.pairwise_map] at *
    exact List.Pairwise.filter _ h1
  have e := names_unique hp h2 h3
  rw [e, List.filter_map]
  rfl
end Qos
end Go.Proofs.Ythekalhceamcoaa
