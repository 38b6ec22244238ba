/- From the last to the first: how much, and the least number that must go: no program, no world. -/
import Derived.Test.YthekalhceamcoaaEMath5
import Derived.Test.YthekalhceamcoaaEMath3
namespace Go.Proofs.Ythekalhceamcoaa
namespace Qos
/-- One more: what is used together, and who is the first to stay. -/
def goStep (us : List Nd) (qs : List Pd) (most : Int) (st : Int × Nat) (x : Nat) : Int × Nat :=
  (st.1 + usedOf us (pd qs x).nm, if st.1 + usedOf us (pd qs x).nm ≤ most then x else st.2)
def goRun (us : List Nd) (qs : List Pd) (most : Int) (pre : List Nat) : Int × Nat := pre.foldl (goStep us qs most) (0, qs.length)
theorem goRun_nil (us : List Nd) (qs : List Pd) (most : Int) : goRun us qs most [] = (0, qs.length) := rfl
theorem goRun_snoc (us : List Nd) (qs : List Pd) (most : Int) (pre : List Nat) (x : Nat) : goRun us qs most (pre ++ [x]) = goStep us qs most (goRun us qs most pre) x := by
  unfold goRun; rw [List.foldl_append]; rfl
theorem goRun_sum (us : List Nd) (qs : List Pd) (most : Int) (pre : List Nat) : (goRun us qs most pre).1 = (pre.map fun x => usedOf us (pd qs x).nm).sum := by
  have key : ∀ (pre : List Nat) (st : Int × Nat), (pre.foldl (goStep us qs most) st).1 = st.1 + (pre.map fun x => usedOf us (pd qs x).nm).sum := by
    intro pre
    induction pre with
    | nil => intro st; simp
    | cons x l ih => intro st; rw [List.foldl_cons, ih, List.map_cons, List.sum_cons]; unfold goStep; simp only; omega
  unfold goRun
  rw [key]; simp
theorem goRun_in {us : List Nd} (h : Tame us) (qs : List Pd) (most : Int) {pre : List Nat} (hl : pre.length ≤ 16) : -18014398509481984 ≤ (goRun us qs most pre).1 ∧ (goRun us qs most pre).1 ≤ 18014398509481984 := by
  rw [goRun_sum]
  have := sum_in (l := pre.map fun x => usedOf us (pd qs x).nm) (B := 1125899906842624) (fun x hx => by
    obtain ⟨p, _, rfl⟩ := List.mem_map.1 hx
    exact used_in h _)
  rw [List.length_map] at this
  omega
/-- The first k places from the last on. -/
def downs (n k : Nat) : List Nat := (List.range k).map fun j => n - 1 - j
theorem downs_succ (n k : Nat) : downs n (k + 1) = downs n k ++ [n - 1 - k] := by unfold downs; rw [List.range_succ, List.map_append]; rfl
theorem downs_length (n k : Nat) : (downs n k).length = k := by simp [downs]
theorem goRun_downs (us : List Nd) (qs : List Pd) (most : Int) : ∀ k, k ≤ qs.length → (goRun us qs most (downs qs.length k)).1 = tail us qs (qs.length - k) ∧ Least us qs most (qs.length - k) (goRun us qs most (downs qs.length k)).2
  | 0, _ => by
    show (0 : Int) = _ ∧ Least us qs most _ qs.length
    rw [Nat.sub_zero, tail_end]
    exact ⟨rfl, Least.start us qs most⟩
  | k + 1, hk => by
    obtain ⟨h1, h2⟩ := goRun_downs us qs most k (by omega)
    rw [downs_succ, goRun_snoc]
    have e1 : qs.length - 1 - k = qs.length - (k + 1) := by omega
    have e2 : qs.length - k = qs.length - (k + 1) + 1 := by omega
    have hlt : qs.length - (k + 1) < qs.length := by omega
    have e3 := tail_step us (l := qs) (i := qs.length - (k + 1)) hlt
    rw [e2] at h1 h2
    rw [e1]
    generalize qs.length - (k + 1) = i at *
    unfold goStep
    simp only
    rw [h1]
    have e4 : tail us qs (i + 1) + usedOf us (pd qs i).nm = tail us qs i := by rw [e3]; omega
    rw [e4]
    refine ⟨rfl, ?_⟩
    by_cases hm : tail us qs i ≤ most
    · rw [if_pos hm]; exact Least.here hlt hm
    · rw [if_neg hm]; exact h2.stay (by omega)
theorem goRun_all (us : List Nd) (qs : List Pd) (most : Int) : Least us qs most 0 (goRun us qs most (downs qs.length qs.length)).2 := by
  have := (goRun_downs us qs most qs.length (Nat.le_refl _)).2
  rwa [Nat.sub_self] at this
/-- Only what is known of the high part. -/
theorem Tot.high {h l v : Int} (t : Tot h l v) (hv : -18014398509481984 ≤ v) (hv2 : v ≤ 18014398509481984) : -17179869184 ≤ h ∧ h ≤ 17179869184 := by
  obtain ⟨h1, h2, h3⟩ := t
  omega
end Qos
end Go.Proofs.Ythekalhceamcoaa
