/- Classes and sums of pods: contracts of package qos. -/
import Derived.Test.YthekalhceamcoaaQW3
namespace Go.Proofs.Ythekalhceamcoaa
open Go.RowKit
open Qos (Nd Ct Pd nd0 ct0 pd0 nd ct pd silent certain classOf quiet sure sumM sumB Mild)
set_option maxRecDepth 100000 in
set_option maxHeartbeats 2000000 in
theorem class_any (p : Pd) (cv : Value) (w : World) (h : ConsAt w cv p.cs) : Calls Try.prog 47 #[podV p cv] w fun e w' => e = .returned (.int .i64 (classOf p.cs)) ∧ Below w.heap.size w w' := by
  obtain ⟨ao, c, rfl, hm, hr⟩ := h
  have HR := hideIt hr
  have HM := hideIt hm
  clear hr hm
  unfold podV
  have HB0 := hideIt ((Below.refl w.heap.size w).alloc (Nat.le_refl _) (.cells #[.string p.nm, .int .i64 p.pr, .slice ao p.cs.length c] 60))
  generalize p.cs = cs at *
  go_enter Try.func47, Try.ntmps47
  go_wp2_with fail
  go_loopw [3, 4, 10] (fun s r i wr => ∃ k : Nat, k ≤ cs.length ∧ i = .int .i64 k ∧ s = .bool (silent cs k) ∧ r = .bool (certain cs k) ∧ Below w.heap.size w wr) (fun _ _ i _ => cs.length - (intOf i).toNat)
  case atStart => exact ⟨0, by omega, rfl, rfl, rfl, HB0.out⟩
  case round =>
    obtain ⟨k, hk, rfl, rfl, rfl, hB⟩ := hrel
    by_cases hlt : k < cs.length
    · obtain ⟨b, o, dv, rfl, hin⟩ := HR.out (by omega)
      have hin := hin.below hB
      obtain ⟨c0, c1, c2, c3, c4, c5⟩ := hin.at hlt
      have hsl : ∃ a n e, dv k = .slice a n e := by
        obtain ⟨a, e, he, _⟩ := (hin.2 k hlt).2
        exact ⟨a, _, e, he⟩
      have hB1 := hideIt (hB.alloc hB.size (.cells #[.string (ct cs k).nm, .int .i64 (ct cs k).am, .int .i64 (ct cs k).ab, .int .i64 (ct cs k).cm, .int .i64 (ct cs k).cb, dv k] 94))
      have HW : Hid (wrap64 ((k : Int) + 1) = ((k + 1 : Nat) : Int)) := by
        have := HM.out
        unfold maxLen at this
        show wrap64 ((k : Int) + 1) = ((k + 1 : Nat) : Int)
        unfold wrap64
        omega
      have HS : Hid (silent cs (k + 1) = (silent cs k && quiet (ct cs k))) := rfl
      have HC : Hid (certain cs (k + 1) = (certain cs k && sure (ct cs k))) := rfl
      clear hin hB
      generalize ct cs k = x at *
      generalize dv k = d at *
      obtain ⟨da, dn, dc, rfl⟩ := hsl
      generalize silent cs k = s at *
      generalize certain cs k = r at *
      obtain ⟨nm, am, ab, cm, cb, ds⟩ := x
      have key : (s = true ∧ r = true) ∨ (s = false ∨ r = false) := by cases s <;> cases r <;> simp
      rcases key with ⟨e1, e2⟩ | e12
      · subst e1 e2
        have five : ∀ a c : Int, (a = 0 ∧ c = 0) ∨ (a = 0 ∧ c ≠ 0) ∨ (a ≠ 0 ∧ c = 0) ∨ (a ≠ 0 ∧ c = a) ∨ (a ≠ 0 ∧ c ≠ 0 ∧ a ≠ c) := by omega
        rcases five am cm with ⟨g1, g2⟩ | ⟨g1, g2⟩ | ⟨g1, g2⟩ | ⟨g1, g2⟩ | ⟨g1, g2, g3⟩
        all_goals rcases five ab cb with ⟨k1, k2⟩ | ⟨k1, k2⟩ | ⟨k1, k2⟩ | ⟨k1, k2⟩ | ⟨k1, k2, k3⟩
        all_goals clear five
        all_goals subst_vars
        all_goals (try have g2' := Ne.symm g2)
        all_goals (try have k2' := Ne.symm k2)
        all_goals go_wp2_with fail
        all_goals
          rw [HW.out]
          refine ⟨⟨k + 1, by omega, rfl, ?_, ?_, hB1.out⟩, by simp [intOf]; omega⟩
          · rw [HS.out]; simp [quiet, *]
          · rw [HC.out]; simp [sure, *] <;> (rw [Bool.eq_iff_iff]; simp; omega)
      · rcases e12 with e1 | e2
        · subst e1
          rcases two r with e2 | e2
          all_goals subst e2
          all_goals go_wp2_with fail
          all_goals
            subst_vars
            rw [HW.out]
            refine ⟨⟨k + 1, by omega, rfl, ?_, ?_, hB1.out⟩, by simp [intOf]; omega⟩
            · rw [HS.out]; simp [quiet, *]
            · rw [HC.out]; simp [sure, *] <;> (rw [Bool.eq_iff_iff]; simp; omega)
        · subst e2
          rcases two s with e1 | e1
          all_goals subst e1
          all_goals go_wp2_with fail
          all_goals
            subst_vars
            rw [HW.out]
            refine ⟨⟨k + 1, by omega, rfl, ?_, ?_, hB1.out⟩, by simp [intOf]; omega⟩
            · rw [HS.out]; simp [quiet, *]
            · rw [HC.out]; simp [sure, *] <;> (rw [Bool.eq_iff_iff]; simp; omega)
    · have hke : k = cs.length := by omega
      subst hke
      have hB1 := hideIt hB
      have HC : Hid (classOf cs = if silent cs cs.length = true then 1 else if certain cs cs.length = true then 3 else 2) := rfl
      clear hB
      rcases two (silent cs cs.length) with e1 | e1
      · rw [e1]
        rw [e1] at HC
        go_wp2_with fail
        go_ret
        exact ⟨by rw [HC.out]; rfl, hB1.out⟩
      · rcases two (certain cs cs.length) with e2 | e2
        · rw [e1, e2]
          rw [e1, e2] at HC
          go_wp2_with fail
          go_ret
          exact ⟨by rw [HC.out]; rfl, hB1.out⟩
        · rw [e1, e2]
          rw [e1, e2] at HC
          go_wp2_with fail
          go_ret
          exact ⟨by rw [HC.out]; rfl, hB1.out⟩
end Go.Proofs.Ythekalhceamcoaa
