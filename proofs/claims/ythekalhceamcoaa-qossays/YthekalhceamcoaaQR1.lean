/- The document's own answers about pods: small contracts of package ostleryref. -/
import Derived.Test.YthekalhceamcoaaQW6
import Derived.Test.YthekalhceamcoaaQMath2
namespace Go.Proofs.Ythekalhceamcoaa
open Go.RowKit
open Qos (Nd Ct Pd nd0 ct0 pd0 nd ct pd silent certain classOf quiet sure sumM sumB Mild ownOf shares quota amtOk pathOf)
def amtN (m b : Int) : Int := if amtOk m b = true then 0 else 1
set_option maxHeartbeats 400000 in
theorem amountFault_any (m b : Int) (w : World) : Calls Try.prog 100 #[.agg #[.int .i64 m, .int .i64 b]] w fun e w' => e = .returned (.int .i64 (amtN m b)) ∧ Below w.heap.size w w' := by
  have HB := hideIt ((Below.refl w.heap.size w).alloc (Nat.le_refl _) (.cells #[.int .i64 m, .int .i64 b] 89))
  have key : m < 0 ∨ (¬ m < 0 ∧ 1000000 < m) ∨ (¬ m < 0 ∧ ¬ 1000000 < m ∧ b < 0) ∨ (¬ m < 0 ∧ ¬ 1000000 < m ∧ ¬ b < 0 ∧ 1125899906842624 < b) ∨ (¬ m < 0 ∧ ¬ 1000000 < m ∧ ¬ b < 0 ∧ ¬ 1125899906842624 < b) := by omega
  rcases key with h1 | ⟨h1, h2⟩ | ⟨h1, h2, h3⟩ | ⟨h1, h2, h3, h4⟩ | ⟨h1, h2, h3, h4⟩
  · have ha := hideIt (show amtOk m b = false by unfold amtOk; simp; omega)
    go_enter Try.func100, Try.ntmps100
    go_wp2_with fail
    go_ret
    exact ⟨by unfold amtN; rw [ha.out]; rfl, HB.out⟩
  · have ha := hideIt (show amtOk m b = false by unfold amtOk; simp; omega)
    go_enter Try.func100, Try.ntmps100
    go_wp2_with fail
    go_ret
    exact ⟨by unfold amtN; rw [ha.out]; rfl, HB.out⟩
  · have ha := hideIt (show amtOk m b = false by unfold amtOk; simp; omega)
    go_enter Try.func100, Try.ntmps100
    go_wp2_with fail
    go_ret
    exact ⟨by unfold amtN; rw [ha.out]; rfl, HB.out⟩
  · have ha := hideIt (show amtOk m b = false by unfold amtOk; simp; omega)
    go_enter Try.func100, Try.ntmps100
    go_wp2_with fail
    go_ret
    exact ⟨by unfold amtN; rw [ha.out]; rfl, HB.out⟩
  · have ha := hideIt (show amtOk m b = true by unfold amtOk; simp; omega)
    go_enter Try.func100, Try.ntmps100
    go_wp2_with fail
    go_ret
    exact ⟨by unfold amtN; rw [ha.out]; rfl, HB.out⟩
set_option maxHeartbeats 400000 in
theorem refShares_any (m : Int) (w : World) (h0 : 0 ≤ m) (h1 : m ≤ 1000000000) : Calls Try.prog 54 #[.int .i64 m] w fun e w' => e = .returned (.int .i64 (shares m)) ∧ w' = w := by
  have e1 : wrap64 (m * 1024) = m * 1024 := by unfold wrap64; omega
  have e2 : (m * 1024).tdiv 1000 = m * 1024 / 1000 := Int.tdiv_eq_ediv_of_nonneg (by omega)
  have HS : Hid (shares m = min (max (m * 1024 / 1000) 2) 262144) := rfl
  generalize shares m = S at *
  have hw : wrap64 (m * 1024 / 1000) = m * 1024 / 1000 := by unfold wrap64; omega
  have key : m * 1024 / 1000 < 2 ∨ (¬ m * 1024 / 1000 < 2 ∧ 262144 < m * 1024 / 1000) ∨ (¬ m * 1024 / 1000 < 2 ∧ ¬ 262144 < m * 1024 / 1000) := by omega
  rcases key with k1 | ⟨k1, k2⟩ | ⟨k1, k2⟩
  · have HE := hideIt (HS.out.trans (show _ = (2 : Int) by omega))
    clear HS
    go_enter Try.func54, Try.ntmps54
    go_wp2_with fail
    go_ret
    exact ⟨by rw [HE.out]; rfl, rfl⟩
  · have HE := hideIt (HS.out.trans (show _ = (262144 : Int) by omega))
    clear HS
    go_enter Try.func54, Try.ntmps54
    go_wp2_with fail
    go_ret
    exact ⟨by rw [HE.out]; rfl, rfl⟩
  · have HE := hideIt (HS.out.trans (show _ = m * 1024 / 1000 by omega))
    clear HS
    go_enter Try.func54, Try.ntmps54
    go_wp2_with fail
    go_ret
    exact ⟨by rw [HE.out]; rfl, rfl⟩
set_option maxHeartbeats 400000 in
theorem refQuota_any (m : Int) (w : World) (h0 : 0 ≤ m) (h1 : m ≤ 1000000000) : Calls Try.prog 56 #[.int .i64 m] w fun e w' => e = .returned (.int .i64 (quota m)) ∧ w' = w := by
  have e1 : wrap64 (100 * m) = 100 * m := by unfold wrap64; omega
  have HS : Hid (quota m = if m = 0 then -1 else max (m * 100) 1000) := rfl
  generalize quota m = S at *
  by_cases hm : m = 0
  · subst hm
    have HE := hideIt (HS.out.trans (if_pos rfl))
    clear HS
    go_enter Try.func56, Try.ntmps56
    go_wp2_with fail
    go_ret
    exact ⟨by rw [HE.out]; rfl, rfl⟩
  · have hm' : (m == 0) = false := by simp [hm]
    have HS := hideIt (HS.out.trans (if_neg hm))
    by_cases h10 : m < 10
    · have HE := hideIt (HS.out.trans (show _ = (1000 : Int) by omega))
      clear HS
      go_enter Try.func56, Try.ntmps56
      go_wp2_with fail
      go_ret
      exact ⟨by rw [HE.out]; rfl, rfl⟩
    · have HE := hideIt (HS.out.trans (show _ = 100 * m by omega))
      clear HS
      go_enter Try.func56, Try.ntmps56
      go_wp2_with fail
      go_ret
      exact ⟨by rw [HE.out]; rfl, rfl⟩
set_option maxRecDepth 100000 in
set_option maxHeartbeats 2000000 in
theorem refClass_any (p : Pd) (cv : Value) (w : World) (h : ConsAt w cv p.cs) (hmi : Mild p.cs) : Calls Try.prog 48 #[podV p cv] w fun e w' => e = .returned (.int .i64 (classOf p.cs)) ∧ Below w.heap.size w w' := by
  obtain ⟨ao, c, rfl, hm, hr⟩ := h
  have HR := hideIt hr
  clear hr hm
  unfold podV
  have HB0 := hideIt ((Below.refl w.heap.size w).alloc (Nat.le_refl _) (.cells #[.string p.nm, .int .i64 p.pr, .slice ao p.cs.length c] 60))
  have HP0 := hideIt (PBoxAt.made w p (.slice ao p.cs.length c))
  have HMI := hideIt hmi
  have hlen := hmi.1
  clear hmi
  go_enter Try.func48, Try.ntmps48
  go_wp2_with fail
  go_loopw [3, 4, 5] (fun s r i wr => ∃ k : Nat, k ≤ p.cs.length ∧ i = .int .i64 k ∧ s = .bool (silent p.cs k) ∧ r = .bool (certain p.cs k) ∧ Below w.heap.size w wr ∧ PBoxAt wr w.heap.size p (.slice ao p.cs.length c)) (fun _ _ i _ => p.cs.length - (intOf i).toNat)
  case atStart => exact ⟨0, by omega, rfl, rfl, rfl, HB0.out, HP0.out⟩
  case round =>
    obtain ⟨k, hk, rfl, rfl, rfl, hB, hP⟩ := hrel
    clear HB0 HP0
    by_cases hlt : k < p.cs.length
    · obtain ⟨b, o, dv, rfl, hin⟩ := HR.out (by omega)
      have hin := hin.below hB
      obtain ⟨c0, c1, c2, c3, c4, c5⟩ := hin.at hlt
      have hsl : ∃ a n e, dv k = .slice a n e := by
        obtain ⟨a, e, he, _⟩ := (hin.2 k hlt).2
        exact ⟨a, _, e, he⟩
      obtain ⟨da, dn, dc, hd⟩ := hsl
      rw [hd] at c5
      have hba := (Below.refl wr.heap.size wr).alloc (Nat.le_refl _) (.cells #[.string (ct p.cs k).nm, .int .i64 (ct p.cs k).am, .int .i64 (ct p.cs k).ab, .int .i64 (ct p.cs k).cm, .int .i64 (ct p.cs k).cb, .slice da dn dc] 94)
      have HBa := hideIt (hB.trans (hba.mono hB.size))
      have HPa := hideIt (hP.below hba)
      have HS : Hid (silent p.cs (k + 1) = (silent p.cs k && quiet (ct p.cs k))) := rfl
      have HC : Hid (certain p.cs (k + 1) = (certain p.cs k && sure (ct p.cs k))) := rfl
      obtain ⟨⟨m1, _⟩, ⟨m2, _⟩, ⟨m3, _⟩, ⟨m4, _⟩, _⟩ := HMI.out.2 k hlt
      obtain ⟨q0, q1, q2, q3⟩ := hP
      clear hin hB hba hd
      generalize ct p.cs k = x at *
      generalize silent p.cs k = s at *
      generalize certain p.cs k = r at *
      obtain ⟨nm, am, ab, cm, cb, ds⟩ := x
      dsimp only at *
      have key : (0 < am ∧ 0 < ab ∧ cm = am ∧ cb = ab) ∨ (0 < am ∧ 0 < ab ∧ ¬ am = cm) ∨ (0 < am ∧ 0 < ab ∧ cm = am ∧ ¬ ab = cb) ∨ (0 < am ∧ ab = 0) ∨ (am = 0 ∧ 0 < ab) ∨ (am = 0 ∧ ab = 0 ∧ 0 < cm) ∨ (am = 0 ∧ ab = 0 ∧ cm = 0 ∧ 0 < cb) ∨ (am = 0 ∧ ab = 0 ∧ cm = 0 ∧ cb = 0) := by omega
      rcases key with ⟨g1, g2, rfl, rfl⟩ | ⟨g1, g2, g3⟩ | ⟨g1, g2, rfl, g4⟩ | ⟨g1, rfl⟩ | ⟨rfl, g2⟩ | ⟨rfl, rfl, g3⟩ | ⟨rfl, rfl, rfl, g4⟩ | ⟨rfl, rfl, rfl, rfl⟩
      · have z1 : (cm == 0) = false := by simp; omega
        have z2 : (cb == 0) = false := by simp; omega
        have HQ := hideIt (show quiet ⟨nm, cm, cb, cm, cb, ds⟩ = false by unfold quiet; simp; omega)
        have HU := hideIt (show sure ⟨nm, cm, cb, cm, cb, ds⟩ = true by unfold sure; simp; omega)
        go_wp2_with fail
        go_roundw
        case rel => exact ⟨k + 1, by omega, by go_num, by rw [HS.out, HQ.out, Bool.and_false], by rw [HC.out, HU.out, Bool.and_true], HBa.out, HPa.out⟩
        case measure => simp [intOf]; omega
      · have z1 : (am == 0) = false := by simp; omega
        have z2 : (ab == 0) = false := by simp; omega
        have HQ := hideIt (show quiet ⟨nm, am, ab, cm, cb, ds⟩ = false by unfold quiet; simp; omega)
        have HU := hideIt (show sure ⟨nm, am, ab, cm, cb, ds⟩ = false by unfold sure; simp; omega)
        go_wp2_with fail
        go_roundw
        case rel => exact ⟨k + 1, by omega, by go_num, by rw [HS.out, HQ.out, Bool.and_false], by rw [HC.out, HU.out, Bool.and_false], HBa.out, HPa.out⟩
        case measure => simp [intOf]; omega
      · have z1 : (cm == 0) = false := by simp; omega
        have z2 : (ab == 0) = false := by simp; omega
        have HQ := hideIt (show quiet ⟨nm, cm, ab, cm, cb, ds⟩ = false by unfold quiet; simp; omega)
        have HU := hideIt (show sure ⟨nm, cm, ab, cm, cb, ds⟩ = false by unfold sure; simp; omega)
        go_wp2_with fail
        go_roundw
        case rel => exact ⟨k + 1, by omega, by go_num, by rw [HS.out, HQ.out, Bool.and_false], by rw [HC.out, HU.out, Bool.and_false], HBa.out, HPa.out⟩
        case measure => simp [intOf]; omega
      · have z1 : (am == 0) = false := by simp; omega
        have HQ := hideIt (show quiet ⟨nm, am, 0, cm, cb, ds⟩ = false by unfold quiet; simp; omega)
        have HU := hideIt (show sure ⟨nm, am, 0, cm, cb, ds⟩ = false by unfold sure; simp)
        go_wp2_with fail
        go_roundw
        case rel => exact ⟨k + 1, by omega, by go_num, by rw [HS.out, HQ.out, Bool.and_false], by rw [HC.out, HU.out, Bool.and_false], HBa.out, HPa.out⟩
        case measure => simp [intOf]; omega
      · have HQ := hideIt (show quiet ⟨nm, 0, ab, cm, cb, ds⟩ = false by unfold quiet; simp; omega)
        have HU := hideIt (show sure ⟨nm, 0, ab, cm, cb, ds⟩ = false by unfold sure; simp)
        go_wp2_with fail
        go_roundw
        case rel => exact ⟨k + 1, by omega, by go_num, by rw [HS.out, HQ.out, Bool.and_false], by rw [HC.out, HU.out, Bool.and_false], HBa.out, HPa.out⟩
        case measure => simp [intOf]; omega
      · have HQ := hideIt (show quiet ⟨nm, 0, 0, cm, cb, ds⟩ = false by unfold quiet; simp; omega)
        have HU := hideIt (show sure ⟨nm, 0, 0, cm, cb, ds⟩ = false by unfold sure; simp)
        go_wp2_with fail
        go_roundw
        case rel => exact ⟨k + 1, by omega, by go_num, by rw [HS.out, HQ.out, Bool.and_false], by rw [HC.out, HU.out, Bool.and_false], HBa.out, HPa.out⟩
        case measure => simp [intOf]; omega
      · have HQ := hideIt (show quiet ⟨nm, 0, 0, 0, cb, ds⟩ = false by unfold quiet; simp; omega)
        have HU := hideIt (show sure ⟨nm, 0, 0, 0, cb, ds⟩ = false by unfold sure; simp)
        go_wp2_with fail
        go_roundw
        case rel => exact ⟨k + 1, by omega, by go_num, by rw [HS.out, HQ.out, Bool.and_false], by rw [HC.out, HU.out, Bool.and_false], HBa.out, HPa.out⟩
        case measure => simp [intOf]; omega
      · have HQ := hideIt (show quiet ⟨nm, 0, 0, 0, 0, ds⟩ = true by unfold quiet; simp)
        have HU := hideIt (show sure ⟨nm, 0, 0, 0, 0, ds⟩ = false by unfold sure; simp)
        go_wp2_with fail
        go_roundw
        case rel => exact ⟨k + 1, by omega, by go_num, by rw [HS.out, HQ.out, Bool.and_true], by rw [HC.out, HU.out, Bool.and_false], HBa.out, HPa.out⟩
        case measure => simp [intOf]; omega
    · have hke : k = p.cs.length := by omega
      subst hke
      have hB1 := hideIt hB
      have HC : Hid (classOf p.cs = if silent p.cs p.cs.length = true then 1 else if certain p.cs p.cs.length = true then 3 else 2) := rfl
      obtain ⟨q0, q1, q2, q3⟩ := hP
      clear hB
      rcases two (silent p.cs p.cs.length) with e1 | e1
      · rw [e1]
        rw [e1] at HC
        go_wp2_with fail
        go_ret
        exact ⟨by rw [HC.out]; rfl, hB1.out⟩
      · rcases two (certain p.cs p.cs.length) with e2 | e2
        all_goals
          rw [e1, e2]
          rw [e1, e2] at HC
          go_wp2_with fail
          go_ret
          exact ⟨by rw [HC.out]; rfl, hB1.out⟩
end Go.Proofs.Ythekalhceamcoaa
