/- What is set for pods: contracts of package qos. -/
import Derived.Test.YthekalhceamcoaaQW6
import Derived.Test.YthekalhceamcoaaQMath2
import Derived.BigRegion
namespace Go.Proofs.Ythekalhceamcoaa
open Go.RowKit
open Qos (Nd Ct Pd nd0 ct0 pd0 nd ct pd classOf sumM sumB Mild shares quota lim Words pathOf sumTo)
set_option maxHeartbeats 400000 in
theorem shares_any (m : Int) (w : World) (h0 : 0 ≤ m) (h1 : m ≤ 1000000000) : Calls Try.prog 53 #[.int .i64 m] w fun e w' => e = .returned (.int .i64 (shares m)) ∧ w' = w := by
  have e1 : wrap64 (m * 1024) = m * 1024 := by unfold wrap64; omega
  have e2 : (m * 1024).tdiv 1000 = m * 1024 / 1000 := Int.tdiv_eq_ediv_of_nonneg (by omega)
  go_enter Try.func53, Try.ntmps53
  go_wp2_with fail
  go_ret
  exact ⟨rfl, rfl⟩
set_option maxHeartbeats 400000 in
theorem quota_any (m : Int) (w : World) (h0 : 0 ≤ m) (h1 : m ≤ 1000000000) : Calls Try.prog 55 #[.int .i64 m] w fun e w' => e = .returned (.int .i64 (quota m)) ∧ w' = w := by
  have e1 : wrap64 (m * 100) = m * 100 := by unfold wrap64; omega
  by_cases hm : m = 0
  · subst hm
    go_enter Try.func55, Try.ntmps55
    go_wp2_with fail
    go_ret
    exact ⟨rfl, rfl⟩
  · have hm' : (m == 0) = false := by simp [hm]
    go_enter Try.func55, Try.ntmps55
    go_wp2_with fail
    go_ret
    refine ⟨?_, rfl⟩
    unfold quota
    rw [if_neg hm]
    rfl
set_option maxHeartbeats 400000 in
theorem pick1_any (m b : Int) (w : World) : Calls Try.prog 142 #[.agg #[.int .i64 m, .int .i64 b]] w fun e w' => e = .returned (.int .i64 m) ∧ Below w.heap.size w w' := by
  have HB := hideIt ((Below.refl w.heap.size w).alloc (Nat.le_refl _) (.cells #[.int .i64 m, .int .i64 b] 89))
  go_enter Try.func142, Try.ntmps142
  go_wp2_with fail
  go_ret
  exact ⟨rfl, HB.out⟩
set_option maxRecDepth 100000 in
set_option maxHeartbeats 2000000 in
theorem limit1_any (p : Pd) (cv : Value) (w : World) (h : ConsAt w cv p.cs) (hmi : Mild p.cs) : Calls Try.prog 141 #[podV p cv, .func (.func 142) #[] #[]] w fun e w' => e = .returned (.int .i64 (lim Ct.cm p.cs)) ∧ Below w.heap.size w w' := by
  obtain ⟨ao, c, rfl, hm, hr⟩ := h
  have HR := hideIt hr
  clear hr hm
  unfold podV
  have HB0 := hideIt ((Below.refl w.heap.size w).alloc (Nat.le_refl _) (.cells #[.string p.nm, .int .i64 p.pr, .slice ao p.cs.length c] 60))
  generalize p.cs = cs at *
  have HMI := hideIt hmi
  have hlen := hmi.1
  clear hmi
  go_enter Try.func141, Try.ntmps141
  go_wp2_with fail
  go_loopw [5, 11] (fun s i wr => ∃ k : Nat, k ≤ cs.length ∧ i = .int .i64 k ∧ s = .int .i64 (sumTo (fun j => (ct cs j).cm) k) ∧ Below w.heap.size w wr ∧ Hid (Dvs.allTo (fun j => decide ((ct cs j).cm ≠ 0)) k = true)) (fun _ i _ => cs.length - (intOf i).toNat)
  case atStart => exact ⟨0, by omega, rfl, rfl, HB0.out, rfl⟩
  case round =>
    obtain ⟨k, hk, rfl, rfl, hB, HA⟩ := hrel
    by_cases hlt : k < cs.length
    · obtain ⟨b, o, dv, rfl, hin⟩ := HR.out (by omega)
      have hin := hin.below hB
      obtain ⟨c0, c1, c2, c3, c4, c5⟩ := hin.at hlt
      have hsl : ∃ a n e, dv k = .slice a n e := by
        obtain ⟨a, e, he, _⟩ := (hin.2 k hlt).2
        exact ⟨a, _, e, he⟩
      obtain ⟨da, dn, dc, hd⟩ := hsl
      rw [hd] at c5
      have HBa := hideIt (hB.alloc hB.size (.cells #[.string (ct cs k).nm, .int .i64 (ct cs k).am, .int .i64 (ct cs k).ab, .int .i64 (ct cs k).cm, .int .i64 (ct cs k).cb, .slice da dn dc] 94))
      have HXa := hideIt (BoxAt.made wr (ct cs k) (.slice da dn dc))
      obtain ⟨_, _, m3, m4, _⟩ := HMI.out.2 k hlt
      have hs0 := Qos.sumTo_nonneg (f := fun j => (ct cs j).cm) (n := k) (fun j hj => (HMI.out.2 j (by omega)).2.2.1.1)
      have hs1 := Qos.sumTo_most (f := fun j => (ct cs j).cm) (n := k) (B := 1125899906842624) (fun j hj => by have := (HMI.out.2 j (by omega)).2.2.1.2; omega)
      have hs2 : sumTo (fun j => (ct cs j).cm) k ≤ 3377699720527872 := by omega
      have HY := hideIt (@Dvs.allTo_yes (fun j => decide ((ct cs j).cm ≠ 0)) k HA.out)
      have HN := hideIt (@Dvs.allTo_no (fun j => decide ((ct cs j).cm ≠ 0)) k cs.length · hlt)
      have HST : Hid (sumTo (fun j => (ct cs j).cm) (k + 1) = sumTo (fun j => (ct cs j).cm) k + (ct cs k).cm) := rfl
      clear hin hd hs1 hB
      generalize sumTo (fun j => (ct cs j).cm) k = S at *
      generalize ct cs k = x at *
      have HW : wrap64 (S + x.cm) = S + x.cm := by unfold wrap64; omega
      by_cases hz : x.cm = 0
      · have HN' := hideIt (HN.out (by simp [hz]))
        have hzb : (x.cm == 0) = true := by simp [hz]
        clear HN HY hz
        go_wp2_with fail
        refine (pick1_any _ _ _).mono ?_
        rintro e w2 ⟨rfl, hb2⟩
        have HB2 := hideIt (HBa.out.trans (hb2.mono HBa.out.size))
        clear hb2
        go_wp2_with fail
        go_ret
        refine ⟨?_, HB2.out⟩
        unfold lim
        rw [if_neg (by rw [HN'.out]; decide)]
        rfl
      · have HY' := hideIt (HY.out (by simp [hz]))
        have hzb : (x.cm == 0) = false := by simp [hz]
        clear HN HY
        go_wp2_with fail
        refine (pick1_any _ _ _).mono ?_
        rintro e w2 ⟨rfl, hb2⟩
        have HB2 := hideIt (HBa.out.trans (hb2.mono HBa.out.size))
        obtain ⟨x0, x1, x2, x3, x4, x5, x6⟩ := HXa.out.below hb2
        clear hb2 HBa HXa
        go_wp2_with fail
        refine (pick1_any _ _ _).mono ?_
        rintro e w3 ⟨rfl, hb3⟩
        have HB3 := hideIt (HB2.out.trans (hb3.mono HB2.out.size))
        clear hb3 HB2
        go_wp2_with fail
        go_roundw
        case rel => exact ⟨k + 1, by omega, by go_num, by rw [HST.out], HB3.out, HY'⟩
        case measure => simp [intOf]; omega
    · have hke : k = cs.length := by omega
      subst hke
      have hB1 := hideIt hB
      clear hB
      go_wp2_with fail
      go_ret
      refine ⟨?_, hB1.out⟩
      unfold lim
      rw [if_pos HA.out]
      rfl
set_option maxHeartbeats 400000 in
theorem pick2_any (m b : Int) (w : World) : Calls Try.prog 143 #[.agg #[.int .i64 m, .int .i64 b]] w fun e w' => e = .returned (.int .i64 b) ∧ Below w.heap.size w w' := by
  have HB := hideIt ((Below.refl w.heap.size w).alloc (Nat.le_refl _) (.cells #[.int .i64 m, .int .i64 b] 89))
  go_enter Try.func143, Try.ntmps143
  go_wp2_with fail
  go_ret
  exact ⟨rfl, HB.out⟩
set_option maxRecDepth 100000 in
set_option maxHeartbeats 2000000 in
theorem limit2_any (p : Pd) (cv : Value) (w : World) (h : ConsAt w cv p.cs) (hmi : Mild p.cs) : Calls Try.prog 141 #[podV p cv, .func (.func 143) #[] #[]] w fun e w' => e = .returned (.int .i64 (lim Ct.cb p.cs)) ∧ Below w.heap.size w w' := by
  obtain ⟨ao, c, rfl, hm, hr⟩ := h
  have HR := hideIt hr
  clear hr hm
  unfold podV
  have HB0 := hideIt ((Below.refl w.heap.size w).alloc (Nat.le_refl _) (.cells #[.string p.nm, .int .i64 p.pr, .slice ao p.cs.length c] 60))
  generalize p.cs = cs at *
  have HMI := hideIt hmi
  have hlen := hmi.1
  clear hmi
  go_enter Try.func141, Try.ntmps141
  go_wp2_with fail
  go_loopw [5, 11] (fun s i wr => ∃ k : Nat, k ≤ cs.length ∧ i = .int .i64 k ∧ s = .int .i64 (sumTo (fun j => (ct cs j).cb) k) ∧ Below w.heap.size w wr ∧ Hid (Dvs.allTo (fun j => decide ((ct cs j).cb ≠ 0)) k = true)) (fun _ i _ => cs.length - (intOf i).toNat)
  case atStart => exact ⟨0, by omega, rfl, rfl, HB0.out, rfl⟩
  case round =>
    obtain ⟨k, hk, rfl, rfl, hB, HA⟩ := hrel
    by_cases hlt : k < cs.length
    · obtain ⟨b, o, dv, rfl, hin⟩ := HR.out (by omega)
      have hin := hin.below hB
      obtain ⟨c0, c1, c2, c3, c4, c5⟩ := hin.at hlt
      have hsl : ∃ a n e, dv k = .slice a n e := by
        obtain ⟨a, e, he, _⟩ := (hin.2 k hlt).2
        exact ⟨a, _, e, he⟩
      obtain ⟨da, dn, dc, hd⟩ := hsl
      rw [hd] at c5
      have HBa := hideIt (hB.alloc hB.size (.cells #[.string (ct cs k).nm, .int .i64 (ct cs k).am, .int .i64 (ct cs k).ab, .int .i64 (ct cs k).cm, .int .i64 (ct cs k).cb, .slice da dn dc] 94))
      have HXa := hideIt (BoxAt.made wr (ct cs k) (.slice da dn dc))
      obtain ⟨_, _, m3, m4, _⟩ := HMI.out.2 k hlt
      have hs0 := Qos.sumTo_nonneg (f := fun j => (ct cs j).cb) (n := k) (fun j hj => (HMI.out.2 j (by omega)).2.2.2.1.1)
      have hs1 := Qos.sumTo_most (f := fun j => (ct cs j).cb) (n := k) (B := 1125899906842624) (fun j hj => by have := (HMI.out.2 j (by omega)).2.2.2.1.2; omega)
      have hs2 : sumTo (fun j => (ct cs j).cb) k ≤ 3377699720527872 := by omega
      have HY := hideIt (@Dvs.allTo_yes (fun j => decide ((ct cs j).cb ≠ 0)) k HA.out)
      have HN := hideIt (@Dvs.allTo_no (fun j => decide ((ct cs j).cb ≠ 0)) k cs.length · hlt)
      have HST : Hid (sumTo (fun j => (ct cs j).cb) (k + 1) = sumTo (fun j => (ct cs j).cb) k + (ct cs k).cb) := rfl
      clear hin hd hs1 hB
      generalize sumTo (fun j => (ct cs j).cb) k = S at *
      generalize ct cs k = x at *
      have HW : wrap64 (S + x.cb) = S + x.cb := by unfold wrap64; omega
      by_cases hz : x.cb = 0
      · have HN' := hideIt (HN.out (by simp [hz]))
        have hzb : (x.cb == 0) = true := by simp [hz]
        clear HN HY hz
        go_wp2_with fail
        refine (pick2_any _ _ _).mono ?_
        rintro e w2 ⟨rfl, hb2⟩
        have HB2 := hideIt (HBa.out.trans (hb2.mono HBa.out.size))
        clear hb2
        go_wp2_with fail
        go_ret
        refine ⟨?_, HB2.out⟩
        unfold lim
        rw [if_neg (by rw [HN'.out]; decide)]
        rfl
      · have HY' := hideIt (HY.out (by simp [hz]))
        have hzb : (x.cb == 0) = false := by simp [hz]
        clear HN HY
        go_wp2_with fail
        refine (pick2_any _ _ _).mono ?_
        rintro e w2 ⟨rfl, hb2⟩
        have HB2 := hideIt (HBa.out.trans (hb2.mono HBa.out.size))
        obtain ⟨x0, x1, x2, x3, x4, x5, x6⟩ := HXa.out.below hb2
        clear hb2 HBa HXa
        go_wp2_with fail
        refine (pick2_any _ _ _).mono ?_
        rintro e w3 ⟨rfl, hb3⟩
        have HB3 := hideIt (HB2.out.trans (hb3.mono HB2.out.size))
        clear hb3 HB2
        go_wp2_with fail
        go_roundw
        case rel => exact ⟨k + 1, by omega, by go_num, by rw [HST.out], HB3.out, HY'⟩
        case measure => simp [intOf]; omega
    · have hke : k = cs.length := by omega
      subst hke
      have hB1 := hideIt hB
      clear hB
      go_wp2_with fail
      go_ret
      refine ⟨?_, hB1.out⟩
      unfold lim
      rw [if_pos HA.out]
      rfl
end Go.Proofs.Ythekalhceamcoaa
