/- The document's own answers about pods: contracts of package ostleryref. -/
import Derived.Test.YthekalhceamcoaaQR1
import Derived.Test.YthekalhceamcoaaQG2
import Derived.BigRegion
namespace Go.Proofs.Ythekalhceamcoaa
open Go.RowKit
open Qos (Nd Ct Pd nd0 ct0 pd0 nd ct pd silent certain classOf quiet sure sumM sumB Mild ownOf shares quota amtOk pathOf)
set_option maxRecDepth 100000 in
set_option maxHeartbeats 2000000 in
theorem refOwn_any (p : Pd) (cv : Value) (x : Ct) (da : Option Addr) (dn dc : Nat) (w : World) (h : ConsAt w cv p.cs) (hmi : Mild p.cs) (h0 : 0 ≤ x.am) (h1 : x.am ≤ 1000000) :
    Calls Try.prog 52 #[podV p cv, .agg #[.string x.nm, .int .i64 x.am, .int .i64 x.ab, .int .i64 x.cm, .int .i64 x.cb, .slice da dn dc]] w fun e w' => e = .returned (.int .i64 (ownOf p.cs x.am)) ∧ Below w.heap.size w w' := by
  have hs := h.slice
  unfold podV
  have HB0 := hideIt (((Below.refl w.heap.size w).alloc (Nat.le_refl _) (.cells #[.string p.nm, .int .i64 p.pr, cv] 60)).alloc (by simp) (.cells #[.string x.nm, .int .i64 x.am, .int .i64 x.ab, .int .i64 x.cm, .int .i64 x.cb, .slice da dn dc] 94))
  have HX := BoxAt.made (w.alloc (.cells #[.string p.nm, .int .i64 p.pr, cv] 60)) x (.slice da dn dc)
  rw [show (w.alloc (.cells #[.string p.nm, .int .i64 p.pr, cv] 60)).heap.size = w.heap.size + 1 by simp] at HX
  have HX := hideIt HX
  have HC := hideIt (refClass_any p cv _ (h.below HB0.out) hmi)
  have e1 : x.am.tmod 1000 = x.am % 1000 := Int.tmod_eq_emod_of_nonneg h0
  have e2 : x.am.tdiv 1000 = x.am / 1000 := Int.tdiv_eq_ediv_of_nonneg h0
  have HO : Hid (ownOf p.cs x.am = if classOf p.cs = 3 ∧ x.am % 1000 = 0 then x.am / 1000 else 0) := rfl
  unfold podV at HC
  obtain ⟨pa, pn, pc, rfl⟩ := hs
  generalize classOf p.cs = K at *
  generalize ownOf p.cs x.am = R at *
  clear h
  by_cases hk : K = 3
  · subst hk
    by_cases hm : x.am % 1000 = 0
    · have hm' : (x.am % 1000 == 0) = true := by simp [hm]
      have HO' := hideIt (HO.out.trans (if_pos ⟨rfl, hm⟩))
      clear HO
      go_enter Try.func52, Try.ntmps52
      go_wp2_with fail
      refine HC.out.mono ?_
      rintro e w1 ⟨rfl, hb1⟩
      obtain ⟨l0, b0, b1, _⟩ := HX.out.below hb1
      have HB1 := hideIt (HB0.out.trans (hb1.mono HB0.out.size))
      clear hb1 HX HB0
      go_wp2_with fail
      go_ret
      exact ⟨by rw [HO'.out]; rfl, HB1.out⟩
    · have hm' : (x.am % 1000 == 0) = false := by simp [hm]
      have HO' := hideIt (HO.out.trans (if_neg (fun h => hm h.2)))
      clear HO
      go_enter Try.func52, Try.ntmps52
      go_wp2_with fail
      refine HC.out.mono ?_
      rintro e w1 ⟨rfl, hb1⟩
      obtain ⟨l0, b0, b1, _⟩ := HX.out.below hb1
      have HB1 := hideIt (HB0.out.trans (hb1.mono HB0.out.size))
      clear hb1 HX HB0
      go_wp2_with fail
      go_ret
      exact ⟨by rw [HO'.out]; rfl, HB1.out⟩
  · have hkb : (K == 3) = false := by simp [hk]
    have HO' := hideIt (HO.out.trans (if_neg (fun h => hk h.1)))
    clear HO
    go_enter Try.func52, Try.ntmps52
    go_wp2_with fail
    refine HC.out.mono ?_
    rintro e w1 ⟨rfl, hb1⟩
    obtain ⟨l0, b0, b1, _⟩ := HX.out.below hb1
    have HB1 := hideIt (HB0.out.trans (hb1.mono HB0.out.size))
    clear hb1 HX HB0
    go_wp2_with fail
    go_ret
    exact ⟨by rw [HO'.out]; rfl, HB1.out⟩
set_option maxRecDepth 100000 in
set_option maxHeartbeats 2000000 in
theorem refPath_any (p : Pd) (cv : Value) (w : World) (h : ConsAt w cv p.cs) (hmi : Mild p.cs) (hn : p.nm.size ≤ 1000) : Calls Try.prog 106 #[podV p cv] w fun e w' => e = .returned (.string (pathOf words p)) ∧ Below w.heap.size w w' := by
  have hs := h.slice
  unfold podV
  have HB0 := hideIt ((Below.refl w.heap.size w).alloc (Nat.le_refl _) (.cells #[.string p.nm, .int .i64 p.pr, cv] 60))
  have HP := hideIt (PBoxAt.made w p cv)
  have HC := hideIt (refClass_any p cv _ (h.below HB0.out) hmi)
  unfold podV at HC
  obtain ⟨pa, pn, pc, rfl⟩ := hs
  have hcl := Qos.class_in p.cs
  have HPA : Hid (pathOf words p = if classOf p.cs = 1 then words.low ++ p.nm else if classOf p.cs = 2 then words.mid ++ p.nm else words.sep ++ p.nm) := rfl
  generalize classOf p.cs = K at *
  generalize pathOf words p = PA at *
  clear h
  rcases hcl with rfl | rfl | rfl
  all_goals
    rw [HPA.out]
    clear HPA
    go_enter Try.func106, Try.ntmps106
    go_wp2_with fail
    refine HC.out.mono ?_
    rintro e w1 ⟨rfl, hb1⟩
    obtain ⟨q0, q1, q2, q3⟩ := HP.out.below hb1
    have HB1 := hideIt (HB0.out.trans (hb1.mono HB0.out.size))
    clear hb1 HP HB0 HC
    go_wp2_with fail
    go_ret
    exact ⟨rfl, HB1.out⟩
set_option maxRecDepth 100000 in
set_option maxHeartbeats 2000000 in
theorem asked_any (p : Pd) (cv : Value) (w : World) (h : ConsAt w cv p.cs) (hmi : Mild p.cs) : Calls Try.prog 50 #[podV p cv] w fun e w' => e = .returned (.agg #[.int .i64 (sumM p.cs p.cs.length), .int .i64 (sumB p.cs p.cs.length)]) ∧ Below w.heap.size w w' := by
  obtain ⟨ao, c, rfl, hm, hr⟩ := h
  have HR := hideIt hr
  clear hr hm
  unfold podV
  have HB0 := hideIt ((((Below.refl w.heap.size w).alloc (Nat.le_refl _) (.cells #[.string p.nm, .int .i64 p.pr, .slice ao p.cs.length c] 60)).alloc (by simp) (.cells #[.int .i64 0, .int .i64 0] 89)).alloc (by simp; omega) (.cells #[.int .i64 0, .int .i64 0] 89))
  have HP0 := hideIt (((PBoxAt.made w p (.slice ao p.cs.length c)).alloc (.cells #[.int .i64 0, .int .i64 0] 89)).alloc (.cells #[.int .i64 0, .int .i64 0] 89))
  have HT0 : Hid (TwoAt (((w.alloc (.cells #[.string p.nm, .int .i64 p.pr, .slice ao p.cs.length c] 60)).alloc (.cells #[.int .i64 0, .int .i64 0] 89)).alloc (.cells #[.int .i64 0, .int .i64 0] 89)) (w.heap.size + 1) 0 0 ∧ TwoAt (((w.alloc (.cells #[.string p.nm, .int .i64 p.pr, .slice ao p.cs.length c] 60)).alloc (.cells #[.int .i64 0, .int .i64 0] 89)).alloc (.cells #[.int .i64 0, .int .i64 0] 89)) (w.heap.size + 1 + 1) 0 0) := by
    constructor
    · have := (TwoAt.made (w.alloc (.cells #[.string p.nm, .int .i64 p.pr, .slice ao p.cs.length c] 60)) 89 0 0).alloc (.cells #[.int .i64 0, .int .i64 0] 89)
      simpa using this
    · have := TwoAt.made ((w.alloc (.cells #[.string p.nm, .int .i64 p.pr, .slice ao p.cs.length c] 60)).alloc (.cells #[.int .i64 0, .int .i64 0] 89)) 89 0 0
      simpa using this
  have HMI := hideIt hmi
  have hlen := hmi.1
  clear hmi
  go_enter Try.func50, Try.ntmps50
  go_wp2_with fail
  go_loopw [4] (fun i wr => ∃ k : Nat, k ≤ p.cs.length ∧ i = .int .i64 k ∧ Below w.heap.size w wr ∧ PBoxAt wr w.heap.size p (.slice ao p.cs.length c) ∧ TwoAt wr (w.heap.size + 1) 0 0 ∧ TwoAt wr (w.heap.size + 1 + 1) (sumM p.cs k) (sumB p.cs k)) (fun i _ => p.cs.length - (intOf i).toNat)
  case atStart => exact ⟨0, by omega, rfl, HB0.out, HP0.out, HT0.out.1, HT0.out.2⟩
  case round =>
    obtain ⟨k, hk, rfl, hB, hP, hT1, hT2⟩ := hrel
    clear HB0 HP0 HT0
    by_cases hlt : k < p.cs.length
    · obtain ⟨b, o, dv, rfl, hin⟩ := HR.out (by omega)
      have hin := hin.below hB
      have hbw : b < w.heap.size := by
        obtain ⟨b', o', dv', e, hi'⟩ := HR.out (by omega)
        cases e
        exact hi'.1
      obtain ⟨c0, c1, c2, c3, c4, c5⟩ := hin.at hlt
      have HS1 : Hid (sumM p.cs (k + 1) = sumM p.cs k + (ct p.cs k).am) := rfl
      have HS2 : Hid (sumB p.cs (k + 1) = sumB p.cs k + (ct p.cs k).ab) := rfl
      obtain ⟨m1, m2, _⟩ := HMI.out.2 k hlt
      obtain ⟨s1, s2⟩ := Qos.sumM_in HMI.out hk
      obtain ⟨s3, s4⟩ := Qos.sumB_in HMI.out hk
      generalize sumM p.cs k = M at *
      generalize sumB p.cs k = N at *
      generalize ct p.cs k = x at *
      have e1 : wrap64 (M + x.am) = M + x.am := by unfold wrap64; omega
      have e2 : wrap64 (N + x.ab) = N + x.ab := by unfold wrap64; omega
      have hz := hB.size
      have hg := grown_setCell wr ⟨w.heap.size + 1 + 1, 0, none⟩ (.int .i64 (M + x.am))
      have HB5 := hideIt (below_drew' (below_set2 hB (w.heap.size + 1 + 1) 0 (.int .i64 (M + x.am)) (by omega) hz))
      have hbd := below_drew' (Below.refl (wr.setCell ⟨w.heap.size + 1 + 1, 0, none⟩ (.int .i64 (M + x.am))).heap.size (wr.setCell ⟨w.heap.size + 1 + 1, 0, none⟩ (.int .i64 (M + x.am))))
      have HP5 := hideIt ((hP.kept hg (by simp; omega)).below hbd)
      have HT5 := hideIt ((hT1.kept hg (by simp)).below hbd)
      have HU5 := hideIt ((hT2.set0 (M + x.am)).below hbd)
      have d2 := ((hbd.cell (p := ⟨b, o + k * 6 + 2, none⟩) (by simpa using hin.1)).trans (hg.cell_far ⟨b, o + k * 6 + 2, none⟩ hin.1 (by simp; omega))).trans c2
      obtain ⟨q0, q1, q2, q3⟩ := hP
      obtain ⟨⟨f1, f2⟩, ⟨f3, f4⟩⟩ := hT2
      clear hin hB hT1 hbd c0 c2 c3 c4 c5 q1 q2 hg
      go_wp2_with fail
      go_region
      clear f1 f2 f3 f4 q0 q3 c1
      generalize (wr.setCell ⟨w.heap.size + 1 + 1, 0, none⟩ (.int .i64 (M + x.am))).drew = W5 at *
      have hz5 := HB5.out.size
      have hg := grown_setCell W5 ⟨w.heap.size + 1 + 1, 1, none⟩ (.int .i64 (N + x.ab))
      have HB6 := hideIt (below_drew' (below_set2 HB5.out (w.heap.size + 1 + 1) 1 (.int .i64 (N + x.ab)) (by omega) hz5))
      have hbd := below_drew' (Below.refl (W5.setCell ⟨w.heap.size + 1 + 1, 1, none⟩ (.int .i64 (N + x.ab))).heap.size (W5.setCell ⟨w.heap.size + 1 + 1, 1, none⟩ (.int .i64 (N + x.ab))))
      have HP6 := hideIt ((HP5.out.kept hg (by simp; omega)).below hbd)
      have HT6 := hideIt ((HT5.out.kept hg (by simp)).below hbd)
      have HU6 := hideIt ((HU5.out.set1 (N + x.ab)).below hbd)
      obtain ⟨q0, q1, q2, q3⟩ := HP5.out
      obtain ⟨⟨f1, f2⟩, ⟨f3, f4⟩⟩ := HU5.out
      clear hbd hg q1 q2
      go_wp2_with fail
      go_region
      go_wp2_with fail
      go_roundw
      case rel => exact ⟨k + 1, by omega, by go_num, HB6.out, HP6.out, HT6.out, by rw [HS1.out, HS2.out]; exact HU6.out⟩
      case measure => simp [intOf]; omega
    · have hke : k = p.cs.length := by omega
      subst hke
      have hz := hB.size
      have HB1 := hideIt (below_set2 (below_set2 hB (w.heap.size + 1) 0 (.int .i64 (sumM p.cs p.cs.length)) (by omega) hz) (w.heap.size + 1) 1 (.int .i64 (sumB p.cs p.cs.length)) (by omega) (by simpa using hz))
      have HT3 := hideIt ((hT1.set0 (sumM p.cs p.cs.length)).set1 (sumB p.cs p.cs.length))
      obtain ⟨⟨f1, f2⟩, ⟨f3, f4⟩⟩ := hT1
      obtain ⟨⟨g1, g2⟩, ⟨g3, g4⟩⟩ := hT2
      obtain ⟨q0, q1, q2, q3⟩ := hP
      clear hB
      go_wp2_with fail
      (try simp only [Exit.inBlock, Exit.then])
      refine bodyPost_ret (v := .agg #[.int .i64 (sumM p.cs p.cs.length), .int .i64 (sumB p.cs p.cs.length)]) ?_ rfl ⟨rfl, HB1.out⟩
      obtain ⟨⟨g1, g2⟩, ⟨g3, g4⟩⟩ := HT3.out
      rw [results_cellQ rfl]
      clear f1 f2 f3 f4
      go_simp
end Go.Proofs.Ythekalhceamcoaa
