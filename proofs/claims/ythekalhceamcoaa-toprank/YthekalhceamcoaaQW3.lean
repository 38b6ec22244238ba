/- What is wrong with a pod: the contract of qos.Check. -/
import Derived.Test.YthekalhceamcoaaQW2
import Derived.Deep.RegionHeld3
namespace Go.Proofs.Ythekalhceamcoaa
open Go.RowKit
open Qos (Nd Ct Pd nd0 ct0 pd0 nd ct pd needF contF podF amtOk over twice leS)
open Dvs (nameMay first)
theorem podF_1 {p : Pd} (h : nameMay p.nm = false) : podF p = 3 := by unfold podF; rw [if_pos h]
theorem podF_2 {p : Pd} (h : nameMay p.nm = true) (h2 : p.pr < 0 ∨ 1000 < p.pr) : podF p = 1 := by unfold podF; rw [if_neg (by rw [h]; decide), if_pos h2]
theorem podF_3 {p : Pd} (h : nameMay p.nm = true) (h2 : ¬ (p.pr < 0 ∨ 1000 < p.pr)) (h3 : p.cs.length < 1 ∨ 3 < p.cs.length) : podF p = 2 := by unfold podF; rw [if_neg (by rw [h]; decide), if_neg h2, if_pos h3]
theorem podF_4 {p : Pd} (h : nameMay p.nm = true) (h2 : ¬ (p.pr < 0 ∨ 1000 < p.pr)) (h3 : ¬ (p.cs.length < 1 ∨ 3 < p.cs.length)) : podF p = first (contF p.cs) p.cs.length := by unfold podF; rw [if_neg (by rw [h]; decide), if_neg h2, if_neg h3]
theorem errQ_pos {f : Nat} (h : f ≠ 0) : errV (f : Int) = .iface 133 (.int .i64 f) := by unfold errV; rw [if_neg (by omega)]
theorem below_drew' {B : Nat} {a w : World} (h : Below B a w) : Below B a w.drew := ⟨h.os, h.tape, h.output, h.size, h.block⟩
set_option maxRecDepth 100000 in
set_option maxHeartbeats 2000000 in
theorem check_any (p : Pd) (cv : Value) (w : World) (h : ConsAt w cv p.cs) : Calls Try.prog 46 #[podV p cv] w fun e w' => e = .returned (errV (podF p : Nat)) ∧ Below w.heap.size w w' := by
  obtain ⟨ao, c, rfl, hm, hr⟩ := h
  have HR := hideIt hr
  have HM := hideIt hm
  clear hr hm
  have H1 := hideIt (@podF_1 p)
  have H2 := hideIt (@podF_2 p)
  have H3 := hideIt (@podF_3 p)
  have H4 := hideIt (@podF_4 p)
  unfold podV
  have HB0 := hideIt ((Below.refl w.heap.size w).alloc (Nat.le_refl _) (.cells #[.string p.nm, .int .i64 p.pr, .slice ao p.cs.length c] 60))
  rcases two (nameMay p.nm) with hn | hn
  · have H2 := hideIt (H2.out hn)
    have H3 := hideIt (H3.out hn)
    have H4 := hideIt (H4.out hn)
    by_cases hp : p.pr < 0 ∨ 1000 < p.pr
    · have he := H2.out hp
      go_enter Try.func46, Try.ntmps46
      go_wp2_with fail
      refine (name_any _ _).mono ?_
      rintro e w1 ⟨rfl, rfl⟩
      rw [hn]
      go_wp2_with fail
      refine (within_any _ _ _ _).mono ?_
      rintro e w1 ⟨rfl, rfl⟩
      rw [show (decide (0 ≤ p.pr) && decide (p.pr ≤ 1000)) = false by simp; omega]
      go_wp2_with fail
      go_ret
      exact ⟨by rw [he]; rfl, HB0.out⟩
    have H3 := hideIt (H3.out hp)
    have H4 := hideIt (H4.out hp)
    have hp' : (decide (0 ≤ p.pr) && decide (p.pr ≤ 1000)) = true := by simp; omega
    clear hp
    by_cases hl : p.cs.length < 1 ∨ 3 < p.cs.length
    · have he := H3.out hl
      have hl' : (decide ((1 : Int) ≤ p.cs.length) && decide ((p.cs.length : Int) ≤ 3)) = false := by simp; omega
      clear hl H1 H2 H3 H4
      go_enter Try.func46, Try.ntmps46
      go_wp2_with fail
      refine (name_any _ _).mono ?_
      rintro e w1 ⟨rfl, rfl⟩
      rw [hn]
      go_wp2_with fail
      refine (within_any _ _ _ _).mono ?_
      rintro e w1 ⟨rfl, rfl⟩
      rw [hp']
      go_wp2_with fail
      refine (within_any _ _ _ _).mono ?_
      rintro e w1 ⟨rfl, rfl⟩
      rw [hl']
      go_wp2_with fail
      go_ret
      exact ⟨by rw [he]; rfl, HB0.out⟩
    have HE := hideIt (H4.out hl)
    have hl' : (decide ((1 : Int) ≤ p.cs.length) && decide ((p.cs.length : Int) ≤ 3)) = true := by simp; omega
    have hlen : p.cs.length ≤ 3 := by omega
    rw [HE.out]
    clear hl H1 H2 H3 H4 HE
    clear H2 H3 H4
    generalize p.cs = cs at *
    go_enter Try.func46, Try.ntmps46
    go_wp2_with fail
    refine (name_any _ _).mono ?_
    rintro e w1 ⟨rfl, rfl⟩
    rw [hn]
    go_wp2_with fail
    refine (within_any _ _ _ _).mono ?_
    rintro e w1 ⟨rfl, rfl⟩
    rw [hp']
    go_wp2_with fail
    refine (within_any _ _ _ _).mono ?_
    rintro e w1 ⟨rfl, rfl⟩
    rw [hl']
    go_wp2_with fail
    go_loopw [25] (fun i wr => ∃ k : Nat, k ≤ cs.length ∧ i = .int .i64 k ∧ Below w.heap.size w wr ∧ Hid (w.heap.size < wr.heap.size) ∧ wr.cell? ⟨w.heap.size, 2, none⟩ = some (.slice ao cs.length c) ∧ Hid (first (contF cs) k = 0)) (fun i _ => cs.length - (intOf i).toNat)
    case atStart => exact ⟨0, by omega, rfl, HB0.out, by simp [Hid], by simp, rfl⟩
    case round =>
      obtain ⟨k, hk, rfl, hB, HLT, hcv, HF⟩ := hrel
      by_cases hlt : k < cs.length
      · obtain ⟨b, o, dv, rfl, hin⟩ := HR.out (by omega)
        have hin := hin.below hB
        obtain ⟨c0, c1, c2, c3, c4, c5⟩ := hin.at hlt
        have hkc : k ≤ c := Nat.le_trans hk HM.out.1
        have HO := hideIt (Dvs.first_hit (f := contF cs) (n := cs.length) HF.out · hlt)
        have HZ := hideIt (Dvs.first_zero (f := contF cs) (k := k) HF.out)
        have HI := hideIt hin
        have hB1 := hideIt (hB.alloc hB.size (.cells #[.string (ct cs k).nm, .int .i64 (ct cs k).am, .int .i64 (ct cs k).ab, .int .i64 (ct cs k).cm, .int .i64 (ct cs k).cb, dv k] 94))
        have HBX := hideIt ((BoxAt.made wr (ct cs k) (dv k)).below (below_drew' (Below.refl _ _)))
        have HCK := hideIt (fun W (hb : Below wr.heap.size wr W) => checkCont_any b o c k cs dv W (hin.below hb) hlt (Nat.le_trans HM.out.1 HM.out.2))
        have HL2 := hideIt ((Below.refl wr.heap.size wr).alloc (Nat.le_refl _) (.cells #[.string (ct cs k).nm, .int .i64 (ct cs k).am, .int .i64 (ct cs k).ab, .int .i64 (ct cs k).cm, .int .i64 (ct cs k).cb, dv k] 94))
        have HCV := hideIt hcv
        have hsl : ∃ a n e, dv k = .slice a n e := by
          obtain ⟨a, e, he, _⟩ := (hin.2 k hlt).2
          exact ⟨a, _, e, he⟩
        clear hin HF hB
        generalize ct cs k = x at *
        generalize dv k = d at *
        obtain ⟨da, dn, dc, rfl⟩ := hsl
        generalize contF cs k = F at *
        go_wp2_with fail
        obtain ⟨l0, b0, b1, b2, b3, b4, b5⟩ := HBX.out
        have HC2 := (below_drew' HL2.out).cell (p := ⟨w.heap.size, 2, none⟩) HLT.out |>.trans HCV.out
        clear HBX
        refine wp_region_held_drew (S := (fun w' => (w'.cell? ⟨wr.heap.size, 0, none⟩ = some (.string x.nm) ∧ w'.cell? ⟨wr.heap.size, 1, none⟩ = some (.int .i64 x.am) ∧ w'.cell? ⟨wr.heap.size, 2, none⟩ = some (.int .i64 x.ab) ∧ w'.cell? ⟨wr.heap.size, 3, none⟩ = some (.int .i64 x.cm) ∧ w'.cell? ⟨wr.heap.size, 4, none⟩ = some (.int .i64 x.cb) ∧ w'.cell? ⟨wr.heap.size, 5, none⟩ = some (.slice da dn dc)) ∧ w'.cell? ⟨w.heap.size, 2, none⟩ = some (.slice (some ⟨b, o, none⟩) cs.length c))) (by kernel_rfl) ⟨⟨b0, b1, b2, b3, b4, b5⟩, HC2⟩ (fun hHeld => ?_)
        refine wpAnyH_take (i := 0) (oi := { dst := some 30, op := Op.load 94 (Operand.tmp 4), type := 94, pos := "qos.go:31", after := #[], guard := none }) (v := ?v1x0) rfl (by kernel_rfl) (by kernel_rfl) (by kernel_rfl) (fun _ _ _ h => h) (Or.inl ⟨by rfl, ?h1x0⟩) (by assumption) ?r1x0
        case h1x0 =>
          intro w' hSw
          (try dsimp only at hSw)
          go_simp
          first | done | with_reducible rfl | rfl
        (try simp only [Act.put, List.setIfInBounds_toArray, List.set_cons_zero, List.set_cons_succ])
        refine wpAnyH_take (i := 1) (oi := { dst := some 31, op := Op.fieldAddr 60 (Operand.tmp 1) 2, type := 0, pos := "qos.go:31", after := #[], guard := none }) (v := ?v2x1) rfl (by kernel_rfl) (by kernel_rfl) (by kernel_rfl) (fun _ _ _ h => h) (Or.inl ⟨by rfl, ?h2x1⟩) (by assumption) ?r2x1
        case h2x1 =>
          intro w' hSw
          (try dsimp only at hSw)
          go_simp
          first | done | with_reducible rfl | rfl
        (try simp only [Act.put, List.setIfInBounds_toArray, List.set_cons_zero, List.set_cons_succ])
        refine wpAnyH_take (i := 2) (oi := { dst := some 32, op := Op.load 58 (Operand.tmp 31), type := 58, pos := "qos.go:31", after := #[{ on := 1, ground := Ground.data }], guard := none }) (v := ?v3x2) rfl (by kernel_rfl) (by kernel_rfl) (by kernel_rfl) (fun _ _ _ h => h) (Or.inl ⟨by rfl, ?h3x2⟩) (by assumption) ?r3x2
        case h3x2 =>
          intro w' hSw
          (try dsimp only at hSw)
          go_simp
          first | done | with_reducible rfl | rfl
        (try simp only [Act.put, List.setIfInBounds_toArray, List.set_cons_zero, List.set_cons_succ])
        refine wpAnyH_take (i := 3) (oi := { dst := some 33, op := Op.move (Operand.tmp 3), type := 3, pos := "qos.go:31", after := #[], guard := none }) (v := ?v4x3) rfl (by kernel_rfl) (by kernel_rfl) (by kernel_rfl) (fun _ _ _ h => h) (Or.inl ⟨by rfl, ?h4x3⟩) (by assumption) ?r4x3
        case h4x3 =>
          intro w' hSw
          (try dsimp only at hSw)
          go_simp
          first | done | with_reducible rfl | rfl
        (try simp only [Act.put, List.setIfInBounds_toArray, List.set_cons_zero, List.set_cons_succ])
        refine wpAnyH_take (i := 4) (oi := { dst := some 34, op := Op.slice 58 (Operand.tmp 32) none (some (Operand.tmp 33)) none, type := 58, pos := "qos.go:31", after := #[{ on := 2, ground := Ground.data }, { on := 3, ground := Ground.data }], guard := none }) (v := ?v5x4) rfl (by kernel_rfl) (by kernel_rfl) (by kernel_rfl) (fun _ _ _ h => h) (Or.inl ⟨by rfl, ?h5x4⟩) (by assumption) ?r5x4
        case h5x4 =>
          intro w' hSw
          (try dsimp only at hSw)
          go_simp
          first | done | with_reducible rfl | rfl
        (try simp only [Act.put, List.setIfInBounds_toArray, List.set_cons_zero, List.set_cons_succ])
        refine wpAnyH_ready (rs := [5]) (by kernel_rfl) (by simp) (AllReadyH.cons rfl (fun K hK => ?_) AllReadyH.nil)
        go_simp
        go_wp2_with fail
        refine (HCK.out _ (below_drew' HL2.out)).mono ?_
        rintro e w5 ⟨rfl, hb5⟩
        have HB5 := hideIt hb5
        have HS5 := hideIt (And.intro (And.intro ((hb5.cell (p := ⟨wr.heap.size, 0, none⟩) l0).trans b0) (And.intro ((hb5.cell (p := ⟨wr.heap.size, 1, none⟩) l0).trans b1) (And.intro ((hb5.cell (p := ⟨wr.heap.size, 2, none⟩) l0).trans b2) (And.intro ((hb5.cell (p := ⟨wr.heap.size, 3, none⟩) l0).trans b3) (And.intro ((hb5.cell (p := ⟨wr.heap.size, 4, none⟩) l0).trans b4) ((hb5.cell (p := ⟨wr.heap.size, 5, none⟩) l0).trans b5)))))) ((hb5.cell (p := ⟨w.heap.size, 2, none⟩) (Nat.lt_trans HLT.out l0)).trans HC2))
        clear hb5
        go_wp2_with fail
        refine hK.out _ _ HS5.out (fun hHeld => ?_)
        clear hK K
        refine wpAnyH_take (i := 6) (oi := { dst := some 5, op := Op.assign (Operand.tmp 35), type := 30, pos := "qos.go:31", after := #[{ on := 5, ground := Ground.data }, { on := 5, ground := Ground.chain }, { on := 0, ground := Ground.phase }, { on := 1, ground := Ground.phase }, { on := 2, ground := Ground.phase }, { on := 3, ground := Ground.phase }, { on := 4, ground := Ground.phase }, { on := 5, ground := Ground.phase }], guard := none }) (v := ?v6x6) rfl (by kernel_rfl) (by kernel_rfl) (by kernel_rfl) (fun _ _ _ h => h) (Or.inl ⟨by rfl, ?h6x6⟩) (by assumption) ?r6x6
        case h6x6 =>
          intro w' hSw
          (try dsimp only at hSw)
          go_simp
          first | done | with_reducible rfl | rfl
        (try simp only [Act.put, List.setIfInBounds_toArray, List.set_cons_zero, List.set_cons_succ])
        refine wpAnyH_done (by kernel_rfl) ?_ _
        have HB6 := hideIt ((below_drew' hB1.out).trans (HB5.out.mono (below_drew' hB1.out).size))
        have HC6 := hideIt hHeld.2
        have HL6 := hideIt (Nat.lt_of_lt_of_le (Nat.lt_trans HLT.out l0) HB5.out.size)
        clear HB5 HS5 hHeld hB1 HCK HL2 HCV HI HC2 b0 b1 b2 b3 b4 b5 l0 HLT hcv c0 c1 c2 c3 c4 c5
        by_cases hF : F = 0
        · have HZ' := hideIt (HZ.out hF)
          rw [show errV (F : Int) = .nilIface by rw [hF]; rfl]
          clear HO HZ hF
          go_wp2_with fail
          go_roundw
          case rel => exact ⟨k + 1, by omega, by go_num, HB6.out, HL6, HC6.out, HZ'⟩
          case measure => simp [intOf]; omega
        · have HO' := hideIt (HO.out hF)
          have HE := hideIt (errQ_pos hF)
          rw [HE.out]
          clear HO HZ hF
          go_wp2_with fail
          go_ret
          exact ⟨by rw [HO'.out, HE.out]; rfl, HB6.out⟩
      · have hke : k = cs.length := by omega
        subst hke
        have hB1 := hideIt hB
        clear hB
        go_wp2_with fail
        go_ret
        exact ⟨by rw [HF.out]; rfl, hB1.out⟩
  · have he := H1.out hn
    go_enter Try.func46, Try.ntmps46
    go_wp2_with fail
    refine (name_any _ _).mono ?_
    rintro e w1 ⟨rfl, rfl⟩
    rw [hn]
    go_wp2_with fail
    go_ret
    exact ⟨by rw [he]; rfl, HB0.out⟩
end Go.Proofs.Ythekalhceamcoaa
