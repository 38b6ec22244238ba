/- What is wrong with a pod, as the document says: the contract of ostleryref.PodFault. -/
import Derived.Test.YthekalhceamcoaaQR1
import Derived.Test.YthekalhceamcoaaQW3
import Derived.Deep.RegionHeld3
import Derived.Deep.QuietTactic
import Derived.BigQuiet
namespace Go.Proofs.Ythekalhceamcoaa
open Go.RowKit
open Qos (Nd Ct Pd nd0 ct0 pd0 nd ct pd needF contF podF amtOk over twice leS)
open Dvs (nameMay first)
theorem twice_yes {cs : List Ct} {k q : Nat} (hk : k < cs.length) (hq : q < k) (e : (ct cs q).nm = (ct cs k).nm) : twice cs k = true := by
  unfold twice
  rw [List.any_eq_true]
  refine ⟨ct cs q, ?_, by simp [e]⟩
  have h1 : q < (cs.take k).length := by simp; omega
  have h2 : (cs.take k)[q] = ct cs q := by simp [ct, show q < cs.length by omega]
  rw [← h2]
  exact List.getElem_mem h1
theorem twice_no {cs : List Ct} {k : Nat} (h : ∀ j, j < k → (ct cs j).nm ≠ (ct cs k).nm) : twice cs k = false := by
  unfold twice
  rw [List.any_eq_false]
  intro x hx
  obtain ⟨j, hj, rfl⟩ := List.getElem_of_mem hx
  have hj2 : j < k ∧ j < cs.length := by rw [List.length_take] at hj; omega
  have h2 : (cs.take k)[j] = ct cs j := by simp [ct, hj2.2]
  rw [h2]
  simpa using h j hj2.1
theorem amtN_ok {m b : Int} (h : amtOk m b = true) : amtN m b = 0 := by unfold amtN; rw [if_pos h]
theorem amtN_bad {m b : Int} (h : amtOk m b = false) : amtN m b = 1 := by unfold amtN; rw [if_neg (by rw [h]; decide)]
theorem amtN_in (m b : Int) : amtN m b = 0 ∨ amtN m b = 1 := by unfold amtN; split <;> simp
theorem needQ_at {w : World} {v : Value} {ds : List Nd} (h : NeedsAt w v ds) : ∃ ao c, v = .slice ao ds.length c ∧ (0 < ds.length → ∃ b o, ao = some ⟨b, o, none⟩ ∧ b < w.heap.size ∧ ∀ k, k < ds.length → w.cell? ⟨b, o + k * 2, none⟩ = some (.string (nd ds k).kind) ∧ w.cell? ⟨b, o + k * 2 + 1, none⟩ = some (.int .i64 (nd ds k).many)) := by
  obtain ⟨ao, c, hv, _, hr⟩ := h
  exact ⟨ao, c, hv, hr⟩
set_option maxRecDepth 100000 in
set_option maxHeartbeats 8000000 in
theorem podFault_any (p : Pd) (cv : Value) (w : World) (h : ConsAt w cv p.cs) : Calls Try.prog 45 #[podV p cv] w fun e w' => e = .returned (.int .i64 (podF p : Nat)) ∧ Below w.heap.size w w' := by
  obtain ⟨ao, c, rfl, hm, hr⟩ := h
  have HR := hideIt hr
  clear hr hm
  have H1 := hideIt (@podF_1 p)
  have H2 := hideIt (@podF_2 p)
  have H3 := hideIt (@podF_3 p)
  have H4 := hideIt (@podF_4 p)
  unfold podV
  have HB0 := hideIt ((Below.refl w.heap.size w).alloc (Nat.le_refl _) (.cells #[.string p.nm, .int .i64 p.pr, .slice ao p.cs.length c] 60))
  have HP0 := hideIt (PBoxAt.made w p (.slice ao p.cs.length c))
  rcases two (nameMay p.nm) with hn | hn
  · have H2 := hideIt (H2.out hn)
    have H3 := hideIt (H3.out hn)
    have H4 := hideIt (H4.out hn)
    by_cases hp : p.pr < 0 ∨ 1000 < p.pr
    · have he := H2.out hp
      have key : p.pr < 0 ∨ (¬ p.pr < 0 ∧ 1000 < p.pr) := by omega
      clear hp H1 H2 H3 H4
      rcases key with k1 | ⟨k1, k2⟩
      all_goals
        go_enter Try.func45, Try.ntmps45
        go_wp2_with fail
        refine (may_any _ _).mono ?_
        rintro e w1 ⟨rfl, rfl⟩
        rw [hn]
        go_wp2_with fail
        go_ret
        exact ⟨by rw [he]; rfl, HB0.out⟩
    have H3 := hideIt (H3.out hp)
    have H4 := hideIt (H4.out hp)
    have p1 : decide (p.pr < 0) = false := decide_eq_false (by omega)
    have p2 : decide (1000 < p.pr) = false := decide_eq_false (by omega)
    clear hp
    by_cases hl : p.cs.length < 1 ∨ 3 < p.cs.length
    · have he := H3.out hl
      have key : p.cs.length = 0 ∨ (¬ p.cs.length = 0 ∧ 3 < p.cs.length) := by omega
      clear hl H1 H2 H3 H4
      rcases key with k1 | ⟨k1, k2⟩
      · have d1 : decide ((p.cs.length : Int) < 1) = true := decide_eq_true (by omega)
        clear k1
        go_enter Try.func45, Try.ntmps45
        go_wp2_with fail
        refine (may_any _ _).mono ?_
        rintro e w1 ⟨rfl, rfl⟩
        rw [hn]
        go_wp2_with fail
        go_ret
        exact ⟨by rw [he]; rfl, HB0.out⟩
      · have d1 : decide ((p.cs.length : Int) < 1) = false := decide_eq_false (by omega)
        have d2 : decide ((3 : Int) < p.cs.length) = true := decide_eq_true (by omega)
        clear k1 k2
        go_enter Try.func45, Try.ntmps45
        go_wp2_with fail
        refine (may_any _ _).mono ?_
        rintro e w1 ⟨rfl, rfl⟩
        rw [hn]
        go_wp2_with fail
        go_ret
        exact ⟨by rw [he]; rfl, HB0.out⟩
    have HE := hideIt (H4.out hl)
    have d1 : decide ((p.cs.length : Int) < 1) = false := decide_eq_false (by omega)
    have d2 : decide ((3 : Int) < p.cs.length) = false := decide_eq_false (by omega)
    have hlen : p.cs.length ≤ 3 := by omega
    have hlen0 : ¬ p.cs.length = 0 := by omega
    clear hl H1 H2 H3 H4
    clear H2 H3 H4
    go_enter Try.func45, Try.ntmps45
    go_wp2_with fail
    refine (may_any _ _).mono ?_
    rintro e w1 ⟨rfl, rfl⟩
    rw [hn]
    go_wp2_with fail
    clear d1 d2
    go_loopw [4] (fun i wr => ∃ k : Nat, k ≤ p.cs.length ∧ i = .int .i64 k ∧ Below w.heap.size w wr ∧ PBoxAt wr w.heap.size p (.slice ao p.cs.length c) ∧ Hid (first (contF p.cs) k = 0)) (fun i _ => p.cs.length - (intOf i).toNat)
    case atStart => exact ⟨0, by omega, rfl, HB0.out, HP0.out, rfl⟩
    case round =>
      obtain ⟨k, hk, rfl, hB, hP, HF⟩ := hrel
      clear HB0 HP0
      by_cases hlt : k < p.cs.length
      · obtain ⟨b, o, dv, rfl, hin⟩ := HR.out (by omega)
        have HIN0 := hideIt hin
        have hin := hin.below hB
        obtain ⟨c0, c1, c2, c3, c4, c5⟩ := hin.at hlt
        have HO := hideIt (fun f (e : contF p.cs k = f) (h : f ≠ 0) => HE.out.trans ((Dvs.first_hit (f := contF p.cs) (n := p.cs.length) HF.out (by rw [e]; exact h) hlt).trans e))
        have HZ := hideIt (Dvs.first_zero (f := contF p.cs) (k := k) HF.out)
        have K1 := hideIt (@contF_1 p.cs k)
        have K2 := hideIt (@contF_2 p.cs k)
        have K3 := hideIt (@contF_3 p.cs k)
        have K4 := hideIt (@contF_4 p.cs k)
        have K5 := hideIt (@contF_5 p.cs k)
        have hsl : ∃ a e, dv k = .slice a (ct p.cs k).ds.length e := by
          obtain ⟨a, e, he, _⟩ := (hin.2 k hlt).2
          exact ⟨a, e, he⟩
        obtain ⟨da, dc, hd⟩ := hsl
        have HND := hideIt (hin.2 k hlt).2
        rw [hd] at c5 HND
        have hba := (Below.refl wr.heap.size wr).alloc (Nat.le_refl _) (.cells #[.string (ct p.cs k).nm, .int .i64 (ct p.cs k).am, .int .i64 (ct p.cs k).ab, .int .i64 (ct p.cs k).cm, .int .i64 (ct p.cs k).cb, .slice da (ct p.cs k).ds.length dc] 94)
        have HBa := hideIt (hB.trans (hba.mono hB.size))
        have HPa := hideIt (hP.below hba)
        have HXa := hideIt (BoxAt.made wr (ct p.cs k) (.slice da (ct p.cs k).ds.length dc))
        have HNa := hideIt (HND.out.below hba)
        have HTY := hideIt (fun q => @twice_yes p.cs k q hlt)
        have HTN := hideIt (@twice_no p.cs k)
        obtain ⟨q0, q1, q2, q3⟩ := hP
        clear hin hB hba hd HF HND
        generalize hx : ct p.cs k = x at *
        rcases two (nameMay x.nm) with hn2 | hn2
        · have K2 := hideIt (K2.out hn2)
          have K3 := hideIt (K3.out hn2)
          have K4 := hideIt (K4.out hn2)
          have K5 := hideIt (K5.out hn2)
          go_wp2_with fail
          refine (may_any _ _).mono ?_
          rintro e w2 ⟨rfl, rfl⟩
          rw [hn2]
          go_wp2_with fail
          generalize hW1 : wr.alloc (.cells #[.string x.nm, .int .i64 x.am, .int .i64 x.ab, .int .i64 x.cm, .int .i64 x.cb, .slice da x.ds.length dc] 94) = W1 at *
          clear hW1 K1 c0 c1 c2 c3 c4 c5 q0 q1 q2 q3
          generalize wr.heap.size = BX at *
          go_loopw [7] (fun i wq => ∃ q : Nat, q ≤ k ∧ i = .int .i64 q ∧ Below W1.heap.size W1 wq ∧ Hid (∀ j, j < q → (ct p.cs j).nm ≠ x.nm)) (fun i _ => k - (intOf i).toNat)
          case atStart => exact ⟨0, by omega, rfl, Below.refl _ _, fun j hj => by omega⟩
          case round =>
            obtain ⟨q, hq, rfl, hBq, HAL⟩ := hrel
            have hin2 := HIN0.out.below (HBa.out.trans (hBq.mono HBa.out.size))
            obtain ⟨x0, x1, x2, x3, x4, x5, x6⟩ := HXa.out.below hBq
            obtain ⟨q0, q1, q2, q3⟩ := HPa.out.below hBq
            by_cases hql : q < k
            · obtain ⟨y0, _⟩ := hin2.at (show q < p.cs.length by omega)
              have HBq := hideIt hBq
              clear hin2 hBq x2 x3 x4 x5 x6 q1 q2
              have hqb : q < p.cs.length := by omega
              by_cases hs : (ct p.cs q).nm = x.nm
              · have he := HO.out 5 (K2.out (HTY.out q hql hs)) (by decide)
                rw [hs] at y0
                clear hs HAL
                go_wp2_with fail
                go_quiet (fail)
                have HBe := hideIt (HBa.out.trans ((below_drewN HBq.out nq).mono HBa.out.size))
                go_wp2_with fail
                go_ret
                exact ⟨by rw [he]; rfl, HBe.out⟩
              · have hsb : ((ct p.cs q).nm.toList == x.nm.toList) = false := by rw [eq_str]; exact decide_eq_false hs
                have HAL2 : Hid (∀ j, j < q + 1 → (ct p.cs j).nm ≠ x.nm) := fun j hj => by
                  by_cases e : j = q
                  · subst e; exact hs
                  · exact HAL.out j (by omega)
                clear hs HAL
                generalize (ct p.cs q).nm = yn at *
                go_wp2_with fail
                go_quiet (fail)
                have HBe := hideIt (below_drewN HBq.out nq)
                go_wp2_with fail
                go_roundw
                case rel => exact ⟨q + 1, by omega, by go_num, HBe.out, HAL2⟩
                case measure => simp [intOf]; omega
            · have hqe : q = k := by omega
              subst hqe
              have htw := HTN.out HAL.out
              have K3 := hideIt (K3.out htw)
              have K4 := hideIt (K4.out htw)
              have K5 := hideIt (K5.out htw)
              have HBq := hideIt hBq
              have HXq := hideIt (HXa.out.below hBq)
              have HPq := hideIt (HPa.out.below hBq)
              have HNq := hideIt (HNa.out.below hBq)
              have HWq := hideIt (HBa.out.trans (hBq.mono HBa.out.size))
              clear hin2 hBq HAL htw HTN HTY K2 HXa HPa HNa HBa x0 x1 x2 x3 x4 x5 x6 q0 q1 q2 q3
              clear HBq
              generalize hW2 : wr = W2 at *
              clear hW2
              have HA1 := hideIt (amountFault_any x.am x.ab)
              have HA2 := hideIt (amountFault_any x.cm x.cb)
              have hA1 := amtN_in x.am x.ab
              have hA2 := amtN_in x.cm x.cb
              have HK1 := hideIt (@amtN_ok x.am x.ab)
              have HK1' := hideIt (@amtN_bad x.am x.ab)
              have HK2 := hideIt (@amtN_ok x.cm x.cb)
              have HK2' := hideIt (@amtN_bad x.cm x.cb)
              generalize amtN x.am x.ab = A1 at *
              generalize amtN x.cm x.cb = A2 at *
              have HWa : wrap64 (A1 + A2) = A1 + A2 := by unfold wrap64; omega
              have HWr : IntKind.i64.wrap (A1 + A2) = A1 + A2 := by rw [IntKind.wrap_i64]; omega
              have HXd := hideIt (HXq.out.below (below_drew' (Below.refl _ _)))
              have HPd := hideIt (HPq.out.below (below_drew' (Below.refl _ _)))
              have HNd := hideIt (HNq.out.below (below_drew' (Below.refl _ _)))
              have HBd := hideIt (below_drew' HWq.out)
              clear HXq HPq HNq HWq
              go_wp2_with fail
              refine wp_region_held_drew (S := (fun w' => w'.cell? ⟨BX, 1, none⟩ = some (.int .i64 x.am) ∧ w'.cell? ⟨BX, 2, none⟩ = some (.int .i64 x.ab) ∧ w'.cell? ⟨BX, 3, none⟩ = some (.int .i64 x.cm) ∧ w'.cell? ⟨BX, 4, none⟩ = some (.int .i64 x.cb))) (by kernel_rfl) ⟨HXd.out.2.2.1, HXd.out.2.2.2.1, HXd.out.2.2.2.2.1, HXd.out.2.2.2.2.2.1⟩ (fun hHeld => ?_)
              refine wpAnyH_take (i := 0) (oi := { dst := some 64, op := Op.fieldAddr 94 (Operand.tmp 5) 1, type := 0, pos := "ostler.go:35", after := #[], guard := none }) (v := ?v1x0) rfl (by kernel_rfl) (by kernel_rfl) (by kernel_rfl) (fun _ _ _ h => h) (Or.inl ⟨by rfl, ?h1x0⟩) (by assumption) ?r1x0
              case h1x0 =>
                intro w' hSw
                (try dsimp only at hSw)
                go_simp
                first | done | with_reducible rfl | rfl
              (try simp only [Act.put, List.setIfInBounds_toArray, List.set_cons_zero, List.set_cons_succ])
              refine wpAnyH_take (i := 1) (oi := { dst := some 65, op := Op.load 89 (Operand.tmp 64), type := 89, pos := "ostler.go:35", after := #[{ on := 0, ground := Ground.data }], guard := none }) (v := ?v2x1) rfl (by kernel_rfl) (by kernel_rfl) (by kernel_rfl) (fun _ _ _ h => h) (Or.inl ⟨by rfl, ?h2x1⟩) (by assumption) ?r2x1
              case h2x1 =>
                intro w' hSw
                (try dsimp only at hSw)
                go_simp
                first | done | with_reducible rfl | rfl
              (try simp only [Act.put, List.setIfInBounds_toArray, List.set_cons_zero, List.set_cons_succ])
              refine wpAnyH_take (i := 3) (oi := { dst := some 67, op := Op.fieldAddr 94 (Operand.tmp 5) 2, type := 0, pos := "ostler.go:35", after := #[], guard := none }) (v := ?v3x3) rfl (by kernel_rfl) (by kernel_rfl) (by kernel_rfl) (fun _ _ _ h => h) (Or.inl ⟨by rfl, ?h3x3⟩) (by assumption) ?r3x3
              case h3x3 =>
                intro w' hSw
                (try dsimp only at hSw)
                go_simp
                first | done | with_reducible rfl | rfl
              (try simp only [Act.put, List.setIfInBounds_toArray, List.set_cons_zero, List.set_cons_succ])
              refine wpAnyH_take (i := 4) (oi := { dst := some 68, op := Op.load 89 (Operand.tmp 67), type := 89, pos := "ostler.go:35", after := #[{ on := 3, ground := Ground.data }], guard := none }) (v := ?v4x4) rfl (by kernel_rfl) (by kernel_rfl) (by kernel_rfl) (fun _ _ _ h => h) (Or.inl ⟨by rfl, ?h4x4⟩) (by assumption) ?r4x4
              case h4x4 =>
                intro w' hSw
                (try dsimp only at hSw)
                go_simp
                first | done | with_reducible rfl | rfl
              (try simp only [Act.put, List.setIfInBounds_toArray, List.set_cons_zero, List.set_cons_succ])
              refine wpAnyH_ready (rs := [2]) (by kernel_rfl) (by simp) (AllReadyH.cons rfl (fun K hK => ?_) AllReadyH.nil)
              go_simp
              go_wp2_with fail
              refine (HA1.out _).mono ?_
              rintro e w5 ⟨rfl, hb5⟩
              have HX5 := hideIt (HXd.out.below hb5)
              have HP5 := hideIt (HPd.out.below hb5)
              have HN5 := hideIt (HNd.out.below hb5)
              have HB5 := hideIt (HBd.out.trans (hb5.mono HBd.out.size))
              clear hb5 HXd HPd HNd HBd
              go_wp2_with fail
              refine hK.out _ _ ⟨HX5.out.2.2.1, HX5.out.2.2.2.1, HX5.out.2.2.2.2.1, HX5.out.2.2.2.2.2.1⟩ (fun hHeld => ?_)
              clear hK K
              refine wpAnyH_ready (rs := [5]) (by kernel_rfl) (by simp) (AllReadyH.cons rfl (fun K hK => ?_) AllReadyH.nil)
              go_simp
              go_wp2_with fail
              refine (HA2.out _).mono ?_
              rintro e w6 ⟨rfl, hb6⟩
              have HX6 := hideIt (HX5.out.below hb6)
              have HP6 := hideIt (HP5.out.below hb6)
              have HN6 := hideIt (HN5.out.below hb6)
              have HB6 := hideIt (HB5.out.trans (hb6.mono HB5.out.size))
              clear hb6 HX5 HP5 HN5 HB5
              go_wp2_with fail
              refine hK.out _ _ ⟨HX6.out.2.2.1, HX6.out.2.2.2.1, HX6.out.2.2.2.2.1, HX6.out.2.2.2.2.2.1⟩ (fun hHeld => ?_)
              clear hK K
              refine wpAnyH_take (i := 6) (oi := { dst := some 70, op := Op.binOp BinOp.add 3 (Operand.tmp 66) (Operand.tmp 69) 3, type := 3, pos := "ostler.go:35", after := #[{ on := 2, ground := Ground.data }, { on := 5, ground := Ground.data }], guard := none }) (v := ?v5x6) rfl (by kernel_rfl) (by kernel_rfl) (by kernel_rfl) (fun _ _ _ h => h) (Or.inl ⟨by rfl, ?h5x6⟩) (by assumption) ?r5x6
              case h5x6 =>
                intro w' hSw
                (try dsimp only at hSw)
                go_simp
                first | done | with_reducible rfl | rfl
              (try simp only [Act.put, List.setIfInBounds_toArray, List.set_cons_zero, List.set_cons_succ])
              refine wpAnyH_take (i := 7) (oi := { dst := some 71, op := Op.binOp BinOp.gtr 3 (Operand.tmp 70) (Operand.const (Value.int IntKind.i64 0)) 3, type := 4, pos := "ostler.go:35", after := #[{ on := 6, ground := Ground.data }], guard := none }) (v := ?v6x7) rfl (by kernel_rfl) (by kernel_rfl) (by kernel_rfl) (fun _ _ _ h => h) (Or.inl ⟨by rfl, ?h6x7⟩) (by assumption) ?r6x7
              case h6x7 =>
                intro w' hSw
                (try dsimp only at hSw)
                go_simp
                first | done | with_reducible rfl | rfl
              (try simp only [Act.put, List.setIfInBounds_toArray, List.set_cons_zero, List.set_cons_succ])
              refine wpAnyH_done (by kernel_rfl) ?_ _
              clear hHeld HA1 HA2
              have hbad : (amtOk x.am x.ab = true ∧ amtOk x.cm x.cb = true) ∨ (amtOk x.am x.ab = false ∨ amtOk x.cm x.cb = false) := by
                cases amtOk x.am x.ab <;> cases amtOk x.cm x.cb <;> simp
              rcases hbad with ⟨ha, hc⟩ | hbad
              · have hD : decide (0 < A1 + A2) = false := decide_eq_false (by have := HK1.out ha; have := HK2.out hc; omega)
                rw [hD]
                clear hD
                have K4 := hideIt (K4.out ha hc)
                have K5 := hideIt (K5.out ha hc)
                obtain ⟨⟨a0, _⟩, ⟨a1, _⟩⟩ := Qos.amt_in ha
                obtain ⟨⟨a2, _⟩, ⟨a3, _⟩⟩ := Qos.amt_in hc
                clear HK1 HK1' HK2 HK2' K3 hA1 hA2 HWa HWr
                obtain ⟨x0, x1, x2, x3, x4, x5, x6⟩ := HX6.out
                have key : (over x.am x.cm = true ∨ over x.ab x.cb = true) ∨ (over x.am x.cm = false ∧ over x.ab x.cb = false) := by
                  cases over x.am x.cm <;> cases over x.ab x.cb <;> simp
                rcases key with hov | ⟨o1, o2⟩
                · have he := HO.out 3 (K4.out hov) (by decide)
                  have kk : (0 < x.cm ∧ x.cm < x.am) ∨ (0 < x.cm ∧ ¬ x.cm < x.am ∧ 0 < x.cb ∧ x.cb < x.ab) ∨ (¬ 0 < x.cm ∧ 0 < x.cb ∧ x.cb < x.ab) := by
                    unfold over at hov
                    simp at hov
                    omega
                  clear K4 K5 hov
                  rcases kk with ⟨k1, k2⟩ | ⟨k1, k2, k3, k4⟩ | ⟨k1, k3, k4⟩
                  all_goals
                    go_wp2_with fail
                    go_ret
                    exact ⟨by first | (rw [he]; rfl) | rfl, HB6.out⟩
                · have K5 := hideIt (K5.out o1 o2)
                  have kk : (¬ 0 < x.cm ∨ (0 < x.cm ∧ ¬ x.cm < x.am)) ∧ (¬ 0 < x.cb ∨ (0 < x.cb ∧ ¬ x.cb < x.ab)) := by
                    unfold over at o1 o2
                    simp at o1 o2
                    omega
                  clear K4 o1 o2
                  obtain ⟨kk1, kk2⟩ := kk
                  clear x0 x1 hHeld
                  by_cases h3 : 3 < x.ds.length
                  · have he := HO.out 2 (K5.out.trans (if_pos h3)) (by decide)
                    have HE2 := hideIt he
                    clear he K5
                    rcases kk1 with k1 | ⟨k1, k2⟩
                    all_goals rcases kk2 with k3 | ⟨k3, k4⟩
                    all_goals
                      go_wp2_with fail
                      go_ret
                      exact ⟨by rw [HE2.out]; rfl, HB6.out⟩
                  have HKF := hideIt (K5.out.trans (if_neg h3))
                  have h3' : x.ds.length ≤ 3 := by omega
                  have h3d : decide ((3 : Int) < x.ds.length) = false := decide_eq_false (by omega)
                  have h3e : decide (3 < x.ds.length) = false := decide_eq_false (by omega)
                  clear h3 K5
                  rcases kk1 with k1 | ⟨k1, k2⟩
                  all_goals rcases kk2 with k3 | ⟨k3, k4⟩
                  all_goals
                    as_aux_lemma =>
                      go_wp2_with fail
                      clear h3d h3e x2 x3 x4 x5 x6
                      go_loopw [8] (fun i wq => ∃ j : Nat, j ≤ x.ds.length ∧ i = .int .i64 j ∧ Below w6.heap.size w6 wq ∧ Hid (first (needF x.ds) j = 0)) (fun i _ => x.ds.length - (intOf i).toNat)
                      case atStart => exact ⟨0, by omega, rfl, Below.refl _ _, rfl⟩
                      case round =>
                        obtain ⟨j, hj, rfl, hBj, HFj⟩ := hrel
                        obtain ⟨x0, x1, x2, x3, x4, x5, x6⟩ := HX6.out.below hBj
                        by_cases hjl : j < x.ds.length
                        · obtain ⟨na, nc, hnv, hnr⟩ := needQ_at (HN6.out.below hBj)
                          cases hnv
                          obtain ⟨nb, no, rfl, hnlb, hnc⟩ := hnr (by omega)
                          obtain ⟨n0, n1⟩ := hnc j hjl
                          have HNP := hideIt (fun (h0 : 0 < j) => (hnc (j - 1) (by omega)).1)
                          have HN1 := hideIt (@Qos.need_name x.ds j)
                          have HN2 := hideIt (@Qos.need_le x.ds j)
                          have HN3 := hideIt (@Qos.need_many x.ds j)
                          have HHT := hideIt (fun f (e : needF x.ds j = f) (h : f ≠ 0) => HO.out f (HKF.out.trans ((Dvs.first_hit (f := needF x.ds) (n := x.ds.length) HFj.out (by rw [e]; exact h) hjl).trans e)) h)
                          have HZ2 := hideIt (Dvs.first_zero (f := needF x.ds) (k := j) HFj.out)
                          have HLA : Hid (0 < j → Qos.lastOf x.ds j = (nd x.ds (j - 1)).kind) := fun h0 => by unfold Qos.lastOf; rw [if_neg (by omega)]
                          have HBe := hideIt (HB6.out.trans (hBj.mono HB6.out.size))
                          have HBj := hideIt hBj
                          have HLE0 := hideIt (@Qos.leS_empty (nd x.ds j).kind)
                          clear hnc hnr hBj HFj x1 x2 x3 x4 x5
                          generalize (nd x.ds (j - 1)).kind = z at *
                          generalize hyy : nd x.ds j = y at *
                          rcases two (nameMay y.kind) with hm | hm
                          · have main : ∀ (hl : leS y.kind (Qos.lastOf x.ds j) = false), (needF x.ds j = 1 ∧ (y.many < 1 ∨ (¬ y.many < 1 ∧ 16 < y.many))) ∨ (needF x.ds j = 0 ∧ ¬ y.many < 1 ∧ ¬ 16 < y.many) := by
                              intro hl
                              have hnm := HN3.out hm hl
                              by_cases hmm : y.many < 1 ∨ 16 < y.many
                              · rw [if_pos hmm] at hnm
                                exact .inl ⟨hnm, by omega⟩
                              · rw [if_neg hmm] at hnm
                                exact .inr ⟨hnm, by omega, by omega⟩
                            by_cases h0 : 0 < j
                            · have n2 := HNP.out h0
                              have hla := HLA.out h0
                              have wA : IntKind.i64.wrap ((j : Int) - 1) = (j : Int) - 1 := by rw [IntKind.wrap_i64]; omega
                              have wB : wrap64 ((j : Int) - 1) = (j : Int) - 1 := by unfold wrap64; omega
                              have i0 : (0 : Int) ≤ (j : Int) - 1 := by omega
                              have i1 : (j : Int) - 1 < x.ds.length := by omega
                              have i2 : ((j : Int) - 1).toNat = j - 1 := by omega
                              have i3 : (0 : Int) < j := by omega
                              have m1 : 1 ≤ j := h0
                              have m2 : decide (0 < j) = true := decide_eq_true h0
                              have m4 : decide ((0 : Int) < j) = true := decide_eq_true (by omega)
                              have m3 : (1 : Int) ≤ j := by omega
                              rcases two (leS y.kind z) with hl | hl
                              · have HE3 := hideIt (HHT.out 3 (HN2.out hm (by rw [hla]; exact hl)) (by decide))
                                have hl' : (Op.bytesLess y.kind.toList z.toList || y.kind.toList == z.toList) = true := hl
                                clear main HN1 HN2 HN3 HHT HZ2 HLA HNP hla HLE0 HBj hl
                                go_wp2_with fail
                                refine (may_any _ _).mono ?_
                                rintro e w9 ⟨rfl, rfl⟩
                                rw [hm]
                                go_wp2_with fail
                                go_quiet (fail)
                                have HBf := hideIt (below_drewN HBe.out nq)
                                go_wp2_with fail
                                go_ret
                                exact ⟨by rw [HE3.out]; rfl, HBf.out⟩
                              · have hl' : (Op.bytesLess y.kind.toList z.toList || y.kind.toList == z.toList) = false := hl
                                have main := main (by rw [hla]; exact hl)
                                rcases main with ⟨hn1, hmm⟩ | ⟨hn0, hmm1, hmm2⟩
                                · have HE3 := hideIt (HHT.out 1 hn1 (by decide))
                                  have HX9 := hideIt (fun nq => HX6.out.below (below_drewN HBj.out nq))
                                  clear HN1 HN2 HN3 HHT HZ2 HLA HNP hla HLE0 hl hn1
                                  go_wp2_with fail
                                  refine (may_any _ _).mono ?_
                                  rintro e w9 ⟨rfl, rfl⟩
                                  rw [hm]
                                  go_wp2_with fail
                                  go_quiet (fail)
                                  have HBf := hideIt (below_drewN HBe.out nq)
                                  rcases hmm with r1 | ⟨r1, r2⟩
                                  all_goals
                                    go_wp2_with fail
                                    go_ret
                                    exact ⟨by rw [HE3.out]; rfl, HBf.out⟩
                                · have HZ3 := hideIt (HZ2.out hn0)
                                  clear HN1 HN2 HN3 HHT HZ2 HLA HNP hla HLE0 hl hn0
                                  go_wp2_with fail
                                  refine (may_any _ _).mono ?_
                                  rintro e w9 ⟨rfl, rfl⟩
                                  rw [hm]
                                  go_wp2_with fail
                                  go_quiet (fail)
                                  have HBf := hideIt (below_drewN HBj.out nq)
                                  go_wp2_with fail
                                  go_roundw
                                  case rel => exact ⟨j + 1, by omega, by go_num, HBf.out, HZ3⟩
                                  case measure => simp [intOf]; omega
                            · obtain rfl : j = 0 := by omega
                              rw [Nat.zero_mul, Nat.add_zero] at n0 n1
                              have main := main (HLE0.out hm)
                              rcases main with ⟨hn1, hmm⟩ | ⟨hn0, hmm1, hmm2⟩
                              · have HE3 := hideIt (HHT.out 1 hn1 (by decide))
                                clear HN1 HN2 HN3 HHT HZ2 HLA HNP HLE0 h0 hn1
                                go_wp2_with fail
                                refine (may_any _ _).mono ?_
                                rintro e w9 ⟨rfl, rfl⟩
                                rw [hm]
                                go_wp2_with fail
                                go_quiet (fail)
                                have HBf := hideIt (below_drewN HBe.out nq)
                                rcases hmm with r1 | ⟨r1, r2⟩
                                all_goals
                                  go_wp2_with fail
                                  go_ret
                                  exact ⟨by rw [HE3.out]; rfl, HBf.out⟩
                              · have HZ3 := hideIt (HZ2.out hn0)
                                clear HN1 HN2 HN3 HHT HZ2 HLA HNP HLE0 h0 hn0
                                go_wp2_with fail
                                refine (may_any _ _).mono ?_
                                rintro e w9 ⟨rfl, rfl⟩
                                rw [hm]
                                go_wp2_with fail
                                go_quiet (fail)
                                have HBf := hideIt (below_drewN HBj.out nq)
                                go_wp2_with fail
                                go_roundw
                                case rel => exact ⟨0 + 1, by omega, by go_num, HBf.out, HZ3⟩
                                case measure => simp [intOf]; omega
                          · have HE3 := hideIt (HHT.out 3 (HN1.out hm) (by decide))
                            go_wp2_with fail
                            refine (may_any _ _).mono ?_
                            rintro e w9 ⟨rfl, rfl⟩
                            rw [hm]
                            go_wp2_with fail
                            go_quiet (fail)
                            have HBf := hideIt (below_drewN HBe.out nq)
                            go_wp2_with fail
                            go_ret
                            exact ⟨by rw [HE3.out]; rfl, HBf.out⟩
                        · have hje : j = x.ds.length := by omega
                          have HZ3 := hideIt (HZ.out (by rw [HKF.out]; have h := HFj.out; rw [hje] at h; exact h))
                          have HBe := hideIt (HB6.out.trans (hBj.mono HB6.out.size))
                          have HPe := hideIt (HP6.out.below hBj)
                          clear hBj HFj
                          subst hje
                          go_wp2_with fail
                          go_roundw
                          case rel => exact ⟨q + 1, by omega, by go_num, HBe.out, HPe.out, HZ3⟩
                          case measure => simp [intOf]; omega
              · have he := HO.out 1 (K3.out hbad) (by decide)
                have hpos : 0 < A1 + A2 := by
                  rcases hbad with h | h
                  · have := HK1'.out h; omega
                  · have := HK2'.out h; omega
                clear HK1 HK1' HK2 HK2' K3 hbad
                go_wp2_with fail
                go_ret
                exact ⟨by rw [he]; rfl, HB6.out⟩
        · have he := HO.out 3 (K1.out hn2) (by decide)
          go_wp2_with fail
          refine (may_any _ _).mono ?_
          rintro e w2 ⟨rfl, rfl⟩
          rw [hn2]
          go_wp2_with fail
          go_ret
          exact ⟨by rw [he]; rfl, HBa.out⟩
      · have hke : k = p.cs.length := by omega
        have HB1 := hideIt hB
        have HF1 := hideIt (show podF p = 0 by rw [HE.out]; have h := HF.out; rw [hke] at h; exact h)
        obtain ⟨q0, q1, q2, q3⟩ := hP
        clear hB
        subst hke
        go_wp2_with fail
        go_ret
        exact ⟨by rw [HF1.out]; rfl, HB1.out⟩
  · have he := H1.out hn
    go_enter Try.func45, Try.ntmps45
    go_wp2_with fail
    refine (may_any _ _).mono ?_
    rintro e w1 ⟨rfl, rfl⟩
    rw [hn]
    go_wp2_with fail
    go_ret
    exact ⟨by rw [he]; rfl, HB0.out⟩
end Go.Proofs.Ythekalhceamcoaa
