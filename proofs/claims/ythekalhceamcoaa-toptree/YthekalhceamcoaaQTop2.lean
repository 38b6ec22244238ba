/- What 'TopTree' answers: true. -/
import Derived.Test.YthekalhceamcoaaQT1
import Derived.Deep.QuietTactic
import Derived.BigQuiet
namespace Go.Proofs.Ythekalhceamcoaa
open Go.RowKit
open Qos (Nd Ct Pd nd0 ct0 pd0 nd ct pd classOf sumM sumB Mild Gp gp0 gp podF upTo groups podG contG)
/-- A group lies boxed. -/
def GBoxAt (W : World) (B : Nat) (g : Gp) : Prop := B < W.heap.size ∧ W.cell? ⟨B, 0, none⟩ = some (.string g.path) ∧ W.cell? ⟨B, 1, none⟩ = some (.int .i64 g.sh) ∧ W.cell? ⟨B, 2, none⟩ = some (.int .i64 g.qu) ∧ W.cell? ⟨B, 3, none⟩ = some (.int .i64 g.by')
theorem GBoxAt.made (w : World) (g : Gp) : GBoxAt (w.alloc (.cells #[.string g.path, .int .i64 g.sh, .int .i64 g.qu, .int .i64 g.by'] 107)) w.heap.size g := ⟨by simp, by simp, by simp, by simp, by simp⟩
theorem GBoxAt.below {W W' : World} {B : Nat} {g : Gp} (h : GBoxAt W B g) (hb : Below W.heap.size W W') : GBoxAt W' B g := by
  obtain ⟨h0, h1, h2, h3, h4⟩ := h
  exact ⟨Nat.lt_of_lt_of_le h0 hb.size, (hb.cell (p := ⟨B, 0, none⟩) h0).trans h1, (hb.cell (p := ⟨B, 1, none⟩) h0).trans h2, (hb.cell (p := ⟨B, 2, none⟩) h0).trans h3, (hb.cell (p := ⟨B, 3, none⟩) h0).trans h4⟩
theorem few_zero (W : World) : PodsAt W (.slice none 0 0) [] := ⟨none, 0, rfl, by simp, fun h => by simp at h⟩
theorem fit_nil : Fit [] := ⟨by simp, fun k hk => by simp at hk⟩
theorem groups_nil : (groups words []).length = 2 := by decide
/-- What is asked of a container's group beside its pod's. -/
structure Under (x y : Gp) : Prop where
  len : x.path.size < y.path.size
  pre : y.path.extract 0 x.path.size = x.path
  sh : y.sh ≤ x.sh
  by1 : 0 < x.by' → 0 < y.by' ∧ y.by' ≤ x.by'
  qu1 : 0 < x.qu → 0 ≤ y.qu ∧ y.qu ≤ x.qu
theorem under {p : Pd} (hm : Mild p.cs) {j : Nat} (hj : j < p.cs.length) : Under (podG words p) (contG words p (ct p.cs j)) := by
  obtain ⟨h1, h2, h3⟩ := Qos.tree words hm hj
  refine ⟨?_, ?_, h1, h2, h3⟩
  · show (Qos.pathOf words p).size < (Qos.pathOf words p ++ words.sep ++ (ct p.cs j).nm).size
    rw [ByteArray.size_append, ByteArray.size_append]
    have : words.sep.size = 1 := rfl
    omega
  · show (Qos.pathOf words p ++ words.sep ++ (ct p.cs j).nm).extract 0 (Qos.pathOf words p).size = Qos.pathOf words p
    rw [ByteArray.append_assoc]
    exact Qos.path_pre _ _
set_option maxRecDepth 100000 in
set_option maxHeartbeats 8000000 in
theorem topTree_any (v : Value) (ps : List Pd) (w : World) (h : PodsAt w v ps) : Calls Try.prog 10 #[v] w fun e w' => e = .returned (.bool true) ∧ Below w.heap.size w w' := by
  obtain ⟨i0, hi, hz0, hz1, hz2⟩ := infoQ_parts infoPod
  have HH := hideIt h
  obtain ⟨ao, c, rfl, hm, hr⟩ := h
  have HR := hideIt hr
  have HM := hideIt hm
  clear hr hm
  go_enter Try.func10, Try.ntmps10
  go_wp2_with fail
  refine (groups_any _ [] w (few_zero w) fit_nil).mono ?_
  rintro e w1 ⟨⟨gv, rfl, hg⟩, hb1⟩
  have HB1 := hideIt hb1
  obtain ⟨ga, gc, hgv, _⟩ := hg.read (by rw [groups_nil]; decide)
  rw [groups_nil] at hgv
  subst hgv
  clear hg hb1
  go_wp2_with fail
  refine (lightPods_any _ ps _ (HH.out.below HB1.out)).mono ?_
  rintro e w2 ⟨⟨bl, rfl, hfew⟩, hb2⟩
  have HB2 := hideIt (HB1.out.trans (hb2.mono HB1.out.size))
  clear hb2 HB1
  rcases two bl with e1 | e1
  · subst e1
    have hl16 := hfew rfl
    clear hfew
    go_wp2_with fail
    go_loopw [3, 4] (fun g i wr => ∃ (k : Nat) (l : List (Pd × Value)), k ≤ ps.length ∧ i = .int .i64 k ∧ Below w.heap.size w wr ∧ GoodRow w wr g l ∧ l.length ≤ k) (fun _ i _ => ps.length - (intOf i).toNat)
    case atStart => exact ⟨0, [], by omega, rfl, HB2.out, GoodRow.nil _ _, by simp⟩
    case round =>
      obtain ⟨k, l, hk, rfl, hB, hG, hlk⟩ := hrel
      clear HB2
      by_cases hlt : k < ps.length
      · obtain ⟨b, o, cv, rfl, hin⟩ := HR.out (by omega)
        have HC0 := hideIt (hin.2 k hlt).2
        have hin := hin.below hB
        obtain ⟨c0, c1, c2, hcn⟩ := hin.at hlt
        have HCK := hideIt (check_any (pd ps k) (cv k) wr hcn)
        have hsl := hcn.slice
        have HB := hideIt hB
        have HG := hideIt hG
        have HGL := hideIt hG.1.lt
        have hlb := hin.1
        unfold podV at HCK
        clear hin hcn hB hG
        generalize pd ps k = x at *
        generalize hdd : cv k = d at *
        obtain ⟨da, dn, dc, rfl⟩ := hsl
        go_wp2_with fail
        refine HCK.out.mono ?_
        rintro e w3 ⟨rfl, hb3⟩
        have HB3 := hideIt (HB.out.trans (hb3.mono HB.out.size))
        have HG3 := hideIt (HG.out.below hb3)
        have d0 := (hb3.cell (p := ⟨b, o + k * 3, none⟩) hlb).trans c0
        have d1 := (hb3.cell (p := ⟨b, o + k * 3 + 1, none⟩) hlb).trans c1
        have d2 := (hb3.cell (p := ⟨b, o + k * 3 + 2, none⟩) hlb).trans c2
        clear hb3 HB HG HCK
        by_cases hf : podF x = 0
        · rw [hf, errV_nil]
          have HF := hideIt hf
          have HB4 := hideIt (HB3.out.alloc HB3.out.size (.cells #[.string x.nm, .int .i64 x.pr, .slice da dn dc] 60))
          have HG4 := hideIt (HG3.out.below ((Below.refl _ w3).alloc (Nat.le_refl _) (.cells #[.string x.nm, .int .i64 x.pr, .slice da dn dc] 60)))
          have HN4 := hideIt (new_pod w3 x (.slice da dn dc) 60)
          have HGL3 := hideIt HG3.out.1.lt
          clear hf
          go_wp2_with (at_builtin; refine wpList_append_own _ rfl _ _ 84 rfl w.heap.size 60 i0 (.agg #[.string ByteArray.empty, .int .i64 0, .slice none 0 0]) 3 48 Try.underlying84 hi hz0 hz1 hz2 rfl (by decide) u3 _ _ rfl HG4.out.1 ⟨_, 0, none⟩ 1 1 [.string x.nm, .int .i64 x.pr, .slice da dn dc] rfl rfl HN4.out (by intro u hu; simp at hu; rcases hu with rfl | rfl | rfl <;> rfl) (by unfold maxLen; omega) (by omega) HB4.out.size ?_; intro v2 w5 hown' hgrow' _)
          have HB5 := hideIt (HB4.out.grown hgrow' HB4.out.size (fun i hi => (HGL3.out i hi).1))
          have HG5 := hideIt (GoodRow.push (x := (x, .slice da dn dc)) hown' HG4.out.2 ⟨HF.out, HC0.out⟩)
          clear hown' hgrow'
          go_roundw
          case rel => exact ⟨k + 1, _, by omega, by go_num, HB5.out, HG5.out, by simp; omega⟩
          case measure => simp [intOf]; omega
        · rw [errQ_pos hf]
          go_wp2_with fail
          go_roundw
          case rel => exact ⟨k + 1, l, by omega, by go_num, HB3.out, HG3.out, by omega⟩
          case measure => simp [intOf]; omega
      · have hke : k = ps.length := by omega
        subst hke
        have hP := hG.pods hB
        have hF := hG.fit (by omega)
        have HP := hideIt hP
        have HF := hideIt hF
        have HB := hideIt hB
        generalize hqs : l.map Prod.fst = qs at *
        clear hG hB
        obtain ⟨qa, qc, hqv, _⟩ := hP
        subst hqv
        have hq16 : qs.length ≤ 16 := hF.1
        clear hqs hlk hlt hk
        clear l
        go_wp2_with fail
        refine (groups_any _ qs _ HP.out HF.out).mono ?_
        rintro e w6 ⟨⟨gv, rfl, hg⟩, hb6⟩
        have HP6 := hideIt (HP.out.below hb6)
        have HB6 := hideIt (HB.out.trans (hb6.mono HB.out.size))
        have h2 : 0 < (groups words qs).length := by
          obtain ⟨r, hr⟩ := Qos.upTo_pre words qs 0 qs.length (by omega)
          have : (groups words qs).length = (upTo words qs qs.length).length := rfl
          rw [this, hr, List.length_append, Qos.upTo_len0]
          omega
        have hR := hg.read h2
        have HG6 := hideIt hR
        obtain ⟨ga', gc', rfl, _⟩ := hR
        have HU := hideIt (fun k (hk : k ≤ qs.length) => Qos.upTo_most hF.1 (fun j hj => (hF.2 j hj).1.1) words (k := k) hk)
        have HE : Hid ((groups words qs).length = (upTo words qs qs.length).length) := rfl
        have hgl : (groups words qs).length ≤ 66 := by rw [HE.out]; exact HU.out _ (Nat.le_refl _)
        clear hg hb6 HB HP hF
        go_wp2_with fail
        go_loopw [6, 7] (fun a i wq => ∃ k : Nat, k ≤ qs.length ∧ i = .int .i64 k ∧ a = .int .i64 ((upTo words qs k).length : Nat) ∧ Below w6.heap.size w6 wq) (fun _ i _ => qs.length - (intOf i).toNat)
        case atStart => exact ⟨0, by omega, rfl, by rw [Qos.upTo_len0]; rfl, Below.refl _ _⟩
        case round =>
          obtain ⟨k, hk, rfl, rfl, hB⟩ := hrel
          by_cases hlt : k < qs.length
          · obtain ⟨g1, g2⟩ := Qos.groups_pod words hlt
            have hul := HU.out k hk
            obtain ⟨_, _, hv, hr⟩ := HG6.out.below hB
            cases hv
            obtain ⟨gb, rfl, hglb, hgc⟩ := hr h2
            obtain ⟨c0, c1, c2, c3⟩ := hgc _ g1
            rw [g2] at c0 c1 c2 c3
            have HGX := hideIt (GBoxAt.made wr (podG words (pd qs k)))
            have HBx := hideIt (hB.alloc hB.size (.cells #[.string (podG words (pd qs k)).path, .int .i64 (podG words (pd qs k)).sh, .int .i64 (podG words (pd qs k)).qu, .int .i64 (podG words (pd qs k)).by'] 107))
            have HST := hideIt (Qos.upTo_step words hlt)
            have HGC := hideIt (fun j => Qos.groups_cont words (j := j) hlt)
            have HUN := hideIt (fun j => under (j := j) (HF.out.2 k hlt).1)
            have hlen3 := (HF.out.2 k hlt).1.1
            have HPK := hideIt HP6.out
            clear hr hgc hB g2
            generalize podG words (pd qs k) = X at *
            generalize hUL : (upTo words qs k).length = U at *
            have hge : decide ((groups words qs).length ≤ U) = false := decide_eq_false (by omega)
            have hge' : decide (((groups words qs).length : Int) ≤ (U : Int)) = false := decide_eq_false (by omega)
            go_wp2_with fail
            clear hge hge' c0 c1 c2 c3
            go_loopw [6, 9] (fun a i wq => ∃ j : Nat, j ≤ (pd qs k).cs.length ∧ i = .int .i64 j ∧ a = .int .i64 ((U + 1 + j : Nat) : Int) ∧ Below w6.heap.size w6 wq ∧ GBoxAt wq wr.heap.size X) (fun _ i _ => (pd qs k).cs.length - (intOf i).toNat)
            case atStart => exact ⟨0, by omega, rfl, by simp, HBx.out, HGX.out⟩
            case round =>
              obtain ⟨j, hj, rfl, rfl, hB, hX⟩ := hrel
              clear HBx HGX
              obtain ⟨_, _, hv, _, hr⟩ := HPK.out.below hB
              cases hv
              obtain ⟨pb, po, pcv, rfl, hpin⟩ := hr (by omega)
              obtain ⟨_, _, p2, hpc⟩ := hpin.at hlt
              obtain ⟨pa, pc, hpv, _, _⟩ := hpc
              rw [hpv] at p2
              clear hpin hr hpv
              by_cases hjl : j < (pd qs k).cs.length
              · obtain ⟨g3, g4⟩ := HGC.out j hjl
                obtain ⟨_, _, hv, hr⟩ := HG6.out.below hB
                cases hv
                obtain ⟨gb2, hgb, hglb2, hgc⟩ := hr h2
                cases hgb
                obtain ⟨c0, c1, c2, c3⟩ := hgc _ g3
                rw [g4] at c0 c1 c2 c3
                have hun := HUN.out j hjl
                have hba := (Below.refl _ wr).alloc (Nat.le_refl _) (.cells #[.string (contG words (pd qs k) (ct (pd qs k).cs j)).path, .int .i64 (contG words (pd qs k) (ct (pd qs k).cs j)).sh, .int .i64 (contG words (pd qs k) (ct (pd qs k).cs j)).qu, .int .i64 (contG words (pd qs k) (ct (pd qs k).cs j)).by'] 107)
                have HBa := hideIt (hB.trans (hba.mono hB.size))
                have HXa := hideIt (hX.below hba)
                have HYa := hideIt (GBoxAt.made wr (contG words (pd qs k) (ct (pd qs k).cs j)))
                clear hgc hr hba hB hX g4
                generalize contG words (pd qs k) (ct (pd qs k).cs j) = Y at *
                generalize hV : U + 1 + j = V at *
                generalize (pd qs k).cs.length = CL at *
                have hge : decide ((groups words qs).length ≤ V) = false := decide_eq_false (by omega)
                have hge' : decide (((groups words qs).length : Int) ≤ (V : Int)) = false := decide_eq_false (by omega)
                have hVs : V ≤ 66 := by omega
                obtain ⟨x0, x1, x2, x3, x4⟩ := HXa.out
                obtain ⟨y0, y1, y2, y3, y4⟩ := HYa.out
                have HNX := hideIt (show V + 1 = U + 1 + (j + 1) by omega)
                go_wp2_with fail
                obtain ⟨u1, u2, u3, u4, u5⟩ := hun
                have n1 : decide (Y.path.size ≤ X.path.size) = false := decide_eq_false (by omega)
                have n2 : decide ((Y.path.size : Int) ≤ (X.path.size : Int)) = false := decide_eq_false (by omega)
                have n3 : X.path.size ≤ Y.path.size := by omega
                have n4 : decide (X.sh < Y.sh) = false := decide_eq_false (by omega)
                have HU4 := hideIt u4
                have HU5 := hideIt u5
                clear u4 u5 HXa HYa c0 c1 c2 c3 p2 HUN HGC hge hge' g3 u1
                generalize hW1 : wr.alloc (.cells #[.string Y.path, .int .i64 Y.sh, .int .i64 Y.qu, .int .i64 Y.by'] 107) = W1 at *
                clear hW1
                generalize Y.path = yp at *
                go_quiet (fail)
                have hbq := below_drewN (Below.refl W1.heap.size W1) nq
                have HBq := hideIt (HBa.out.trans (hbq.mono HBa.out.size))
                have HXq := hideIt (GBoxAt.below (g := X) ⟨x0, x1, x2, x3, x4⟩ hbq)
                obtain ⟨_, _, _, f3, f4⟩ := HXq.out
                have k3 := (hbq.cell (p := ⟨wr.heap.size, 2, none⟩) y0).trans y3
                have k4 := (hbq.cell (p := ⟨wr.heap.size, 3, none⟩) y0).trans y4
                clear hbq x0 x1 x2 x3 x4 y0 y1 y2 y3 y4 HBa n1 n2 n3 n4
                generalize W1.drewN nq = W2 at *
                have hB' : (0 < X.by' ∧ (Y.by' == 0) = false ∧ ¬ X.by' < Y.by') ∨ ¬ 0 < X.by' := by
                  by_cases h : 0 < X.by'
                  · have := HU4.out h
                    exact .inl ⟨h, by simp; omega, by omega⟩
                  · exact .inr h
                have hQ' : (0 < X.qu ∧ ¬ Y.qu < 0 ∧ ¬ X.qu < Y.qu) ∨ ¬ 0 < X.qu := by
                  by_cases h : 0 < X.qu
                  · have := HU5.out h
                    exact .inl ⟨h, by omega, by omega⟩
                  · exact .inr h
                clear HU4 HU5
                generalize Y.sh = ysh at *
                generalize Y.qu = yqu at *
                generalize Y.by' = yby at *
                rcases hB' with ⟨t1, t2, t3⟩ | t1
                all_goals rcases hQ' with ⟨r1, r2, r3⟩ | r1
                all_goals go_wp2_with fail
                all_goals
                  refine ⟨⟨j + 1, by omega, by go_num, ?_, HBq.out, HXq.out⟩, by simp [intOf]; omega⟩
                  rw [← HNX.out]
                  simp
              · have hje : j = (pd qs k).cs.length := by omega
                have HBe := hideIt hB
                clear hB hX
                subst hje
                go_wp2_with fail
                go_roundw
                case rel => exact ⟨k + 1, by omega, by go_num, by rw [HST.out], HBe.out⟩
                case measure => simp [intOf]; omega
          · have hke : k = qs.length := by omega
            subst hke
            have HBe := hideIt (HB6.out.trans (hB.mono HB6.out.size))
            rw [← HE.out]
            clear hB
            go_wp2_with fail
            go_ret
            exact ⟨by simp, HBe.out⟩
  · subst e1
    go_wp2_with fail
    go_ret
    exact ⟨rfl, HB2.out⟩
end Go.Proofs.Ythekalhceamcoaa
