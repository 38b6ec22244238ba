/- What 'TopRank' answers: true. -/
import Derived.Test.YthekalhceamcoaaET1
import Derived.Test.YthekalhceamcoaaEMath6
namespace Go.Proofs.Ythekalhceamcoaa
open Go.RowKit
open Qos (Nd Ct Pd pd0 nd ct pd sumM sumB Mild usedOf Tame key Ranked podF restFrom outOf butOne Unlike)
def onePd : Pd := ⟨⟨#[97]⟩, 0, []⟩
theorem one_at (w : World) : PodsAt (w.alloc (.cells #[.string ⟨#[97]⟩, .int .i64 0, .slice none 0 0] 60)) (.slice (some ⟨w.heap.size, 0, none⟩) 1 1) [onePd] := by
  refine ⟨_, 1, rfl, by decide, fun _ => ⟨w.heap.size, 0, fun _ => .slice none 0 0, rfl, by simp, fun k hk => ?_⟩⟩
  have : k = 0 := by simp at hk; omega
  subst this
  exact ⟨⟨by simp [pd, onePd], by simp [pd, onePd], by simp⟩, ⟨none, 0, rfl, ⟨by simp [pd, onePd], by decide⟩, fun h => by simp [pd, onePd] at h⟩⟩
theorem few_nil : FewUses [] := ⟨by simp, fun k hk => by simp at hk, fun k hk => by simp at hk⟩
theorem one_fit : FitE [onePd] := ⟨by simp, fun x hx => by simp at hx; subst hx; exact ⟨Qos.mild_nil, by decide⟩⟩
theorem no_uses (w : World) : NeedsAt w (.slice none 0 0) [] := ⟨none, 0, rfl, by simp, fun h => by simp at h⟩
theorem sorted_len {us : List Nd} {ps qs : List Pd} (h : Sorted us ps qs) : (qs.map Pd.nm).length = ps.length := by rw [List.length_map, h.1.length_eq]
theorem texts_slice {w : World} {v : Value} {l : List ByteArray} (h : TextsAt w v l) : ∃ a c, v = .slice a l.length c := by
  obtain ⟨a, c, hv, _⟩ := h
  exact ⟨a, c, hv⟩
theorem fit_of {ps : List Pd} (hl : ps.length ≤ 16) (h : ∀ j, j < ps.length → podF (pd ps j) = 0) : FitE ps := by
  refine ⟨hl, fun x hx => ?_⟩
  obtain ⟨j, hj, rfl⟩ := List.getElem_of_mem hx
  have := h j hj
  simp [pd, hj] at this
  exact ⟨Qos.pod_mild this, by have := name_size (Qos.pod_len this).1; omega⟩
set_option maxRecDepth 100000 in
set_option maxHeartbeats 16000000 in
theorem topRank_any (v : Value) (ps : List Pd) (uv : Value) (us : List Nd) (n : Int) (w : World) (h : PodsAt w v ps) (hu : NeedsAt w uv us) : Calls Try.prog 12 #[v, uv, .int .i64 n] w fun e w' => e = .returned (.bool true) ∧ Below w.heap.size w w' := by
  obtain ⟨i0, hi, hz0, hz1, hz2⟩ := infoQ_parts infoPod
  obtain ⟨j0, hj0, hy0, hy1, hy2⟩ := infoQ_parts infoStr
  have HH := hideIt h
  have HU := hideIt hu
  have hb0 := (Below.refl w.heap.size w).alloc (Nat.le_refl _) (.cells #[.string ⟨#[97]⟩, .int .i64 0, .slice none 0 0] 60)
  have HB0 := hideIt hb0
  have HONE := hideIt (rank_any _ (.slice none 0 0) [onePd] [] _ (one_at w) (no_uses _) one_fit few_nil)
  obtain ⟨ao, c, rfl, _, hr⟩ := h
  have HR := hideIt hr
  obtain ⟨ua, uc, rfl, _, _⟩ := hu
  clear hr hb0
  go_enter Try.func12, Try.ntmps12
  go_wp2_with fail
  refine HONE.out.mono ?_
  rintro e w1 ⟨⟨v1, q1, rfl, ht1, hs1⟩, hb1⟩
  have HB1 := hideIt (HB0.out.trans (hb1.mono HB0.out.size))
  obtain ⟨a1, c1, hv1⟩ := texts_slice ht1
  rw [sorted_len hs1] at hv1
  subst hv1
  clear ht1 hs1 hb1 HB0 HONE
  rw [show [onePd].length = 1 from rfl]
  go_wp2_with fail
  refine (lightPods_any _ ps _ (HH.out.below HB1.out)).mono ?_
  rintro e w2 ⟨⟨bl, rfl, hfew⟩, hb2⟩
  have HB2 := hideIt (HB1.out.trans (hb2.mono HB1.out.size))
  clear hb2 HB1
  rcases two bl with e1 | e1
  · subst e1
    have hl16 := hfew rfl
    clear hfew
    go_wp2_with fail
    refine (lightUsesF_any _ us _ (HU.out.below HB2.out)).mono ?_
    rintro e w3 ⟨⟨bu, rfl, hfu⟩, rfl⟩
    rcases two bu with e2 | e2
    · subst e2
      have HFU := hideIt (hfu rfl)
      clear hfu
      by_cases hp0 : ps.length = 0
      · have d1 : decide ((ps.length : Int) = 0) = true := decide_eq_true (by omega)
        have d2 : ((ps.length : Int) == 0) = true := by rw [hp0]; rfl
        have d3 : (ps.length == 0) = true := by rw [hp0]; rfl
        clear hp0
        go_wp2_with fail
        go_ret
        exact ⟨rfl, HB2.out⟩
      have d2 : ((ps.length : Int) == 0) = false := by rw [beq_eq_false_iff_ne]; omega
      have d3 : (ps.length == 0) = false := by rw [beq_eq_false_iff_ne]; exact hp0
      go_wp2_with fail
      clear d2 d3
      go_loopw [7] (fun i wr => ∃ k : Nat, k ≤ ps.length ∧ i = .int .i64 k ∧ Below w.heap.size w wr ∧ Hid (∀ j, j < k → podF (pd ps j) = 0 ∧ ∀ i, i < j → (pd ps i).nm ≠ (pd ps j).nm)) (fun i _ => ps.length - (intOf i).toNat)
      case atStart => exact ⟨0, by omega, rfl, HB2.out, fun j hj => by omega⟩
      case round =>
        obtain ⟨k, hk, rfl, hB, HAL⟩ := hrel
        clear HB2
        by_cases hlt : k < ps.length
        · obtain ⟨b, o, cv, rfl, hin⟩ := HR.out (by omega)
          have HIN := hideIt hin
          have hin := hin.below hB
          obtain ⟨c0, c1, c2, hcn⟩ := hin.at hlt
          have HCK := hideIt (check_any (pd ps k) (cv k) wr hcn)
          have hsl := hcn.slice
          have HB := hideIt hB
          have HNX := hideIt (fun (hf : podF (pd ps k) = 0) (hn : ∀ i, i < k → (pd ps i).nm ≠ (pd ps k).nm) => (show ∀ j, j < k + 1 → podF (pd ps j) = 0 ∧ ∀ i, i < j → (pd ps i).nm ≠ (pd ps j).nm from fun j hj => by
            by_cases e : j = k
            · subst e; exact ⟨hf, hn⟩
            · exact HAL.out j (by omega)))
          unfold podV at HCK
          clear hin hcn hB HAL
          generalize hx : pd ps k = x at *
          generalize cv k = d at *
          obtain ⟨da, dn, dc, rfl⟩ := hsl
          go_wp2_with fail
          refine HCK.out.mono ?_
          rintro e w4 ⟨rfl, hb4⟩
          have HB4 := hideIt (HB.out.trans (hb4.mono HB.out.size))
          clear hb4 HB HCK c0 c1 c2
          by_cases hf : podF x = 0
          · have HNX := hideIt (HNX.out hf)
            rw [hf, errV_nil]
            clear hf
            go_wp2_with fail
            go_loopw [8] (fun i wq => ∃ q : Nat, q ≤ k ∧ i = .int .i64 q ∧ Below w.heap.size w wq ∧ Hid (∀ j, j < q → (pd ps j).nm ≠ x.nm)) (fun i _ => k - (intOf i).toNat)
            case atStart => exact ⟨0, by omega, rfl, HB4.out, fun j hj => by omega⟩
            case round =>
              obtain ⟨q, hq, rfl, hBq, HQ⟩ := hrel
              by_cases hql : q < k
              · obtain ⟨y0, _⟩ := (HIN.out.below hBq).at (k := q) (by omega)
                obtain ⟨z0, _⟩ := (HIN.out.below hBq).at hlt
                rw [hx] at z0
                have hqb : q < ps.length := by omega
                have HBq := hideIt hBq
                have HQN := hideIt (fun (hs : (pd ps q).nm ≠ x.nm) => (show ∀ j, j < q + 1 → (pd ps j).nm ≠ x.nm from fun j hj => by
                  by_cases e : j = q
                  · subst e; exact hs
                  · exact HQ.out j (by omega)))
                clear hBq HQ
                by_cases hs : (pd ps q).nm = x.nm
                · rw [hs] at y0
                  clear hs HQN
                  go_wp2_with fail
                  go_quiet (fail)
                  have HBe := hideIt (below_drewN HBq.out nq)
                  go_wp2_with fail
                  go_ret
                  exact ⟨rfl, HBe.out⟩
                · have hsb : ((pd ps q).nm.toList == x.nm.toList) = false := by rw [eq_str]; exact decide_eq_false hs
                  have HQN' := hideIt (HQN.out hs)
                  clear hs HQN
                  generalize (pd ps q).nm = yn at *
                  go_wp2_with fail
                  go_quiet (fail)
                  have HBe := hideIt (below_drewN HBq.out nq)
                  go_wp2_with fail
                  go_roundw
                  case rel => exact ⟨q + 1, by omega, by go_num, HBe.out, HQN'⟩
                  case measure => simp [intOf]; omega
              · have hqe : q = k := by omega
                subst hqe
                have HBe := hideIt hBq
                have HN' := hideIt (HNX.out HQ.out)
                clear hBq HQ
                go_wp2_with fail
                go_roundw
                case rel => exact ⟨q + 1, by omega, by go_num, HBe.out, HN'⟩
                case measure => simp [intOf]; omega
          · rw [errQ_pos hf]
            go_wp2_with fail
            go_ret
            exact ⟨rfl, HB4.out⟩
        · have hke : k = ps.length := by omega
          subst hke
          have HB := hideIt hB
          have HFIT := hideIt (fit_of hl16 (fun j hj => (HAL.out j hj).1))
          have HPF := hideIt (fun j (hj : j < ps.length) => (HAL.out j hj).1)
          have HUN := hideIt (Qos.unlike_of (fun j hj => (HAL.out j hj).2))
          have hpos : 0 < ps.length := by omega
          obtain ⟨ho1, ho2⟩ := Qos.out_eq n hpos
          have HAND := Qos.and_1023 n
          have hwr : wrap64 ((ps.length : Int) - 1) = (ps.length : Int) - 1 := by unfold wrap64; omega
          have hz : ¬ ((ps.length : Int) = 0) := by omega
          clear hB HAL hlt hk
          generalize outOf n ps.length = kk at *
          go_wp2_with fail
          clear HAND ho1 hwr hz
          go_loopw [10, 11] (fun g i wq => ∃ (j : Nat) (l : List (Pd × Value)), j ≤ ps.length ∧ i = .int .i64 ((j : Int) - 1) ∧ Below w.heap.size w wq ∧ GoodRow w wq g l ∧ l.map Prod.fst = restFrom ps kk j) (fun _ i _ => (intOf i + 1).toNat)
          case atStart => exact ⟨ps.length, [], by omega, rfl, HB.out, GoodRow.nil _ _, (Qos.rest_end ps kk).symm⟩
          case round =>
            obtain ⟨j, l, hj, rfl, hB, hG, hl⟩ := hrel
            clear HB
            cases j with
            | zero =>
              have HB := hideIt hB
              have HG := hideIt hG
              have HL := hideIt hl
              rw [show ((0 : Nat) : Int) - 1 = -1 from rfl]
              clear hB hG hl
              have HRK := hideIt (rank_any _ _ ps us wr (HH.out.below HB.out) (HU.out.below HB.out) HFIT.out HFU.out)
              go_wp2_with fail
              refine HRK.out.mono ?_
              rintro e w6 ⟨⟨v6, qs, rfl, ht6, hs6⟩, hb6⟩
              have HB6 := hideIt (HB.out.trans (hb6.mono HB.out.size))
              have HG6 := hideIt (HG.out.below hb6)
              have HT6 := hideIt ht6
              have HS6 := hideIt hs6
              have hRl : (qs.map Pd.nm).length ≤ 16 := by rw [sorted_len hs6]; exact hl16
              obtain ⟨a6, c6, hv6⟩ := texts_slice ht6
              subst hv6
              clear hb6 hs6 ht6 HRK HB HG
              generalize hRR : qs.map Pd.nm = R at *
              have HRR := hideIt hRR
              clear hRR
              go_wp2_with fail
              go_loopw [13, 14] (fun g i wq => ∃ k : Nat, k ≤ R.length ∧ i = .int .i64 k ∧ Below w6.heap.size w6 wq ∧ TRow w6.heap.size wq g (butOne (pd ps kk).nm (R.take k))) (fun _ i _ => R.length - (intOf i).toNat)
              case atStart => exact ⟨0, by omega, rfl, Below.refl _ _, World.ownsRow_nil _ _ _ _⟩
              case round =>
                obtain ⟨k, hk, rfl, hB, hT⟩ := hrel
                by_cases hlt : k < R.length
                · obtain ⟨_, _, hv, _, hr6⟩ := HT6.out.below hB
                  cases hv
                  obtain ⟨g6, rfl, hg6, hc6⟩ := hr6 (by omega)
                  have c0 := hc6 k hlt
                  obtain ⟨b, o, cv, rfl, hin⟩ := HR.out (by omega)
                  obtain ⟨p0, _⟩ := (hin.below (HB6.out.trans (hB.mono HB6.out.size))).at ho2
                  have HY := hideIt (@Qos.but_yes R (pd ps kk).nm k hlt)
                  have HN := hideIt (@Qos.but_no R (pd ps kk).nm k hlt)
                  have HBk := hideIt hB
                  have HTk := hideIt hT
                  have hbl : (butOne (pd ps kk).nm (R.take k)).length ≤ 16 := Nat.le_trans (List.length_filter_le _ _) (by rw [List.length_take]; omega)
                  clear hr6 hc6 hin hB hT
                  generalize R.getD k ByteArray.empty = y at *
                  generalize (pd ps kk).nm = x at *
                  by_cases he : y = x
                  · subst he
                    have HN' := hideIt (HN.out rfl)
                    clear HY HN
                    go_wp2_with fail
                    go_quiet (fail)
                    have hbq := below_drewN (Below.refl wr.heap.size wr) nq
                    have HBq := hideIt (HBk.out.trans (hbq.mono HBk.out.size))
                    have HTq := hideIt (HTk.out.below hbq)
                    clear hbq
                    go_wp2_with fail
                    go_roundw
                    case rel => exact ⟨k + 1, by omega, by go_num, HBq.out, by rw [HN'.out]; exact HTq.out⟩
                    case measure => simp [intOf]; omega
                  · have hsb : (y.toList == x.toList) = false := by rw [eq_str]; exact decide_eq_false he
                    have HY' := hideIt (HY.out he)
                    clear HY HN he
                    go_wp2_with fail
                    go_quiet (fail)
                    have hbq := below_drewN (Below.refl wr.heap.size wr) nq
                    have HBq := hideIt (HBk.out.trans (hbq.mono HBk.out.size))
                    have HTq := hideIt (HTk.out.below hbq)
                    have k0 := (hbq.cell (p := ⟨g6, k, none⟩) hg6).trans c0
                    have HGL := hideIt (World.ownsRow.lt HTq.out)
                    clear hbq c0 p0
                    generalize wr.drewN nq = W7 at *
                    have HB8 := hideIt (HBq.out.alloc HBq.out.size (.cells #[.string y] 9))
                    have HT8 := hideIt (HTq.out.below ((Below.refl _ _).alloc (Nat.le_refl _) (.cells #[.string y] 9)))
                    have HN8 := hideIt (new_text W7 y 9)
                    generalize butOne x (R.take k) = L at *
                    go_wp2_with (at_builtin; refine wpList_append_own _ rfl _ _ 101 rfl w6.heap.size 9 j0 (.string ByteArray.empty) 1 16 Try.underlying101 hj0 hy0 hy1 hy2 rfl (by decide) u13 _ _ rfl HT8.out ⟨_, 0, none⟩ 1 1 [.string y] rfl rfl HN8.out (by intro u hu; simp at hu; subst hu; rfl) (by unfold maxLen; omega) (by omega) HB8.out.size ?_; intro v9 w9 hown' hgrow' _)
                    have HB9 := hideIt (HB8.out.grown hgrow' HB8.out.size (fun i hi => (HGL.out i hi).1))
                    have HT9 : Hid (TRow w6.heap.size w9 v9 (L ++ [y])) := by
                      unfold Hid TRow txV
                      rw [List.map_append, List.length_append]
                      exact hown'
                    clear hown' hgrow'
                    go_roundw
                    case rel => exact ⟨k + 1, by omega, by go_num, HB9.out, by rw [HY'.out]; exact HT9.out⟩
                    case measure => simp [intOf]; omega
                · have hke : k = R.length := by omega
                  subst hke
                  rw [List.take_length] at hT
                  have HBk := hideIt (HB6.out.trans (hB.mono HB6.out.size))
                  have HTk := hideIt hT
                  have hPr := (HG6.out.below hB).pods HBk.out
                  rw [HL.out] at hPr
                  have hFr : FitE (restFrom ps kk 0) := ⟨Nat.le_trans (Qos.rest_len ps kk 0) hl16, fun x hx => HFIT.out.2 x (Qos.rest_mem hx)⟩
                  have HRK := hideIt (rank_any _ _ (restFrom ps kk 0) us wr hPr (HU.out.below HBk.out) hFr HFU.out)
                  obtain ⟨pa, pc, hpv, hx1⟩ := hPr
                  clear hx1
                  subst hpv
                  have hts := hT.read
                  obtain ⟨ta, tc, htv⟩ := texts_slice hts
                  subst htv
                  have HTR := hideIt hts
                  have HEQ := hideIt (fun rs (hs : Sorted us (restFrom ps kk 0) rs) => Qos.left_out (us := us) HUN.out ho2 HS6.out.1 hs.1 HS6.out.2 hs.2)
                  have hbl : (butOne (pd ps kk).nm R).length ≤ 1000 := Nat.le_trans (List.length_filter_le _ _) (by omega)
                  clear hB hT hts hFr
                  go_wp2_with fail
                  refine HRK.out.mono ?_
                  rintro e w8 ⟨⟨v8, rs, rfl, ht8, hs8⟩, hb8⟩
                  have HB8 := hideIt (HBk.out.trans (hb8.mono HBk.out.size))
                  have hE := HEQ.out rs hs8
                  rw [HRR.out] at hE
                  have hE2 : rs.map Pd.nm = butOne (pd ps kk).nm R := hE
                  clear hE
                  rw [hE2] at ht8
                  have HT8 := hideIt ht8
                  have HW8 := hideIt (HTR.out.below hb8)
                  obtain ⟨a8, c8, hv8⟩ := texts_slice ht8
                  subst hv8
                  clear ht8 hb8 hE2 hs8 HEQ
                  clear HTk HTR
                  generalize butOne (pd ps kk).nm R = LL at *
                  go_wp2_with fail
                  refine (sameTexts_any _ _ LL _ HT8.out HW8.out hbl).mono ?_
                  rintro e w9 ⟨rfl, n9, rfl⟩
                  have HB9 := hideIt (below_drewN HB8.out n9)
                  go_wp2_with fail
                  go_ret
                  exact ⟨rfl, HB9.out⟩
            | succ j =>
              have hjl : j < ps.length := by omega
              rw [show ((j + 1 : Nat) : Int) - 1 = (j : Int) by omega]
              obtain ⟨b, o, cv, rfl, hin⟩ := HR.out (by omega)
              have HC0 := hideIt (hin.2 j hjl).2
              obtain ⟨c0, c1, c2, hcn⟩ := (hin.below hB).at hjl
              have hsl := hcn.slice
              have hst := Qos.rest_step ps (k := kk) hjl
              have hpf := HPF.out j hjl
              have hwj : wrap64 ((j : Int) - 1) = (j : Int) - 1 := by unfold wrap64; omega
              have HB := hideIt hB
              have HG := hideIt hG
              have hll : l.length ≤ 16 := by have := Qos.rest_len ps kk (j + 1); rw [← hl, List.length_map] at this; omega
              have HGL := hideIt hG.1.lt
              clear hin hcn hB hG
              by_cases hjk : j = kk
              · have HST := hideIt (show l.map Prod.fst = restFrom ps kk j by rw [hst, if_neg (by omega)]; exact hl)
                have hb : ((j : Int) != (kk : Int)) = false := by simp [hjk]
                have hb' : (j != kk) = false := by simp [hjk]
                clear hjk hst hl
                go_wp2_with fail
                refine ⟨⟨j, l, by omega, rfl, HB.out, HG.out, HST.out⟩, by simp [intOf]⟩
              · have HST := hideIt (show (l ++ [(pd ps j, cv j)]).map Prod.fst = restFrom ps kk j by rw [hst, if_pos hjk, List.map_append, hl]; rfl)
                have hb : ((j : Int) != (kk : Int)) = true := by simp; omega
                have hb' : (j != kk) = true := by simp [hjk]
                have HX := hideIt (And.intro hpf HC0.out)
                clear hjk hst hl hpf HC0
                generalize pd ps j = x at *
                generalize cv j = d at *
                obtain ⟨da, dn, dc, rfl⟩ := hsl
                have HB4 := hideIt (HB.out.alloc HB.out.size (.cells #[.string x.nm, .int .i64 x.pr, .slice da dn dc] 60))
                have HG4 := hideIt (HG.out.below ((Below.refl _ wr).alloc (Nat.le_refl _) (.cells #[.string x.nm, .int .i64 x.pr, .slice da dn dc] 60)))
                have HN4 := hideIt (new_pod wr x (.slice da dn dc) 60)
                go_wp2_with (at_builtin; refine wpList_append_own _ rfl _ _ 84 rfl w.heap.size 60 i0 (.agg #[.string ByteArray.empty, .int .i64 0, .slice none 0 0]) 3 48 Try.underlying84 hi hz0 hz1 hz2 rfl (by decide) u10 _ _ rfl HG4.out.1 ⟨_, 0, none⟩ 1 1 [.string x.nm, .int .i64 x.pr, .slice da dn dc] rfl rfl HN4.out (by intro u hu; simp at hu; rcases hu with rfl | rfl | rfl <;> rfl) (by unfold maxLen; omega) (by omega) HB4.out.size ?_; intro v2 w5 hown' hgrow' _)
                have HB5 := hideIt (HB4.out.grown hgrow' HB4.out.size (fun i hi => (HGL.out i hi).1))
                have HG5 := hideIt (GoodRow.push (x := (x, .slice da dn dc)) hown' HG4.out.2 HX.out)
                clear hown' hgrow'
                refine ⟨⟨j, _, by omega, rfl, HB5.out, HG5.out, HST.out⟩, by simp [intOf]⟩
    · subst e2
      go_wp2_with fail
      go_ret
      exact ⟨rfl, HB2.out⟩
  · subst e1
    go_wp2_with fail
    go_ret
    exact ⟨rfl, HB2.out⟩
end Go.Proofs.Ythekalhceamcoaa
