/- What 'TopRelieve' answers: true. -/
import Derived.Test.YthekalhceamcoaaET1
import Derived.Test.YthekalhceamcoaaEB2
import Derived.Test.YthekalhceamcoaaEMath6
namespace Go.Proofs.Ythekalhceamcoaa
open Go.RowKit
open Qos (Nd Ct Pd pd0 nd ct pd sumM sumB Mild usedOf Tame key Ranked podF Unlike allOf tail Least)
def onePd : Pd := ⟨⟨#[97]⟩, 0, []⟩
theorem one_at (w : World) : PodsAt (w.alloc (.cells #[.string ⟨#[97]⟩, .int .i64 0, .slice none 0 0] 60)) (.slice (some ⟨w.heap.size, 0, none⟩) 1 1) [onePd] := by
  refine ⟨_, 1, rfl, by decide, fun _ => ⟨w.heap.size, 0, fun _ => .slice none 0 0, rfl, by simp, fun k hk => ?_⟩⟩
  have : k = 0 := by simp at hk; omega
  subst this
  exact ⟨⟨by simp [pd, onePd], by simp [pd, onePd], by simp⟩, ⟨none, 0, rfl, ⟨by simp [pd, onePd], by decide⟩, fun h => by simp [pd, onePd] at h⟩⟩
theorem one_fit : FitE [onePd] := ⟨by simp, fun x hx => by simp at hx; subst hx; exact ⟨Qos.mild_nil, by decide⟩⟩
def oneUse : Nd := ⟨⟨#[97]⟩, 5⟩
theorem use_at (w : World) : NeedsAt (w.alloc (.cells #[.string ⟨#[97]⟩, .int .i64 5] 109)) (.slice (some ⟨w.heap.size, 0, none⟩) 1 1) [oneUse] := by
  refine ⟨_, 1, rfl, by decide, fun _ => ⟨w.heap.size, 0, rfl, by simp, fun k hk => ?_⟩⟩
  have : k = 0 := by simp at hk; omega
  subst this
  exact ⟨by simp [nd, oneUse], by simp [nd, oneUse]⟩
theorem one_few : FewUses [oneUse] := by
  refine ⟨by simp, fun k hk => ?_, fun k hk => ?_⟩
  · have : k = 0 := by simp at hk; omega
    subst this
    simp [nd, oneUse]
  · have : k = 0 := by simp at hk; omega
    subst this
    simp [nd, oneUse]; decide
theorem one_gone {qs : List Pd} {g : Nat} (h : Sorted [oneUse] [onePd] qs) (hg : Least [oneUse] qs 4 0 g) : ((qs.take g).map Pd.nm).length = 1 := by
  have e : qs = [onePd] := List.perm_singleton.1 h.1
  subst e
  have h1 := hg.hi
  have h2 : g ≠ 0 := fun e0 => by
    subst e0
    have := hg.yes (by simp)
    have e5 : tail [oneUse] [onePd] 0 = 5 := by simp [tail, usedOf, oneUse, onePd]
    omega
  simp at h1
  have : g = 1 := by omega
  subst this
  rfl
theorem texts_slice {w : World} {v : Value} {l : List ByteArray} (h : TextsAt w v l) : ∃ a c, v = .slice a l.length c ∧ l.length ≤ c := by
  obtain ⟨a, c, hv, hc, _⟩ := h
  exact ⟨a, c, hv, hc⟩
theorem texts_take {w : World} {a : Option Addr} {n c : Nat} {l : List ByteArray} (h : TextsAt w (.slice a n c) l) {g : Nat} (hg : g ≤ l.length) : TextsAt w (.slice a g c) (l.take g) := by
  obtain ⟨ao, c', hv, hc, hr⟩ := h
  cases hv
  have hl : (l.take g).length = g := by rw [List.length_take]; omega
  refine ⟨a, c, by rw [hl], by omega, fun h0 => ?_⟩
  obtain ⟨b, ha, hlt, hcs⟩ := hr (by omega)
  refine ⟨b, ha, hlt, fun k hk => ?_⟩
  rw [hl] at hk
  rw [hcs k (by omega)]
  simp [hk]
theorem take_at {qs : List Pd} {g k : Nat} (hk : k < g) (hg : g ≤ qs.length) : ((qs.take g).map Pd.nm).getD k ByteArray.empty = (pd qs k).nm := by
  have h : k < qs.length := by omega
  simp [pd, h, hk]
theorem fit_of {ps : List Pd} (hl : ps.length ≤ 16) (h : ∀ j, j < ps.length → podF (pd ps j) = 0) : FitE ps := by
  refine ⟨hl, fun x hx => ?_⟩
  obtain ⟨j, hj, rfl⟩ := List.getElem_of_mem hx
  have := h j hj
  simp [pd, hj] at this
  exact ⟨Qos.pod_mild this, by have := name_size (Qos.pod_len this).1; omega⟩
set_option maxRecDepth 100000 in
set_option maxHeartbeats 16000000 in
theorem topRelieve_any (v : Value) (ps : List Pd) (uv : Value) (us : List Nd) (most : Int) (w : World) (h : PodsAt w v ps) (hu : NeedsAt w uv us) (wn : (Lit.int .i64 most).wf = true) : Calls Try.prog 11 #[v, uv, .int .i64 most] w fun e w' => e = .returned (.bool true) ∧ Below w.heap.size w w' := by
  have HH := hideIt h
  have HU := hideIt hu
  have hmost : -9223372036854775808 ≤ most ∧ most ≤ 9223372036854775807 := by
    have := bounds_i64 wn
    omega
  have hb0 := (Below.refl w.heap.size w).alloc (Nat.le_refl _) (.cells #[.string ⟨#[97]⟩, .int .i64 0, .slice none 0 0] 60)
  have HB0 := hideIt (hb0.alloc hb0.size (.cells #[.string ⟨#[97]⟩, .int .i64 5] 109))
  have hua := use_at (w.alloc (.cells #[.string ⟨#[97]⟩, .int .i64 0, .slice none 0 0] 60))
  have HONE := hideIt (relieve_any _ _ [onePd] [oneUse] 4 _ ((one_at w).below ((Below.refl _ _).alloc (Nat.le_refl _) (.cells #[.string ⟨#[97]⟩, .int .i64 5] 109))) hua one_fit one_few (by omega) (by omega))
  rw [World.size_alloc] at HONE
  obtain ⟨ao, c, rfl, _, hr⟩ := h
  have HR := hideIt hr
  obtain ⟨ua, uc, rfl, _, hru⟩ := hu
  clear hr hb0 hua hru wn
  go_enter Try.func11, Try.ntmps11
  go_wp2_with fail
  refine HONE.out.mono ?_
  rintro e w1 ⟨⟨v1, q1, g1, rfl, ht1, hs1, hl1⟩, hb1⟩
  have HB1 := hideIt (HB0.out.trans (hb1.mono HB0.out.size))
  obtain ⟨a1, c1, hv1, _⟩ := texts_slice ht1
  rw [one_gone hs1 hl1] at hv1
  subst hv1
  clear ht1 hs1 hl1 hb1 HB0 HONE
  go_wp2_with fail
  refine (lightPods_any _ ps _ (HH.out.below HB1.out)).mono ?_
  rintro e w2 ⟨⟨bl, rfl, hfew⟩, hb2⟩
  have HB2 := hideIt (HB1.out.trans (hb2.mono HB1.out.size))
  clear hb2 HB1
  rcases two bl with e1 | e1
  · subst e1
    have hl16 := hfew rfl
    clear hfew
    go_wp2_with fail
    refine (lightUsesF_any _ us _ (HU.out.below HB2.out)).mono ?_
    rintro e w3 ⟨⟨bu, rfl, hfu⟩, rfl⟩
    rcases two bu with e2 | e2
    · subst e2
      have HFU := hideIt (hfu rfl)
      have hul : us.length ≤ 20 := (hfu rfl).1
      clear hfu
      obtain ⟨_, _, hvu, _, hru⟩ := HU.out.below HB2.out
      cases hvu
      have HRU := hideIt hru
      clear hru
      go_wp2_with fail
      go_loop [7] (fun i => ∃ k : Nat, k ≤ us.length ∧ i = .int .i64 k) (fun i => us.length - (intOf i).toNat)
      case atStart => exact ⟨0, by omega, rfl⟩
      case round =>
        obtain ⟨k, hk, rfl⟩ := hrel
        by_cases hlt : k < us.length
        · obtain ⟨b, o, rfl, hlb, hcs⟩ := HRU.out (by omega)
          obtain ⟨c0, c1⟩ := hcs k hlt
          clear hcs
          generalize nd us k = x at *
          by_cases hn : x.many < 0
          · go_wp2_with fail
            go_ret
            exact ⟨rfl, HB2.out⟩
          · have hn' : 0 ≤ x.many := by omega
            clear hn
            go_wp2_with fail
            go_round
            case rel => exact ⟨k + 1, by omega, by go_num⟩
            case measure => simp [intOf]; omega
        · have hke : k = us.length := by omega
          subst hke
          clear HRU hlt hk
          go_wp2_with fail
          go_loopw [8, 9] (fun a i wr => ∃ k : Nat, k ≤ ps.length ∧ a = .int .i64 (allOf us ps k) ∧ i = .int .i64 k ∧ Below w.heap.size w wr ∧ Hid (∀ j, j < k → podF (pd ps j) = 0 ∧ ∀ i, i < j → (pd ps i).nm ≠ (pd ps j).nm)) (fun _ i _ => ps.length - (intOf i).toNat)
          case atStart => exact ⟨0, by omega, rfl, rfl, HB2.out, fun j hj => by omega⟩
          case round =>
            obtain ⟨k, hk, rfl, rfl, hB, HAL⟩ := hrel
            clear HB2
            by_cases hlt : k < ps.length
            · obtain ⟨b, o, cv, rfl, hin⟩ := HR.out (by omega)
              have HIN := hideIt hin
              have hin := hin.below hB
              obtain ⟨c0, c1, c2, hcn⟩ := hin.at hlt
              have HCK := hideIt (check_any (pd ps k) (cv k) wr hcn)
              have hsl := hcn.slice
              have HB := hideIt hB
              have hA1 := Qos.allOf_in HFU.out.2.1 ps (n := k) (by omega)
              have hA2 := Qos.allOf_in HFU.out.2.1 ps (n := k + 1) (by omega)
              have hA3 : allOf us ps (k + 1) = allOf us ps k + usedOf us (pd ps k).nm := rfl
              have HNX := hideIt (fun (hf : podF (pd ps k) = 0) (hn : ∀ i, i < k → (pd ps i).nm ≠ (pd ps k).nm) => (show ∀ j, j < k + 1 → podF (pd ps j) = 0 ∧ ∀ i, i < j → (pd ps i).nm ≠ (pd ps j).nm from fun j hj => by
                by_cases e : j = k
                · subst e; exact ⟨hf, hn⟩
                · exact HAL.out j (by omega)))
              unfold podV at HCK
              have HA3 := hideIt (And.intro hA1 (And.intro hA2 hA3))
              clear hin hcn hB HAL hA1 hA2 hA3
              generalize hx : pd ps k = x at *
              generalize cv k = d at *
              obtain ⟨da, dn, dc, rfl⟩ := hsl
              go_wp2_with fail
              refine HCK.out.mono ?_
              rintro e w4 ⟨rfl, hb4⟩
              have HB4 := hideIt (HB.out.trans (hb4.mono HB.out.size))
              clear hb4 HB HCK c0 c1 c2
              by_cases hf : podF x = 0
              · have HNX := hideIt (HNX.out hf)
                rw [hf, errV_nil]
                clear hf
                go_wp2_with fail
                go_loopw [10] (fun i wq => ∃ q : Nat, q ≤ k ∧ i = .int .i64 q ∧ Below w.heap.size w wq ∧ Hid (∀ j, j < q → (pd ps j).nm ≠ x.nm)) (fun i _ => k - (intOf i).toNat)
                case atStart => exact ⟨0, by omega, rfl, HB4.out, fun j hj => by omega⟩
                case round =>
                  obtain ⟨q, hq, rfl, hBq, HQ⟩ := hrel
                  by_cases hql : q < k
                  · obtain ⟨y0, _⟩ := (HIN.out.below hBq).at (k := q) (by omega)
                    obtain ⟨z0, _⟩ := (HIN.out.below hBq).at hlt
                    rw [hx] at z0
                    have hqb : q < ps.length := by omega
                    have HBq := hideIt hBq
                    have HQN := hideIt (fun (hs : (pd ps q).nm ≠ x.nm) => (show ∀ j, j < q + 1 → (pd ps j).nm ≠ x.nm from fun j hj => by
                      by_cases e : j = q
                      · subst e; exact hs
                      · exact HQ.out j (by omega)))
                    clear hBq HQ
                    by_cases hs : (pd ps q).nm = x.nm
                    · rw [hs] at y0
                      clear hs HQN
                      go_wp2_with fail
                      go_quiet (fail)
                      have HBe := hideIt (below_drewN HBq.out nq)
                      go_wp2_with fail
                      go_ret
                      exact ⟨rfl, HBe.out⟩
                    · have hsb : ((pd ps q).nm.toList == x.nm.toList) = false := by rw [eq_str]; exact decide_eq_false hs
                      have HQN' := hideIt (HQN.out hs)
                      clear hs HQN
                      generalize (pd ps q).nm = yn at *
                      go_wp2_with fail
                      go_quiet (fail)
                      have HBe := hideIt (below_drewN HBq.out nq)
                      go_wp2_with fail
                      go_roundw
                      case rel => exact ⟨q + 1, by omega, by go_num, HBe.out, HQN'⟩
                      case measure => simp [intOf]; omega
                  · have hqe : q = k := by omega
                    subst hqe
                    have HBe := hideIt hBq
                    obtain ⟨z0, _⟩ := (HIN.out.below hBq).at hlt
                    rw [hx] at z0
                    have HN' := hideIt (HNX.out HQ.out)
                    have HUS := hideIt (usedT_any _ us x.nm wr (HU.out.below hBq))
                    obtain ⟨hA1, hA2, hA3⟩ := HA3.out
                    have HAQ := hideIt hA3
                    rw [hA3] at hA2
                    have hw : wrap64 (allOf us ps q + usedOf us x.nm) = allOf us ps q + usedOf us x.nm := by unfold wrap64; omega
                    clear hBq HQ hA1 hA2 hA3 HA3
                    go_wp2_with fail
                    refine HUS.out.mono ?_
                    rintro e w6 ⟨rfl, rfl⟩
                    go_wp2_with fail
                    go_roundw
                    case rel => exact ⟨q + 1, by omega, by rw [HAQ.out, hw], by go_num, HBe.out, HN'⟩
                    case measure => simp [intOf]; omega
              · rw [errQ_pos hf]
                go_wp2_with fail
                go_ret
                exact ⟨rfl, HB4.out⟩
            · have hke : k = ps.length := by omega
              subst hke
              have HB := hideIt hB
              have HFIT := hideIt (fit_of hl16 (fun j hj => (HAL.out j hj).1))
              have HUN := hideIt (Qos.unlike_of (fun j hj => (HAL.out j hj).2))
              have HRK := hideIt (rank_any _ _ ps us wr (HH.out.below hB) (HU.out.below hB) HFIT.out HFU.out)
              clear hB HAL hlt hk
              go_wp2_with fail
              refine HRK.out.mono ?_
              rintro e w6 ⟨⟨v6, qs, rfl, ht6, hs6⟩, hb6⟩
              have HB6 := hideIt (HB.out.trans (hb6.mono HB.out.size))
              have HT6 := hideIt ht6
              have HS6 := hideIt hs6
              obtain ⟨a6, c6, hv6, hc6⟩ := texts_slice ht6
              have hlen6 : (qs.map Pd.nm).length = ps.length := by rw [List.length_map, hs6.1.length_eq]
              rw [hlen6] at hv6 hc6
              subst hv6
              have HRL := hideIt (relieve_any _ _ ps us most w6 (HH.out.below HB6.out) (HU.out.below HB6.out) HFIT.out HFU.out hmost.1 hmost.2)
              clear ht6 hs6 hb6 HRK HB
              go_wp2_with fail
              refine HRL.out.mono ?_
              rintro e w7 ⟨⟨v7, qs7, g, rfl, ht7, hs7, hl7⟩, hb7⟩
              obtain rfl : qs7 = qs := Qos.order_unique HUN.out hs7.1 HS6.out.1 hs7.2 HS6.out.2
              have HB7 := hideIt (HB6.out.trans (hb7.mono HB6.out.size))
              have HL7 := hideIt hl7
              have hql : qs7.length = ps.length := hs7.1.length_eq
              have hgl : g ≤ ps.length := by have := hl7.hi; omega
              have hlen7 : ((qs7.take g).map Pd.nm).length = g := by rw [List.length_map, List.length_take]; omega
              have HT7 := hideIt ht7
              obtain ⟨a7, c7, hv7, _⟩ := texts_slice ht7
              rw [hlen7] at hv7
              subst hv7
              have ht6' := texts_take (HT6.out.below hb7) (g := g) (by omega)
              rw [← List.map_take] at ht6'
              have HT6' := hideIt ht6'
              have HAT := hideIt (Qos.all_tail (us := us) HS6.out.1)
              have d1 : ((ps.length : Int) != (ps.length : Int)) = false := by simp
              have hgi : ¬ ((ps.length : Int) < (g : Int)) := by omega
              have hgd : decide ((ps.length : Int) < (g : Int)) = false := decide_eq_false hgi
              have hgd2 : decide (ps.length < g) = false := decide_eq_false (by omega)
              clear ht7 hs7 hl7 hb7 HRL ht6' HT6
              go_wp2_with fail
              refine (sameTexts_any _ _ ((qs7.take g).map Pd.nm) _ HT7.out HT6'.out (by omega)).mono ?_
              rintro e w8 ⟨rfl, n9, rfl⟩
              have HB8 := hideIt (below_drewN HB7.out n9)
              have HT8 := hideIt (HT7.out.below (below_drewN (Below.refl _ _) n9))
              clear HB7 HT7 HT6' d1 hgi hgd hgd2
              generalize w7.drewN n9 = W8 at *
              go_wp2_with fail
              go_loopw [8, 13, 14] (fun a b i wr => ∃ k : Nat, k ≤ g ∧ a = .int .i64 (tail us qs7 k) ∧ b = .int .i64 (tail us qs7 (k - 1)) ∧ i = .int .i64 k ∧ wr = W8) (fun _ _ i _ => g - (intOf i).toNat)
              case atStart => exact ⟨0, by omega, by rw [HAT.out], by rw [HAT.out], rfl, rfl⟩
              case round =>
                obtain ⟨k, hk, rfl, rfl, rfl, rfl⟩ := hrel
                by_cases hlt : k < g
                · obtain ⟨_, _, hv8, _, hr8⟩ := HT8.out
                  rw [hlen7] at hv8
                  cases hv8
                  obtain ⟨g8, rfl, _, hc8⟩ := hr8 (by rw [hlen7]; omega)
                  have d8 := hc8 k (by rw [hlen7]; exact hlt)
                  rw [take_at hlt (by omega)] at d8
                  have hts := Qos.tail_step us (l := qs7) (i := k) (by omega)
                  have ht1 := Qos.tail_in HFU.out.2.1 (l := qs7) (by omega) k
                  have ht2 := Qos.tail_in HFU.out.2.1 (l := qs7) (by omega) (k + 1)
                  have HUS := hideIt (usedT_any _ us (pd qs7 k).nm _ (HU.out.below HB8.out))
                  have hw : wrap64 (tail us qs7 k - usedOf us (pd qs7 k).nm) = tail us qs7 (k + 1) := by unfold wrap64; omega
                  clear hr8 hc8 hts ht1 ht2
                  generalize tail us qs7 (k - 1) = T0 at *
                  generalize hT1 : tail us qs7 k = T1 at *
                  have HT1 := hideIt hT1
                  clear hT1
                  generalize (pd qs7 k).nm = nmk at *
                  generalize usedOf us nmk = US at *
                  go_wp2_with fail
                  refine HUS.out.mono ?_
                  rintro e w9 ⟨rfl, rfl⟩
                  go_wp2_with fail
                  go_roundw
                  case rel => exact ⟨k + 1, by omega, by rw [hw], by rw [Nat.add_sub_cancel, HT1.out], by go_num, trivial⟩
                  case measure => simp [intOf]; omega
                · have hke : k = g := by omega
                  subst hke
                  have HLS := hideIt (fun (h0 : 0 < k) => HL7.out.no (k - 1) (by omega) (by omega))
                  have HYS := hideIt (fun (h0 : k < ps.length) => HL7.out.yes (by omega))
                  generalize tail us qs7 (k - 1) = T0 at *
                  generalize tail us qs7 k = T1 at *
                  clear HT8
                  have key : (0 < k → most < T0) ∧ (k < ps.length → T1 ≤ most) := ⟨HLS.out, HYS.out⟩
                  obtain ⟨k1, k2⟩ := key
                  have hend : (T1 ≤ most) ∨ (most < T1 ∧ k = ps.length) := by omega
                  by_cases h0 : 0 < k
                  · have k1 := k1 h0
                    clear k2 HLS HYS
                    rcases hend with he | ⟨he, he2⟩
                    · go_wp2_with fail
                      go_ret
                      exact ⟨rfl, HB8.out⟩
                    · subst he2
                      go_wp2_with fail
                      go_ret
                      exact ⟨by simp, HB8.out⟩
                  · have h0' : k = 0 := by omega
                    clear k1 k2 HLS HYS h0
                    rcases hend with he | ⟨he, he2⟩
                    · subst h0'
                      go_wp2_with fail
                      go_ret
                      exact ⟨rfl, HB8.out⟩
                    · have hp0 : ps.length = 0 := by omega
                      clear hlen6 hlen7
                      rw [hp0, h0']
                      go_wp2_with fail
                      go_ret
                      exact ⟨by simp, HB8.out⟩
    · subst e2
      go_wp2_with fail
      go_ret
      exact ⟨rfl, HB2.out⟩
  · subst e1
    go_wp2_with fail
    go_ret
    exact ⟨rfl, HB2.out⟩
end Go.Proofs.Ythekalhceamcoaa
