/- What 'EvictSays' answers: true. -/
import Derived.Test.YthekalhceamcoaaEW3
namespace Go.Proofs.Ythekalhceamcoaa
open Go.RowKit
open Qos (Nd Ct Pd pd0 nd ct pd usedOf Tame key keyLt Ranked podF Unlike allOf tail Least)
def pdA : Pd := ⟨⟨#[97]⟩, 1, []⟩
def pdB : Pd := ⟨⟨#[98]⟩, 0, []⟩
theorem two_at (w : World) : PodsAt (w.alloc (.cells #[.string ⟨#[97]⟩, .int .i64 1, .slice none 0 0, .string ⟨#[98]⟩, .int .i64 0, .slice none 0 0] 60)) (.slice (some ⟨w.heap.size, 0, none⟩) 2 2) [pdA, pdB] := by
  refine ⟨_, 2, rfl, by decide, fun _ => ⟨w.heap.size, 0, fun _ => .slice none 0 0, rfl, by simp, fun k hk => ?_⟩⟩
  have : k = 0 ∨ k = 1 := by simp at hk; omega
  rcases this with rfl | rfl
  · exact ⟨⟨by simp [pd, pdA], by simp [pd, pdA], by simp⟩, ⟨none, 0, rfl, ⟨by simp [pd, pdA], by decide⟩, fun h => by simp [pd, pdA] at h⟩⟩
  · exact ⟨⟨by simp [pd, pdB], by simp [pd, pdB], by simp⟩, ⟨none, 0, rfl, ⟨by simp [pd, pdB], by decide⟩, fun h => by simp [pd, pdB] at h⟩⟩
theorem two_fit : FitE [pdA, pdB] := ⟨by simp, fun x hx => by
  simp at hx
  rcases hx with rfl | rfl
  · exact ⟨Qos.mild_nil, by decide⟩
  · exact ⟨Qos.mild_nil, by decide⟩⟩
theorem few_nil : FewUses [] := ⟨by simp, fun k hk => by simp at hk, fun k hk => by simp at hk⟩
theorem no_uses (w : World) : NeedsAt w (.slice none 0 0) [] := ⟨none, 0, rfl, by simp, fun h => by simp at h⟩
theorem two_names {qs : List Pd} (h : Sorted [] [pdA, pdB] qs) : qs.map Pd.nm = [⟨#[98]⟩, ⟨#[97]⟩] := by
  have h2 : Ranked ([pdB, pdA].map (key [])) := by
    unfold Ranked
    refine List.Pairwise.cons (fun x hx => ?_) (List.pairwise_singleton _ _)
    simp at hx
    subst hx
    rfl
  exact Qos.names_unique (us := []) (h.1.trans (List.Perm.swap _ _ _)) h.2 h2
theorem texts_two (w : World) : TextsAt (w.alloc (.cells #[.string ⟨#[98]⟩, .string ⟨#[97]⟩] 9)) (.slice (some ⟨w.heap.size, 0, none⟩) 2 2) [⟨#[98]⟩, ⟨#[97]⟩] := by
  refine ⟨_, 2, rfl, by simp, fun _ => ⟨w.heap.size, rfl, by simp, fun k hk => ?_⟩⟩
  have : k = 0 ∨ k = 1 := by simp at hk; omega
  rcases this with rfl | rfl
  · simp
  · simp
set_option maxRecDepth 100000 in
set_option maxHeartbeats 4000000 in
theorem goes_any (w : World) : Calls Try.prog 60 #[] w fun e w' => e = .returned (.bool true) ∧ Below w.heap.size w w' := by
  have HB0 := hideIt ((Below.refl w.heap.size w).alloc (Nat.le_refl _) (.cells #[.string ⟨#[97]⟩, .int .i64 1, .slice none 0 0, .string ⟨#[98]⟩, .int .i64 0, .slice none 0 0] 60))
  have HRK := hideIt (rank_any _ (.slice none 0 0) [pdA, pdB] [] _ (two_at w) (no_uses _) two_fit few_nil)
  go_enter Try.func60, Try.ntmps60
  go_wp2_with fail
  refine HRK.out.mono ?_
  rintro e w1 ⟨⟨v1, qs, rfl, ht1, hs1⟩, hb1⟩
  have HB1 := hideIt (HB0.out.trans (hb1.mono HB0.out.size))
  rw [two_names hs1] at ht1
  have HB2 := hideIt (HB1.out.alloc HB1.out.size (.cells #[.string ⟨#[98]⟩, .string ⟨#[97]⟩] 9))
  have HSM := hideIt (sameTexts_any _ _ _ _ (ht1.below ((Below.refl _ w1).alloc (Nat.le_refl _) (.cells #[.string ⟨#[98]⟩, .string ⟨#[97]⟩] 9))) (texts_two w1) (by simp))
  obtain ⟨a1, c1, hv1, _⟩ := textsE_slice ht1
  subst hv1
  clear ht1 hs1 hb1 HB0 HRK
  go_wp2_with fail
  refine HSM.out.mono ?_
  rintro e w2 ⟨rfl, n2, rfl⟩
  have HB3 := hideIt (below_drewN HB2.out n2)
  go_wp2_with fail
  go_ret
  exact ⟨rfl, HB3.out⟩
theorem fitE_of {ps : List Pd} (hl : ps.length ≤ 16) (h : ∀ j, j < ps.length → podF (pd ps j) = 0) : FitE ps := by
  refine ⟨hl, fun x hx => ?_⟩
  obtain ⟨j, hj, rfl⟩ := List.getElem_of_mem hx
  have := h j hj
  simp [pd, hj] at this
  exact ⟨Qos.pod_mild this, by have := name_size (Qos.pod_len this).1; omega⟩
set_option maxRecDepth 100000 in
set_option maxHeartbeats 2000000 in
theorem evictSays_any (v : Value) (ps : List Pd) (uv : Value) (us : List Nd) (most : Int) (w : World) (h : PodsAt w v ps) (hu : NeedsAt w uv us) (wn : (Lit.int .i64 most).wf = true) : Calls Try.prog 8 #[v, uv, .int .i64 most] w fun e w' => e = .returned (.bool true) ∧ Below w.heap.size w w' := by
  have HH := hideIt h
  have HU := hideIt hu
  have hmost := bounds_i64 wn
  obtain ⟨ao, c, rfl, _, _⟩ := h
  obtain ⟨ua, uc, rfl, _, _⟩ := hu
  clear wn
  go_enter Try.func8, Try.ntmps8
  go_wp2_with fail
  refine (goes_any w).mono ?_
  rintro e w1 ⟨rfl, hb1⟩
  have HB1 := hideIt hb1
  clear hb1
  go_wp2_with fail
  refine (lightPods_any _ ps _ (HH.out.below HB1.out)).mono ?_
  rintro e w2 ⟨⟨bl, rfl, hfew⟩, hb2⟩
  have HB2 := hideIt (HB1.out.trans (hb2.mono HB1.out.size))
  clear hb2 HB1
  rcases two bl with e1 | e1
  · subst e1
    have hl16 := hfew rfl
    clear hfew
    go_wp2_with fail
    refine (lightUsesF_any _ us _ (HU.out.below HB2.out)).mono ?_
    rintro e w3 ⟨⟨bu, rfl, hfu⟩, rfl⟩
    rcases two bu with e2 | e2
    · subst e2
      have HFU := hideIt (hfu rfl)
      clear hfu
      go_wp2_with fail
      refine (apart_any _ ps _ (HH.out.below HB2.out) hl16).mono ?_
      rintro e w4 ⟨⟨ba, rfl, hap⟩, hb4⟩
      have HB4 := hideIt (HB2.out.trans (hb4.mono HB2.out.size))
      clear hb4 HB2
      rcases two ba with e3 | e3
      · subst e3
        have hap' := hap rfl
        have HFIT := hideIt (fitE_of hl16 (fun j hj => (hap' j hj).1))
        have HUN := hideIt (Qos.unlike_of (fun j hj => (hap' j hj).2))
        have HRK := hideIt (rank_any _ _ ps us w4 (HH.out.below HB4.out) (HU.out.below HB4.out) HFIT.out HFU.out)
        clear hap hap'
        go_wp2_with fail
        refine HRK.out.mono ?_
        rintro e w5 ⟨⟨v5, qs, rfl, ht5, hs5⟩, hb5⟩
        have HB5 := hideIt (HB4.out.trans (hb5.mono HB4.out.size))
        have HT5 := hideIt ht5
        have HS5 := hideIt hs5
        have hqn : (qs.map Pd.nm).length ≤ 1000 := by rw [List.length_map, hs5.1.length_eq]; omega
        have HRR := hideIt (refRank_any _ _ ps us w5 (HH.out.below HB5.out) (HU.out.below HB5.out) HFIT.out HFU.out.2.1)
        obtain ⟨a5, c5, hv5, _⟩ := textsE_slice ht5
        subst hv5
        clear ht5 hs5 hb5 HRK HB4
        generalize hRR : qs.map Pd.nm = R at *
        have HRN := hideIt hRR
        clear hRR
        go_wp2_with fail
        refine HRR.out.mono ?_
        rintro e w6 ⟨⟨v6, q6, rfl, ht6, hs6⟩, hb6⟩
        have HB6 := hideIt (HB5.out.trans (hb6.mono HB5.out.size))
        obtain rfl : q6 = qs := Qos.order_unique HUN.out hs6.1 HS5.out.1 hs6.2 HS5.out.2
        rw [HRN.out] at ht6
        have HSM := hideIt (sameTexts_any _ _ _ _ (HT5.out.below hb6) ht6 hqn)
        obtain ⟨a6, c6, hv6, _⟩ := textsE_slice ht6
        subst hv6
        clear ht6 hs6 hb6 HRR HT5 HB5
        go_wp2_with fail
        refine HSM.out.mono ?_
        rintro e w7 ⟨rfl, n7, rfl⟩
        have HB7 := hideIt (below_drewN HB6.out n7)
        have HRL := hideIt (relieve_any _ _ ps us most _ (HH.out.below HB7.out) (HU.out.below HB7.out) HFIT.out HFU.out hmost.1 hmost.2)
        clear HSM HB6
        generalize w6.drewN n7 = W7 at *
        go_wp2_with fail
        refine HRL.out.mono ?_
        rintro e w8 ⟨⟨v8, q8, g8, rfl, ht8, hs8, hl8⟩, hb8⟩
        have HB8 := hideIt (HB7.out.trans (hb8.mono HB7.out.size))
        have HT8 := hideIt ht8
        have HL8 := hideIt hl8
        have HS8 := hideIt hs8
        have hn8 : ((q8.take g8).map Pd.nm).length ≤ 1000 := by rw [List.length_map, List.length_take, hs8.1.length_eq]; omega
        have HRF := hideIt (refRelieve_any _ _ ps us most w8 (HH.out.below HB8.out) (HU.out.below HB8.out) HFIT.out HFU.out.2.1)
        obtain ⟨a8, c8, hv8, _⟩ := textsE_slice ht8
        subst hv8
        clear ht8 hs8 hb8 hl8 HRL HB7
        generalize hRR8 : (q8.take g8).map Pd.nm = R8 at *
        have HRN8 := hideIt hRR8
        clear hRR8
        go_wp2_with fail
        refine HRF.out.mono ?_
        rintro e w9 ⟨⟨v9, q9, g9, rfl, ht9, hs9, hl9⟩, hb9⟩
        have HB9 := hideIt (HB8.out.trans (hb9.mono HB8.out.size))
        obtain rfl : q9 = q8 := Qos.order_unique HUN.out hs9.1 HS8.out.1 hs9.2 HS8.out.2
        obtain rfl : g9 = g8 := hl9.unique HL8.out
        rw [HRN8.out] at ht9
        have HSM := hideIt (sameTexts_any _ _ _ _ (HT8.out.below hb9) ht9 hn8)
        obtain ⟨a9, c9, hv9, _⟩ := textsE_slice ht9
        subst hv9
        clear ht9 hs9 hb9 hl9 HRF HT8 HB8
        go_wp2_with fail
        refine HSM.out.mono ?_
        rintro e w10 ⟨rfl, n10, rfl⟩
        have HB10 := hideIt (below_drewN HB9.out n10)
        go_wp2_with fail
        go_ret
        exact ⟨rfl, HB10.out⟩
      · subst e3
        go_wp2_with fail
        go_ret
        exact ⟨rfl, HB4.out⟩
    · subst e2
      go_wp2_with fail
      go_ret
      exact ⟨rfl, HB2.out⟩
  · subst e1
    go_wp2_with fail
    go_ret
    exact ⟨rfl, HB2.out⟩
end Go.Proofs.Ythekalhceamcoaa
