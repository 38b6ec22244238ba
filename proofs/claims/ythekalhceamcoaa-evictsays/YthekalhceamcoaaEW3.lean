/- Who must go, and whether names are unlike, as the document says: contracts. -/
import Derived.Test.YthekalhceamcoaaEW2
import Derived.Test.YthekalhceamcoaaEB2
import Derived.Test.YthekalhceamcoaaET1
import Derived.Test.YthekalhceamcoaaEMath6
import Derived.Test.YthekalhceamcoaaQR3
namespace Go.Proofs.Ythekalhceamcoaa
open Go.RowKit
open Qos (Nd Ct Pd pd0 nd ct pd usedOf Tame key Ranked podF Unlike allOf tail Least)
theorem textsE_slice {w : World} {v : Value} {l : List ByteArray} (h : TextsAt w v l) : ∃ a c, v = .slice a l.length c ∧ l.length ≤ c := by
  obtain ⟨a, c, hv, hc, _⟩ := h
  exact ⟨a, c, hv, hc⟩
theorem textsE_take {w : World} {a : Option Addr} {n c : Nat} {l : List ByteArray} (h : TextsAt w (.slice a n c) l) {g : Nat} (hg : g ≤ l.length) : TextsAt w (.slice a g c) (l.take g) := by
  obtain ⟨ao, c', hv, hc, hr⟩ := h
  cases hv
  have hl : (l.take g).length = g := by rw [List.length_take]; omega
  refine ⟨a, c, by rw [hl], by omega, fun h0 => ?_⟩
  obtain ⟨b, ha, hlt, hcs⟩ := hr (by omega)
  refine ⟨b, ha, hlt, fun k hk => ?_⟩
  rw [hl] at hk
  rw [hcs k (by omega)]
  simp [hk]
theorem nameE_at {qs : List Pd} {k : Nat} (hk : k < qs.length) : (qs.map Pd.nm).getD k ByteArray.empty = (pd qs k).nm := by
  simp [pd, hk]
set_option maxRecDepth 100000 in
set_option maxHeartbeats 4000000 in
theorem refRelieve_any (v uv : Value) (ps : List Pd) (us : List Nd) (most : Int) (w : World) (h : PodsAt w v ps) (hu : NeedsAt w uv us) (hf : FitE ps) (ht : Tame us) :
    Calls Try.prog 67 #[v, uv, .int .i64 most] w fun e w' => (∃ v' qs g, e = .returned v' ∧ TextsAt w' v' ((qs.take g).map Pd.nm) ∧ Sorted us ps qs ∧ Least us qs most 0 g) ∧ Below w.heap.size w w' := by
  have HP := hideIt h
  have HU := hideIt hu
  have HRK := hideIt (refRank_any v uv ps us w h hu hf ht)
  obtain ⟨ao, c, rfl, _, hr⟩ := h
  obtain ⟨ao2, c2, rfl, _, _⟩ := hu
  have HR := hideIt hr
  have hl16 := hf.1
  clear hr hf
  go_enter Try.func67, Try.ntmps67
  go_wp2_with fail
  go_loopw [7, 8] (fun a i wr => ∃ k : Nat, k ≤ ps.length ∧ a = .int .i64 (allOf us ps k) ∧ i = .int .i64 k ∧ wr = w) (fun _ i _ => ps.length - (intOf i).toNat)
  case atStart => exact ⟨0, by omega, rfl, rfl, rfl⟩
  case round =>
    obtain ⟨k, hk, rfl, rfl, rfl⟩ := hrel
    by_cases hlt : k < ps.length
    · obtain ⟨b, o, cv, rfl, hin⟩ := HR.out (by omega)
      obtain ⟨c0, c1, c2, hcn⟩ := hin.at hlt
      have hA1 := Qos.allOf_in ht ps (n := k) (by omega)
      have hA2 := Qos.allOf_in ht ps (n := k + 1) (by omega)
      have hA3 : allOf us ps (k + 1) = allOf us ps k + usedOf us (pd ps k).nm := rfl
      have HUS := hideIt (usedR_any _ us (pd ps k).nm wr HU.out)
      have HAQ := hideIt hA3
      rw [hA3] at hA2
      have hw : wrap64 (allOf us ps k + usedOf us (pd ps k).nm) = allOf us ps k + usedOf us (pd ps k).nm := by unfold wrap64; omega
      clear hA1 hA2 hA3 hcn hin
      generalize pd ps k = x at *
      go_wp2_with fail
      refine HUS.out.mono ?_
      rintro e w6 ⟨rfl, rfl⟩
      go_wp2_with fail
      go_roundw
      case rel => exact ⟨k + 1, by omega, by rw [HAQ.out, hw], by go_num, trivial⟩
      case measure => simp [intOf]; omega
    · have hke : k = ps.length := by omega
      subst hke
      clear hlt hk
      go_wp2_with fail
      refine HRK.out.mono ?_
      rintro e w6 ⟨⟨v6, qs, rfl, ht6, hs6⟩, hb6⟩
      have HB6 := hideIt hb6
      have HT6 := hideIt ht6
      have HS6 := hideIt hs6
      obtain ⟨a6, c6, hv6, hc6⟩ := textsE_slice ht6
      have hlen6 : (qs.map Pd.nm).length = ps.length := by rw [List.length_map, hs6.1.length_eq]
      have hql : qs.length = ps.length := hs6.1.length_eq
      rw [hlen6] at hv6 hc6
      subst hv6
      have HAT := hideIt (Qos.all_tail (us := us) hs6.1)
      clear ht6 hs6 hb6 HRK
      go_wp2_with fail
      go_loopw [7, 10] (fun a i wr => ∃ k : Nat, k ≤ ps.length ∧ a = .int .i64 (tail us qs k) ∧ i = .int .i64 k ∧ wr = w6 ∧ Hid (∀ j, j < k → most < tail us qs j)) (fun _ i _ => ps.length - (intOf i).toNat)
      case atStart => exact ⟨0, by omega, by rw [HAT.out], rfl, rfl, fun j hj => by omega⟩
      case round =>
        obtain ⟨k, hk, rfl, rfl, rfl, HNO⟩ := hrel
        by_cases hlt : k < ps.length
        · by_cases hm : tail us qs k ≤ most
          · have HLE := hideIt (show Least us qs most 0 k from ⟨by omega, by omega, fun j _ hj => HNO.out j hj, fun _ => hm⟩)
            have ht7 := textsE_take HT6.out (g := k) (by omega)
            rw [← List.map_take] at ht7
            have HT7 := hideIt ht7
            have hkc : (k : Int) ≤ (c6 : Int) := by omega
            have hkc2 : k ≤ c6 := by omega
            clear ht7 HNO
            generalize tail us qs k = TT at *
            go_wp2_with fail
            go_ret
            exact ⟨⟨_, qs, k, rfl, HT7.out, HS6.out, HLE.out⟩, HB6.out⟩
          · have hm' : most < tail us qs k := by omega
            obtain ⟨_, _, hv8, _, hr8⟩ := HT6.out
            rw [hlen6] at hv8
            cases hv8
            obtain ⟨g8, rfl, _, hc8⟩ := hr8 (by omega)
            have d8 := hc8 k (by omega)
            rw [nameE_at (by omega)] at d8
            have hts := Qos.tail_step us (l := qs) (i := k) (by omega)
            have ht1 := Qos.tail_in ht (l := qs) (by omega) k
            have ht2 := Qos.tail_in ht (l := qs) (by omega) (k + 1)
            have HUS := hideIt (usedR_any _ us (pd qs k).nm _ (HU.out.below HB6.out))
            have hw : wrap64 (tail us qs k - usedOf us (pd qs k).nm) = tail us qs (k + 1) := by unfold wrap64; omega
            have HNO' := hideIt (show ∀ j, j < k + 1 → most < tail us qs j from fun j hj => by
              by_cases e : j = k
              · subst e; exact hm'
              · exact HNO.out j (by omega))
            clear hr8 hc8 hts ht1 ht2 HNO hm
            generalize hT1 : tail us qs k = T1 at *
            clear hT1
            generalize (pd qs k).nm = nmk at *
            generalize usedOf us nmk = US at *
            go_wp2_with fail
            refine HUS.out.mono ?_
            rintro e w9 ⟨rfl, rfl⟩
            go_wp2_with fail
            go_roundw
            case rel => exact ⟨k + 1, by omega, by rw [hw], by go_num, trivial, HNO'⟩
            case measure => simp [intOf]; omega
        · have hke : k = ps.length := by omega
          have HLE := hideIt (show Least us qs most 0 k from ⟨by omega, by omega, fun j _ hj => HNO.out j hj, fun hc => by omega⟩)
          have ht7 := textsE_take HT6.out (g := k) (by omega)
          rw [← List.map_take] at ht7
          have HT7 := hideIt ht7
          have hkc2 : k ≤ c6 := by omega
          clear ht7 HNO
          generalize tail us qs k = TT at *
          subst hke
          go_wp2_with fail
          go_ret
          exact ⟨⟨_, qs, _, rfl, HT7.out, HS6.out, HLE.out⟩, HB6.out⟩
/-- It answers yes or no; yes, if each may be, of unlike names. -/
def AnsApart (ps : List Pd) (e : Ending) : Prop := ∃ b, e = .returned (.bool b) ∧ (b = true → ∀ j, j < ps.length → podF (pd ps j) = 0 ∧ ∀ i, i < j → (pd ps i).nm ≠ (pd ps j).nm)
set_option maxRecDepth 100000 in
set_option maxHeartbeats 4000000 in
theorem apart_any (v : Value) (ps : List Pd) (w : World) (h : PodsAt w v ps) (hl16 : ps.length ≤ 16) : Calls Try.prog 62 #[v] w fun e w' => AnsApart ps e ∧ Below w.heap.size w w' := by
  obtain ⟨ao, c, rfl, _, hr⟩ := h
  have HR := hideIt hr
  clear hr
  go_enter Try.func62, Try.ntmps62
  go_wp2_with fail
  go_loopw [3] (fun i wr => ∃ k : Nat, k ≤ ps.length ∧ i = .int .i64 k ∧ Below w.heap.size w wr ∧ Hid (∀ j, j < k → podF (pd ps j) = 0 ∧ ∀ i, i < j → (pd ps i).nm ≠ (pd ps j).nm)) (fun i _ => ps.length - (intOf i).toNat)
  case atStart => exact ⟨0, by omega, rfl, Below.refl _ _, fun j hj => by omega⟩
  case round =>
    obtain ⟨k, hk, rfl, hB, HAL⟩ := hrel
    by_cases hlt : k < ps.length
    · obtain ⟨b, o, cv, rfl, hin⟩ := HR.out (by omega)
      have HIN := hideIt hin
      have hin := hin.below hB
      obtain ⟨c0, c1, c2, hcn⟩ := hin.at hlt
      have HCK := hideIt (podFault_any (pd ps k) (cv k) wr hcn)
      have hsl := hcn.slice
      have HB := hideIt hB
      have HNX := hideIt (fun (hf : podF (pd ps k) = 0) (hn : ∀ i, i < k → (pd ps i).nm ≠ (pd ps k).nm) => (show ∀ j, j < k + 1 → podF (pd ps j) = 0 ∧ ∀ i, i < j → (pd ps i).nm ≠ (pd ps j).nm from fun j hj => by
        by_cases e : j = k
        · subst e; exact ⟨hf, hn⟩
        · exact HAL.out j (by omega)))
      unfold podV at HCK
      clear hin hcn hB HAL
      generalize hx : pd ps k = x at *
      generalize cv k = d at *
      obtain ⟨da, dn, dc, rfl⟩ := hsl
      go_wp2_with fail
      refine HCK.out.mono ?_
      rintro e w4 ⟨rfl, hb4⟩
      have HB4 := hideIt (HB.out.trans (hb4.mono HB.out.size))
      clear hb4 HB HCK c0 c1 c2
      by_cases hf : podF x = 0
      · have HNX := hideIt (HNX.out hf)
        rw [hf]
        clear hf
        go_wp2_with fail
        go_loopw [4] (fun i wq => ∃ q : Nat, q ≤ k ∧ i = .int .i64 q ∧ Below w.heap.size w wq ∧ Hid (∀ j, j < q → (pd ps j).nm ≠ x.nm)) (fun i _ => k - (intOf i).toNat)
        case atStart => exact ⟨0, by omega, rfl, HB4.out, fun j hj => by omega⟩
        case round =>
          obtain ⟨q, hq, rfl, hBq, HQ⟩ := hrel
          by_cases hql : q < k
          · obtain ⟨y0, _⟩ := (HIN.out.below hBq).at (k := q) (by omega)
            obtain ⟨z0, _⟩ := (HIN.out.below hBq).at hlt
            rw [hx] at z0
            have hqb : q < ps.length := by omega
            have HBq := hideIt hBq
            have HQN := hideIt (fun (hs : (pd ps q).nm ≠ x.nm) => (show ∀ j, j < q + 1 → (pd ps j).nm ≠ x.nm from fun j hj => by
              by_cases e : j = q
              · subst e; exact hs
              · exact HQ.out j (by omega)))
            clear hBq HQ
            by_cases hs : (pd ps q).nm = x.nm
            · rw [hs] at y0
              clear hs HQN
              go_wp2_with fail
              go_quiet (fail)
              have HBe := hideIt (below_drewN HBq.out nq)
              go_wp2_with fail
              go_ret
              exact ⟨⟨false, rfl, fun h => by cases h⟩, HBe.out⟩
            · have hsb : ((pd ps q).nm.toList == x.nm.toList) = false := by rw [eq_str]; exact decide_eq_false hs
              have HQN' := hideIt (HQN.out hs)
              clear hs HQN
              generalize (pd ps q).nm = yn at *
              go_wp2_with fail
              go_quiet (fail)
              have HBe := hideIt (below_drewN HBq.out nq)
              go_wp2_with fail
              go_roundw
              case rel => exact ⟨q + 1, by omega, by go_num, HBe.out, HQN'⟩
              case measure => simp [intOf]; omega
          · have hqe : q = k := by omega
            subst hqe
            have HBe := hideIt hBq
            have HN' := hideIt (HNX.out HQ.out)
            clear hBq HQ
            go_wp2_with fail
            go_roundw
            case rel => exact ⟨q + 1, by omega, by go_num, HBe.out, HN'⟩
            case measure => simp [intOf]; omega
      · have hp : 0 < podF x := by omega
        clear hf
        generalize podF x = pf at *
        go_wp2_with fail
        go_ret
        exact ⟨⟨false, rfl, fun h => by cases h⟩, HB4.out⟩
    · have hke : k = ps.length := by omega
      subst hke
      have HB := hideIt hB
      clear hB
      go_wp2_with fail
      go_ret
      exact ⟨⟨true, rfl, fun _ => HAL.out⟩, HB.out⟩
end Go.Proofs.Ythekalhceamcoaa
