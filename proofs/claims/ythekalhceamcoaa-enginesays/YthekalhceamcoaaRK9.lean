/- What runs, listed: the contract of (*Engine).List. -/
import Derived.Test.YthekalhceamcoaaRK8
namespace Go.Proofs.Ythekalhceamcoaa
open Go.RowKit
theorem devs_away {w w' : World} {y : RV} {g : Nat} (h : DevsOk w y) (ha : Away g y) (hk : ∀ b, b ≠ g → b < w.heap.size → w'.heap[b]? = w.heap[b]?) (hs : w.heap.size ≤ w'.heap.size) : DevsOk w' y ∧ devsOf w' y = devsOf w y := by
  by_cases h0 : 0 < y.dn
  · exact devs_kept h (fun g' o' e hg => hk g' (ha h0 g' o' e) hg) hs
  · have e0 : y.dn = 0 := by omega
    exact ⟨fun h1 => absurd h1 h0, by simp [devsOf, e0]⟩
theorem list_end {w w' : World} {ys qs : List RV} (hl : ys.length = qs.length) (h : ∀ j, j < qs.length → absR w' (rv ys j) = absR w (rv qs j)) : ys.map (absR w') = qs.map (absR w) := by
  apply List.ext_getElem
  · simp [hl]
  · intro i h1 h2
    have hi : i < ys.length := by simpa using h1
    have hi2 : i < qs.length := by omega
    have := h i hi2
    simp [rv, hi, hi2] at this
    simpa using this
set_option maxRecDepth 100000 in
set_option maxHeartbeats 4000000 in
theorem list_anyR (Be Bd Bm nn : Nat) (xs : List RV) (w : World) (he : EngAt w Be Bd Bm) (hm : MapR w Bm nn xs) (hl : xs.length ≤ 1000) (hd : ∀ x ∈ xs, DevsOk w x ∧ x.dn ≤ 1000) :
    Calls Try.prog 81 #[.pointer (some ⟨Be, 0, none⟩)] w fun e w' => (∃ v ys, e = .returned v ∧ RunsAt w.heap.size w' v ys ∧ (∀ y ∈ ys, DevsOk w' y ∧ y.dn ≤ 1000) ∧ (ys.map (absR w')).Perm (xs.map (absR w)) ∧ InOrder ys) ∧ Below w.heap.size w w' := by
  obtain ⟨_, c1⟩ := he.cells
  have hb0 := (Below.refl w.heap.size w).alloc (Nat.le_refl _) (.cells #[.map (some Bm)] 184)
  have HB0 := hideIt hb0
  have HSF := hideIt (sortedFunc_any w.heap.size Bm nn xs (w.alloc (.cells #[.map (some Bm)] 184)) (by simp) (hm.block (hb0.block Bm hm.lt)) hl)
  have HD := hideIt hd
  have hs0 : (w.alloc (.cells #[.map (some Bm)] 184)).heap.size = w.heap.size + 1 := by simp
  clear hm he hd hb0
  go_enter Try.func81, Try.ntmps81
  go_wp2_with fail
  refine (values_any _ _).mono ?_
  rintro e w1 ⟨rfl, rfl⟩
  go_wp2_with fail
  generalize w.alloc (.cells #[.map (some Bm)] 184) = W1 at *
  refine HSF.out.mono ?_
  rintro e w2 ⟨⟨v, qs, rfl, hq, hqp, hqo⟩, hb2⟩
  have HB2 := hideIt (HB0.out.trans (hb2.mono HB0.out.size))
  have hql : qs.length ≤ 1000 := by rw [hqp.length_eq]; exact hl
  have HQD := hideIt (show ∀ j, j < qs.length → DevsOk w (rv qs j) ∧ (rv qs j).dn ≤ 1000 from fun j hj => HD.out _ (hqp.mem_iff.1 (rv_mem hj)))
  have HQP := hideIt (hqp.map (absR w))
  have HQO := hideIt hqo
  obtain ⟨a, c, rfl, hac, hr⟩ := hq
  obtain ⟨g, hg, hrows⟩ : ∃ g, (0 < qs.length → a = some ⟨g, 0, none⟩ ∧ w.heap.size < g ∧ g < w2.heap.size) ∧ RowsR w2 g qs := by
    by_cases h0 : 0 < qs.length
    · obtain ⟨g, ha, hg1, hg2, hc⟩ := hr h0
      exact ⟨g, fun _ => ⟨ha, by omega, hg2⟩, hc⟩
    · exact ⟨0, fun h => absurd h h0, fun k hk => by omega⟩
  have HG := hideIt hg
  have HROWS := hideIt hrows
  clear hg hrows hr hqp hqo hb2 HSF HB0 HD c1
  go_wp2_with fail
  go_loopw [14] (fun i wr => ∃ (k : Nat) (ys : List RV), k ≤ qs.length ∧ i = .int .i64 k ∧ ys.length = qs.length ∧ Below w.heap.size w wr ∧ RowsR wr g ys ∧ (0 < qs.length → g < wr.heap.size) ∧ Hid (∀ j, j < k → DevsOk wr (rv ys j) ∧ absR wr (rv ys j) = absR w (rv qs j) ∧ (rv ys j).dn ≤ 1000 ∧ Away g (rv ys j)) ∧ Hid (∀ j, k ≤ j → j < qs.length → rv ys j = rv qs j)) (fun i _ => qs.length - (intOf i).toNat)
  case atStart => exact ⟨0, qs, by omega, rfl, rfl, HB2.out, HROWS.out, fun h => (HG.out h).2.2, fun j hj => by omega, fun j _ _ => rfl⟩
  case round =>
    obtain ⟨k, ys, hk, rfl, hyl, hB, hR, hgl, HDONE, HREST⟩ := hrel
    by_cases hlt : k < qs.length
    · obtain ⟨rfl, hg1, _⟩ := HG.out (by omega)
      have hgw := hgl (by omega)
      have HB := hideIt hB
      have HR := hideIt hR
      have hcell := hR k (by omega)
      rw [HREST.out k (Nat.le_refl _) hlt] at hcell
      obtain ⟨⟨c0, c1, c2, c3⟩, f0, f1, f2, f3⟩ := hcell
      obtain ⟨hdk, hdn⟩ := HQD.out k hlt
      obtain ⟨hd1, hd2⟩ := hdk.below (hB.alloc hB.size (.cells #[.string (rv qs k).pod, .string (rv qs k).cont, .int .u64 (rv qs k).cpus, .slice (rv qs k).da (rv qs k).dn (rv qs k).dc] 119)) (fun _ _ _ h => h)
      have HAP := hideIt (apartR_any (rv qs k) _ hd1 hdn)
      have HD2 := hideIt hd2
      clear hB hR hgl hd1 hd2 hdk
      generalize hx : rv qs k = x at *
      have HX := hideIt hx
      clear hx
      go_wp2_with fail
      refine HAP.out.mono ?_
      rintro e w3 ⟨a', c', rfl, ho, hdv, hdf, hb3⟩
      have hba := (Below.refl wr.heap.size wr).alloc (Nat.le_refl _) (.cells #[.string x.pod, .string x.cont, .int .u64 x.cpus, .slice x.da x.dn x.dc] 119)
      have hbx := hba.trans (hb3.mono (by simp))
      have HBX := hideIt hbx
      have HB3 := hideIt (HB.out.trans (hbx.mono HB.out.size))
      have hR3 := HR.out.block (hbx.block g hgw)
      have HR3 := hideIt hR3
      have HO := hideIt ho.1
      have HDV := hideIt (hdv.trans HD2.out)
      have HAW := hideIt (show Away g { x with da := a', dc := c' } from fun h0 g' o' e => by
        obtain ⟨g2, hg2, hg3⟩ := hdf h0
        rw [hg2] at e
        cases e
        simp at hg3
        omega)
      have hg3 : g < w3.heap.size := Nat.lt_of_lt_of_le hgw hbx.size
      obtain ⟨⟨d0, d1, d2, d3⟩, e0, e1, e2, e3⟩ := hR3 k (by omega)
      clear ho hdv hdf hb3 hba hbx hR3 HAP HD2 HR c0 c1 c2 c3 f0 f1 f2 f3
      generalize rv ys k = z at *
      go_wp2_with fail
      have HRF := hideIt (HR3.out.set (k := k) (by omega) { x with da := a', dc := c' })
      have HBF := hideIt (below_fillAt HB3.out (g := g) (by omega) (k * 4) { x with da := a', dc := c' })
      have HKB := hideIt (fun b (hb : b ≠ g) => fillAt_block w3 g (k * 4) { x with da := a', dc := c' } b hb)
      have hszF : (fillAt w3 g (k * 4) { x with da := a', dc := c' }).heap.size = w3.heap.size := by simp [fillAt]
      have HNEW := hideIt (show ∀ j, j < k + 1 → DevsOk (fillAt w3 g (k * 4) { x with da := a', dc := c' }) (rv (ys.set k { x with da := a', dc := c' }) j) ∧ absR (fillAt w3 g (k * 4) { x with da := a', dc := c' }) (rv (ys.set k { x with da := a', dc := c' }) j) = absR w (rv qs j) ∧ (rv (ys.set k { x with da := a', dc := c' }) j).dn ≤ 1000 ∧ Away g (rv (ys.set k { x with da := a', dc := c' }) j) from fun j hj => by
        rw [rv_set ys k j _ (by omega)]
        by_cases e : j = k
        · rw [if_pos e]
          obtain ⟨h1, h2⟩ := devs_away (w' := fillAt w3 g (k * 4) { x with da := a', dc := c' }) HO.out HAW.out (fun b hb _ => HKB.out b hb) (by omega)
          refine ⟨h1, ?_, hdn, HAW.out⟩
          subst e
          rw [HX.out]
          unfold absR
          rw [h2, HDV.out]
        · rw [if_neg e]
          obtain ⟨h1, h2, h3, h4⟩ := HDONE.out j (by omega)
          obtain ⟨h5, h6⟩ := h1.below HBX.out (fun _ _ _ h => h)
          obtain ⟨h7, h8⟩ := devs_away (w' := fillAt w3 g (k * 4) { x with da := a', dc := c' }) h5 h4 (fun b hb _ => HKB.out b hb) (by omega)
          refine ⟨h7, ?_, h3, h4⟩
          rw [← h2]
          unfold absR
          rw [h8, h6])
      have HRST := hideIt (show ∀ j, k + 1 ≤ j → j < qs.length → rv (ys.set k { x with da := a', dc := c' }) j = rv qs j from fun j h1 h2 => by
        rw [rv_set ys k j _ (by omega), if_neg (by omega)]
        exact HREST.out j (by omega) h2)
      exact ⟨⟨k + 1, ys.set k { x with da := a', dc := c' }, by omega, by go_num, by simp [hyl], HBF.out, HRF.out, fun _ => by rw [← hszF] at hg3; exact hg3, HNEW, HRST⟩, by simp [intOf]; omega⟩
    · have hke : k = qs.length := by omega
      subst hke
      have HB := hideIt hB
      have HEND := hideIt (list_end hyl (fun j hj => (HDONE.out j hj).2.1))
      have HORD := hideIt (order_same hyl (fun j hj => by
        have := (HDONE.out j hj).2.1
        unfold absR at this
        simp only [Rn.mk.injEq] at this
        exact ⟨this.1, this.2.1⟩) HQO.out)
      have HDV := hideIt (show ∀ y ∈ ys, DevsOk wr y ∧ y.dn ≤ 1000 from fun y hy => by
        obtain ⟨i, hi, rfl⟩ := List.getElem_of_mem hy
        have := HDONE.out i (by omega)
        simp [rv, hi] at this
        exact ⟨this.1, this.2.2.1⟩)
      have HRA := hideIt (show RunsAt w.heap.size wr (.slice a qs.length c) ys from ⟨a, c, by rw [hyl], by omega, fun h0 => ⟨g, (HG.out (by omega)).1, by have := (HG.out (by omega)).2.1; omega, hgl (by omega), hR⟩⟩)
      clear hB hR hgl HDONE HREST
      go_wp2_with fail
      go_ret
      exact ⟨⟨_, ys, rfl, HRA.out, HDV.out, by rw [HEND.out]; exact HQP.out, HORD.out⟩, HB.out⟩
end Go.Proofs.Ythekalhceamcoaa
