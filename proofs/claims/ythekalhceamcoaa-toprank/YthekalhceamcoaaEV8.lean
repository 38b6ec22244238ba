/- Who goes first: contracts of evict.order and evict.Rank. -/
import Derived.Test.YthekalhceamcoaaEV7
namespace Go.Proofs.Ythekalhceamcoaa
open Go.RowKit
open Qos (Nd Ct Pd pd0 nd ct pd sumM sumB Mild usedOf Tame key keyCmp keyLt Ranked)
/-- Pods that may be compared. -/
def FitE (ps : List Pd) : Prop := ps.length ≤ 16 ∧ ∀ x ∈ ps, Mild x.cs ∧ x.nm.size ≤ 1000
theorem FitE.perm {ps qs : List Pd} (h : FitE ps) (hp : qs.Perm ps) : FitE qs := ⟨by rw [hp.length_eq]; exact h.1, fun x hx => h.2 x (hp.mem_iff.1 hx)⟩
theorem cell_allocE {w : World} {a : Addr} {v : Value} (h : w.cell? a = some v) (o : Obj) : (w.alloc o).cell? a = some v :=
  (((Below.refl w.heap.size w).alloc (Nat.le_refl _) o).cell (World.block_lt_of_cell? w _ h)).trans h
set_option maxRecDepth 100000 in
set_option maxHeartbeats 2000000 in
theorem order_any (v : Value) (ps : List Pd) (B n : Nat) (us : List Nd) (w : World) (h : PodsAt w v ps) (hf : FitE ps) (hU : UseMap w B n us) (ht : Tame us) :
    Calls Try.prog 108 #[v, .map (some B)] w fun e w' => (∃ v' qs, e = .returned v' ∧ PodsAt w' v' qs ∧ Sorted us ps qs ∧ ∃ a m c, v' = .slice a m c ∧ m ≤ c) ∧ Below w.heap.size w w' := by
  have hb1 := (Below.refl w.heap.size w).alloc (Nat.le_refl _) (.cells #[.map (some B)] 166)
  have HB1 := hideIt hb1
  have HP1 := hideIt (h.below hb1)
  have HU1 := hideIt (hU.alloc (.cells #[.map (some B)] 166))
  have hm1 : (w.alloc (.cells #[.map (some B)] 166)).cell? ⟨w.heap.size, 0, none⟩ = some (.map (some B)) := by simp
  have hs1 : (w.alloc (.cells #[.map (some B)] 166)).heap.size = w.heap.size + 1 := by simp
  have hBlt := hU.lt
  obtain ⟨ao, c, rfl, _, _⟩ := h
  clear hb1 hU
  go_enter Try.func108, Try.ntmps108
  go_wp2_with fail
  generalize hW1 : w.alloc (.cells #[.map (some B)] 166) = W1 at *
  clear hW1
  refine (clonePods_any _ ps _ HP1.out hf.1).mono ?_
  rintro e w2 ⟨v2, l, rfl, hrow, hl, hc, hb2⟩
  have HB2 := hideIt hb2
  have HROW := hideIt hrow
  have hlen : l.length ≤ 16 := by have := hf.1; rw [← hl, List.length_map] at this; exact this
  have HOK := hideIt (show ∀ x ∈ l, OkE W1 x from fun x hx => by
    have hx' : x.1 ∈ ps := by rw [← hl]; exact List.mem_map_of_mem hx
    exact ⟨hc x hx, (hf.2 x.1 hx').1, (hf.2 x.1 hx').2⟩)
  have HL := hideIt hl
  have hvs : ∃ a nn cc, v2 = .slice a nn cc ∧ nn ≤ cc := by
    rcases hrow.2 with ⟨hv, _⟩ | ⟨g, cap, cur, hv, _, _, hc1, _⟩
    · exact ⟨_, _, _, hv, Nat.le_refl _⟩
    · exact ⟨_, _, _, hv, hc1⟩
  have HST := hideIt (show StandE (w2.alloc (.cells #[.func (.func 145) #[] #[.pointer (some ⟨w.heap.size, 0, none⟩)]] 86)) w.heap.size w2.heap.size B n us from
    ⟨cell_allocE ((hb2.cell (p := ⟨w.heap.size, 0, none⟩) (by show w.heap.size < W1.heap.size; omega)).trans hm1) _, by simp, (HU1.out.below hb2 HU1.out.lt).alloc _⟩)
  have HB3 := hideIt (hb2.alloc (by have := hb2.size; omega) (.cells #[.func (.func 145) #[] #[.pointer (some ⟨w.heap.size, 0, none⟩)]] 86))
  have HROW3 := hideIt (World.ownsRow.alloc hrow (.cells #[.func (.func 145) #[] #[.pointer (some ⟨w.heap.size, 0, none⟩)]] 86))
  have HLT := hideIt (World.ownsRow.lt hrow)
  obtain ⟨a2, n2, c2, rfl, hnc⟩ := hvs
  clear hrow hl hc hb2 hf HROW
  go_wp2_with fail
  refine (sortPods_any us W1 _ l _ W1.heap.size w.heap.size w2.heap.size B n HROW3.out HOK.out hlen HB3.out (Nat.le_refl _) HST.out ⟨by omega, by omega⟩ (fun g hg => by have := (HLT.out g hg).2; omega) ht).mono ?_
  rintro e w4 ⟨rfl, ⟨qs, hq, hso⟩, hb4⟩
  have HQ := hideIt hq
  have HSO := hideIt hso
  have HB4 := hideIt (HB1.out.trans ((HB3.out.trans hb4).mono (by omega)))
  clear hq hso hb4
  go_wp2_with fail
  go_ret
  exact ⟨⟨_, qs, rfl, HQ.out, (by rw [← HL.out]; exact HSO.out), _, _, _, rfl, hnc⟩, HB4.out⟩
/-- A row of texts that is read. -/
def TextsAt (w : World) (v : Value) (l : List ByteArray) : Prop :=
  ∃ ao c, v = .slice ao l.length c ∧ l.length ≤ c ∧ (0 < l.length → ∃ g, ao = some ⟨g, 0, none⟩ ∧ g < w.heap.size ∧ ∀ k, k < l.length → w.cell? ⟨g, k, none⟩ = some (.string (l.getD k ByteArray.empty)))
theorem TRow.read {base : Nat} {w : World} {v : Value} {l : List ByteArray} (h : TRow base w v l) : TextsAt w v l := by
  by_cases h0 : 0 < l.length
  · obtain ⟨g, cap, hv, hc1, _, _, hlt, hc⟩ := own_cells h h0
    refine ⟨_, cap, hv, hc1, fun _ => ⟨g, rfl, hlt, fun k hk => ?_⟩⟩
    refine hc k _ ?_
    simp [txV, hk]
  · rcases h.2 with ⟨hv, hn⟩ | ⟨g, cap, cur, hv, _, _, hc1, _⟩
    · exact ⟨none, 0, by rw [hv]; simp at h0; simp [h0], by omega, fun h => by omega⟩
    · exact ⟨_, cap, hv, hc1, fun h => by omega⟩
theorem TextsAt.below {w w' : World} {v : Value} {l : List ByteArray} (h : TextsAt w v l) (hb : Below w.heap.size w w') : TextsAt w' v l := by
  obtain ⟨ao, c, hv, hc, hr⟩ := h
  refine ⟨ao, c, hv, hc, fun h0 => ?_⟩
  obtain ⟨g, ha, hlt, hcs⟩ := hr h0
  exact ⟨g, ha, Nat.lt_of_lt_of_le hlt hb.size, fun k hk => (hb.cell (p := ⟨g, k, none⟩) hlt).trans (hcs k hk)⟩
set_option maxRecDepth 100000 in
set_option maxHeartbeats 2000000 in
theorem rank_any (v uv : Value) (ps : List Pd) (us : List Nd) (w : World) (h : PodsAt w v ps) (hu : NeedsAt w uv us) (hf : FitE ps) (hfu : FewUses us) :
    Calls Try.prog 64 #[v, uv] w fun e w' => (∃ v' qs, e = .returned v' ∧ TextsAt w' v' (qs.map Pd.nm) ∧ Sorted us ps qs) ∧ Below w.heap.size w w' := by
  have HU := hideIt (uses_any uv us w hu hfu)
  have HP := hideIt h
  obtain ⟨ao, c, rfl, _, _⟩ := h
  obtain ⟨ao2, c2, rfl, _, _⟩ := hu
  go_enter Try.func64, Try.ntmps64
  go_wp2_with fail
  refine HU.out.mono ?_
  rintro e w1 ⟨⟨n, rfl, hm⟩, hb1⟩
  have HB1 := hideIt hb1
  have HO := hideIt (order_any _ ps w.heap.size n us w1 (HP.out.below hb1) hf hm hfu.2.1)
  clear hm hb1
  go_wp2_with fail
  refine HO.out.mono ?_
  rintro e w2 ⟨⟨v2, qs, rfl, hq, hs, _⟩, hb2⟩
  have HB2 := hideIt (HB1.out.trans (hb2.mono HB1.out.size))
  have HS := hideIt hs
  have HN := hideIt (names_any v2 qs w2 hq (by rw [hs.1.length_eq]; exact hf.1))
  obtain ⟨qa, qc, rfl, _, _⟩ := hq
  clear hs hb2
  go_wp2_with fail
  refine HN.out.mono ?_
  rintro e w3 ⟨⟨v3, rfl, ht⟩, hb3⟩
  have HB3 := hideIt (HB2.out.trans (hb3.mono HB2.out.size))
  have HT := hideIt ht.read
  clear ht hb3
  go_wp2_with fail
  go_ret
  exact ⟨⟨_, qs, rfl, HT.out, HS.out⟩, HB3.out⟩
end Go.Proofs.Ythekalhceamcoaa
