/- No place that comes out is better: combine answers true. -/
import Derived.Test.YtlpogejkmigimaaTM2
namespace Go.Proofs.Ytlpogejkmigimaa
open Go.RowKit
open Ost (Hi Wi wi0 Low key com reach told cho okH)
theorem tail_at {w : World} {b o r c : Nat} {a1 : Option Addr} {y : Wi} {rest : List Wi} (hr : rest.length = r) (hrc : r + 1 ≤ c) (ha1 : (if c = 1 then some (⟨b, o, none⟩ : Addr) else some ⟨b, o + 2, none⟩) = a1) (hb : b < w.heap.size)
    (hcs : ∀ k, k < (y :: rest).length → w.cell? ⟨b, o + k * 2, none⟩ = some (.bool ((y :: rest).getD k wi0).any) ∧ ∃ u, w.cell? ⟨b, o + k * 2 + 1, none⟩ = some u ∧ HintsAt w u ((y :: rest).getD k wi0).hs) : WishesAt w (.slice a1 r (c - 1)) rest := by
  subst hr
  cases rest with
  | nil => exact .inl ⟨rfl, a1, c - 1, rfl⟩
  | cons z t =>
    have hc1 : c ≠ 1 := by simp at hrc; omega
    rw [if_neg hc1] at ha1
    subst ha1
    refine .inr ⟨b, o + 2, c - 1, rfl, hb, fun k hk => ?_⟩
    have := hcs (k + 1) (by simp at hk ⊢; omega)
    rw [show o + (k + 1) * 2 = o + 2 + k * 2 by omega] at this
    simpa using this
theorem reach_pass {nodes : Nat} {ws : List Wi} {k : Nat} {so : Hi} (h0 : so.1 ≠ 0) (hr : reach 2 nodes ws k so) (hp : (ws.getD k wi0).any = true ∨ ((ws.getD k wi0).any = false ∧ (ws.getD k wi0).hs.length = 0)) : reach 2 nodes ws (k + 1) (so.1, so.2 && (ws.getD k wi0).any) := by
  have hs := Ost.reach_sub hr
  generalize hy : ws.getD k wi0 = y at *
  refine ⟨h0, so, (nodes, y.any), hr, ?_, ?_⟩
  · rw [hy]
    unfold cho
    rcases hp with h | ⟨h, hl⟩
    · rw [h]; simp
    · rw [h]
      have : y.hs = [] := List.eq_nil_of_length_eq_zero hl
      rw [this]; simp
  · unfold com
    rw [hs]
theorem reach_step {nodes : Nat} {ws : List Wi} {k j : Nat} {so : Hi} (hr : reach 2 nodes ws k so) (ha : (ws.getD k wi0).any = false) (hj : j < (ws.getD k wi0).hs.length) (h0 : so.1 &&& ((ws.getD k wi0).hs.getD j (0, false)).1 ≠ 0) : reach 2 nodes ws (k + 1) (so.1 &&& ((ws.getD k wi0).hs.getD j (0, false)).1, so.2 && ((ws.getD k wi0).hs.getD j (0, false)).2) := by
  generalize hy : ws.getD k wi0 = y at *
  have hx := Ost.getD_mem y.hs (0, false) j hj
  refine ⟨h0, so, y.hs.getD j (0, false), hr, ?_, rfl⟩
  rw [hy]
  unfold cho
  have hm : y.hs.getD j (0, false) ∈ y.hs.filter (okH 2) := List.mem_filter.2 ⟨hx, by simp [okH]⟩
  rw [ha, if_neg (by simp), if_neg (fun h => (Ost.nil_iff _).1 h _ hm)]
  exact hm
theorem combine_all (nodes : Nat) (ws : List Wi) (hw : Light ws) (hl : ws.length ≤ 4) (hn : nodes < 256) : ∀ (n k : Nat) (so : Hi) (w : World) (v : Value), k + n = ws.length → WishesAt w v (ws.drop k) → (∀ ao r c, v = .slice ao r c → r ≤ c) → so.1 < 256 → (so.1 = 0 ∨ reach 2 nodes ws k so) →
    Calls Try.prog 38 #[.int .u8 nodes, v, vH so, vH (told 2 nodes ws)] w fun e w' => CTrue w e w' := by
  have hT := Ost.told_lt 2 nodes ws hn
  intro n
  induction n with
  | zero =>
    intro k so w v hk hv _ hso hr
    have hd : ws.drop k = [] := List.drop_eq_nil_of_le (by omega)
    rw [hd] at hv
    obtain ⟨ao, c, rfl, _⟩ := hv.form
    obtain ⟨m, g⟩ := so
    by_cases h0 : m = 0
    · subst h0
      exact combine_zero nodes ao 0 c g _ _ w
    · have hk' : k = ws.length := by omega
      subst hk'
      exact combine_end nodes ao c m g _ _ w hso hT h0 (Ost.told_least hn (hr.resolve_left h0))
  | succ n ih =>
    intro k so w v hk hv hcap hso hr
    have hlt : k < ws.length := by omega
    have hd : ws.drop k = ws.getD k wi0 :: ws.drop (k + 1) := by
      rw [List.drop_eq_getElem_cons hlt]
      simp [hlt]
    have hy := hw _ (Ost.getD_mem ws wi0 k hlt)
    have hrest : (ws.drop (k + 1)).length = n := by rw [List.length_drop]; omega
    rw [hd] at hv
    obtain ⟨ao, c, rfl, hcs⟩ := hv.form
    have hrc := hcap _ _ _ rfl
    obtain ⟨m, g⟩ := so
    by_cases h0 : m = 0
    · subst h0
      exact combine_zero nodes ao _ c g _ _ w
    · have hr := hr.resolve_left h0
      obtain ⟨b, o, rfl, hb, hcs⟩ := hcs (by simp)
      obtain ⟨a1, ha1⟩ : ∃ a1, (if c = 1 then some (⟨b, o, none⟩ : Addr) else some ⟨b, o + 2, none⟩) = a1 := ⟨_, rfl⟩
      have hlen : (ws.getD k wi0 :: ws.drop (k + 1)).length = n + 1 := by rw [List.length_cons, hrest]
      rw [hlen] at hrc
      have hTail := tail_at (w := w) (y := ws.getD k wi0) hrest hrc ha1 hb hcs
      have hcap2 : ∀ ao r c', Value.slice a1 n (c - 1) = .slice ao r c' → r ≤ c' := by
        intro ao r c' h
        simp at h
        omega
      obtain ⟨c0, u, c1, hu⟩ := hcs 0 (by simp)
      have e0 : (ws.getD k wi0 :: ws.drop (k + 1)).getD 0 wi0 = ws.getD k wi0 := rfl
      rw [e0] at c0 hu
      simp only [Nat.zero_mul, Nat.add_zero] at c0 c1
      rw [hlen]
      by_cases hp : (ws.getD k wi0).any = true ∨ ((ws.getD k wi0).any = false ∧ (ws.getD k wi0).hs.length = 0)
      · obtain ⟨ao2, c2, rfl, _⟩ := hu.form
        exact combine_pass nodes b o n c a1 ha1 _ ao2 _ c2 m g _ _ w h0 (by omega) c0 c1 hy.2 hp fun W hW =>
          ih (k + 1) (m, g && (ws.getD k wi0).any) W (.slice a1 n (c - 1)) (by omega) (hTail.below hW) hcap2 hso (.inr (reach_pass h0 hr hp))
      · have ha : (ws.getD k wi0).any = false := by
          cases h : (ws.getD k wi0).any
          · rfl
          · exact absurd (.inl h) hp
        have hpos : 0 < (ws.getD k wi0).hs.length := by
          rcases Nat.eq_zero_or_pos (ws.getD k wi0).hs.length with h | h
          · exact absurd (.inr ⟨ha, h⟩) hp
          · exact h
        rw [ha] at c0
        refine combine_loop nodes b o n c a1 ha1 u _ m g _ _ w hso h0 (by omega) c0 c1 hu hy.1 hy.2 hpos fun j hj W hW => ?_
        have hsm : m &&& ((ws.getD k wi0).hs.getD j (0, false)).1 < 256 := Nat.lt_of_le_of_lt Nat.and_le_left hso
        refine ih (k + 1) (m &&& ((ws.getD k wi0).hs.getD j (0, false)).1, g && ((ws.getD k wi0).hs.getD j (0, false)).2) W (.slice a1 n (c - 1)) (by omega) (hTail.below hW) hcap2 hsm ?_
        by_cases hz : m &&& ((ws.getD k wi0).hs.getD j (0, false)).1 = 0
        · exact .inl hz
        · exact .inr (reach_step hr ha hj hz)
end Go.Proofs.Ytlpogejkmigimaa
