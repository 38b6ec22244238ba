/- Whether acts are few and short: the contract of LightActs. -/
import Derived.Test.YthekalhceamcoaaDLight
namespace Go.Proofs.Ythekalhceamcoaa
open Go.RowKit
open Dvs (Dv dv0 dv nth)
set_option maxRecDepth 100000 in
set_option maxHeartbeats 2000000 in
theorem lightActs_any (v : Value) (most : Int) (w : World) (h : RowsOf w v 10 (actP w)) : Calls Try.prog 26 #[v, .int .i64 most] w fun e w' => Ans e ∧ Below w.heap.size w w' := by
  have HH := hideIt h
  obtain ⟨ao, len, c, rfl, hm, _⟩ := h
  unfold maxLen at hm
  by_cases hmo : most < len
  · go_enter Try.func26, Try.ntmps26
    go_wp2_with fail
    go_ret
    exact ⟨⟨_, rfl⟩, Below.refl _ _⟩
  have hd : decide (most < (len : Int)) = false := decide_eq_false hmo
  clear hmo
  go_enter Try.func26, Try.ntmps26
  go_wp2_with fail
  go_loopw [5] (fun i wr => ∃ k : Nat, k ≤ len ∧ i = .int .i64 k ∧ Below w.heap.size w wr) (fun i _ => len - (intOf i).toNat)
  case atStart => exact ⟨0, by omega, rfl, Below.refl _ _⟩
  case round =>
    obtain ⟨k, hk, rfl, hB⟩ := hrel
    by_cases hlt : k < len
    · obtain ⟨ao', len', c', hv, _, hr⟩ := acts_below HH.out hB
      cases hv
      obtain ⟨b, o, rfl, hlb, hcs⟩ := hr (by omega)
      obtain ⟨cs, _, hc, kd, s, xa, xb, m, lv, nm, pr, cv, uv, rfl, hm8, hlv, hcv, huv⟩ := hcs k hlt
      have c1 : wr.cell? ⟨b, o + k * 10 + 1, none⟩ = some (.string s) := hc 1 (by decide)
      have c5 : wr.cell? ⟨b, o + k * 10 + 5, none⟩ = some lv := hc 5 (by decide)
      have c6 : wr.cell? ⟨b, o + k * 10 + 6, none⟩ = some (.string nm) := hc 6 (by decide)
      have c7 : wr.cell? ⟨b, o + k * 10 + 6 + 1, none⟩ = some (.int .i64 pr) := hc 7 (by decide)
      have c8 : wr.cell? ⟨b, o + k * 10 + 6 + 2, none⟩ = some cv := hc 8 (by decide)
      have c9 : wr.cell? ⟨b, o + k * 10 + 9, none⟩ = some uv := hc 9 (by decide)
      have HU := hideIt huv
      have HPd := hideIt (lightPod_any nm pr cv wr hcv)
      have HBk := hideIt hB
      obtain ⟨la, ll, lc, rfl, _, _⟩ := hlv
      obtain ⟨ca, cl, cc, rfl, _, _⟩ := hcv
      clear hc hcs hr hB
      by_cases h7 : 7000 < s.size
      · go_wp2_with fail
        go_ret
        exact ⟨⟨_, rfl⟩, HBk.out⟩
      have h7' : s.size ≤ 7000 := by omega
      clear h7
      by_cases h30 : 30 < ll
      · go_wp2_with fail
        go_ret
        exact ⟨⟨_, rfl⟩, HBk.out⟩
      have h30' : ll ≤ 30 := by omega
      clear h30
      go_wp2_with fail
      refine HPd.out.mono ?_
      rintro e w1 ⟨⟨b1, rfl⟩, hb1⟩
      have HB1 := hideIt (HBk.out.trans (hb1.mono HBk.out.size))
      have HU1 := hideIt (HU.out.below hb1 fun _ h => h)
      have c9' := (hb1.cell (p := ⟨b, o + k * 10 + 9, none⟩) hlb).trans c9
      obtain ⟨ua, ul, uc, rfl, _, _⟩ := huv
      clear hb1 HU HPd HBk c1 c5 c6 c7 c8 c9
      rcases two b1 with e1 | e1
      · subst e1
        go_wp2_with fail
        refine (lightUses_any _ _ HU1.out).mono ?_
        rintro e w2 ⟨⟨b2, rfl⟩, rfl⟩
        rcases two b2 with e2 | e2
        · subst e2
          go_wp2_with fail
          go_roundw
          case rel => exact ⟨k + 1, by omega, by go_num, HB1.out⟩
          case measure => simp [intOf]; omega
        · subst e2
          go_wp2_with fail
          go_ret
          exact ⟨⟨_, rfl⟩, HB1.out⟩
      · subst e1
        go_wp2_with fail
        go_ret
        exact ⟨⟨_, rfl⟩, HB1.out⟩
    · have hke : k = len := by omega
      subst hke
      have HB1 := hideIt hB
      clear hB
      go_wp2_with fail
      go_ret
      exact ⟨⟨_, rfl⟩, HB1.out⟩
end Go.Proofs.Ythekalhceamcoaa
