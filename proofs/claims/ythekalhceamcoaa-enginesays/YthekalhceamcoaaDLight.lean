/- Whether acts are few and short: contracts. -/
import Derived.Test.YthekalhceamcoaaDEnv
namespace Go.Proofs.Ythekalhceamcoaa
open Go.RowKit
open Dvs (Dv dv0 dv nth)
/-- It answers yes or no. -/
def Ans (e : Ending) : Prop := ∃ b, e = .returned (.bool b)
set_option maxRecDepth 100000 in
set_option maxHeartbeats 1000000 in
theorem lightUses_any (v : Value) (w : World) (h : RowsOf w v 2 pairP) : Calls Try.prog 61 #[v] w fun e w' => Ans e ∧ w' = w := by
  obtain ⟨ao, len, c, rfl, hm, hr⟩ := h
  have HR := hideIt hr
  clear hr hm
  by_cases h20 : 20 < len
  · go_enter Try.func61, Try.ntmps61
    go_wp2_with fail
    go_ret
    exact ⟨⟨_, rfl⟩, rfl⟩
  have h20' : len ≤ 20 := by omega
  clear h20
  have hd : decide (20 < (len : Int)) = false := decide_eq_false (by omega)
  go_enter Try.func61, Try.ntmps61
  go_wp2_with fail
  go_loop [3] (fun i => ∃ k : Nat, k ≤ len ∧ i = .int .i64 k) (fun i => len - (intOf i).toNat)
  case atStart => exact ⟨0, by omega, rfl⟩
  case round =>
    obtain ⟨k, hk, rfl⟩ := hrel
    by_cases hlt : k < len
    · obtain ⟨b, o, rfl, hlb, hcs⟩ := HR.out (by omega)
      obtain ⟨cs, _, hc, s, x, rfl⟩ := hcs k hlt
      have c0 : w.cell? ⟨b, o + k * 2, none⟩ = some (.string s) := hc 0 (by decide)
      have c1 : w.cell? ⟨b, o + k * 2 + 1, none⟩ = some (.int .i64 x) := hc 1 (by decide)
      clear hc hcs
      have key : 30 < s.size ∨ (s.size ≤ 30 ∧ x < -1125899906842624) ∨ (s.size ≤ 30 ∧ -1125899906842624 ≤ x ∧ 1125899906842624 < x) ∨ (s.size ≤ 30 ∧ -1125899906842624 ≤ x ∧ x ≤ 1125899906842624) := by omega
      rcases key with h1 | ⟨h1, h2⟩ | ⟨h1, h2, h3⟩ | ⟨h1, h2, h3⟩
      · go_wp2_with fail
        go_ret
        exact ⟨⟨_, rfl⟩, rfl⟩
      · go_wp2_with fail
        go_ret
        exact ⟨⟨_, rfl⟩, rfl⟩
      · go_wp2_with fail
        go_ret
        exact ⟨⟨_, rfl⟩, rfl⟩
      · go_wp2_with fail
        go_round
        case rel => exact ⟨k + 1, by omega, by go_num⟩
        case measure => simp [intOf]; omega
    · have hke : k = len := by omega
      subst hke
      go_wp2_with fail
      go_ret
      exact ⟨⟨_, rfl⟩, rfl⟩
set_option maxRecDepth 100000 in
set_option maxHeartbeats 2000000 in
theorem lightPod_any (nm : ByteArray) (pr : Int) (cv : Value) (w : World) (h : RowsOf w cv 6 (contP w)) : Calls Try.prog 68 #[.agg #[.string nm, .int .i64 pr, cv]] w fun e w' => Ans e ∧ Below w.heap.size w w' := by
  have HB0 := hideIt ((Below.refl w.heap.size w).alloc (Nat.le_refl _) (.cells #[.string nm, .int .i64 pr, cv] 60))
  have HH := hideIt h
  obtain ⟨ao, len, c, rfl, hm, _⟩ := h
  clear hm
  by_cases h30 : 30 < nm.size
  · go_enter Try.func68, Try.ntmps68
    go_wp2_with fail
    go_ret
    exact ⟨⟨_, rfl⟩, HB0.out⟩
  have h30' : nm.size ≤ 30 := by omega
  clear h30
  by_cases h5 : 5 < len
  · go_enter Try.func68, Try.ntmps68
    go_wp2_with fail
    go_ret
    exact ⟨⟨_, rfl⟩, HB0.out⟩
  have h5' : len ≤ 5 := by omega
  have hd1 : decide (30 < (nm.size : Int)) = false := decide_eq_false (by omega)
  have hd2 : decide (5 < (len : Int)) = false := decide_eq_false (by omega)
  clear h5 h30'
  go_enter Try.func68, Try.ntmps68
  go_wp2_with fail
  go_loopw [3] (fun i wr => ∃ k : Nat, k ≤ len ∧ i = .int .i64 k ∧ Below w.heap.size w wr ∧ wr.cell? ⟨w.heap.size, 2, none⟩ = some (.slice ao len c)) (fun i _ => len - (intOf i).toNat)
  case atStart => exact ⟨0, by omega, rfl, HB0.out, by simp⟩
  case round =>
    obtain ⟨k, hk, rfl, hB, hcv⟩ := hrel
    by_cases hlt : k < len
    · obtain ⟨ao', len', c', hv, _, hr⟩ := HH.out.below hB fun _ h => h.below hB
      cases hv
      obtain ⟨b, o, rfl, hlb, hcs⟩ := hr (by omega)
      obtain ⟨cs, _, hc, cn, x1, x2, x3, x4, dv, rfl, hdv⟩ := hcs k hlt
      have c0 : wr.cell? ⟨b, o + k * 6, none⟩ = some (.string cn) := hc 0 (by decide)
      have c1 : wr.cell? ⟨b, o + k * 6 + 1, none⟩ = some (.int .i64 x1) := hc 1 (by decide)
      have c2 : wr.cell? ⟨b, o + k * 6 + 2, none⟩ = some (.int .i64 x2) := hc 2 (by decide)
      have c3 : wr.cell? ⟨b, o + k * 6 + 3, none⟩ = some (.int .i64 x3) := hc 3 (by decide)
      have c4 : wr.cell? ⟨b, o + k * 6 + 4, none⟩ = some (.int .i64 x4) := hc 4 (by decide)
      have c5 : wr.cell? ⟨b, o + k * 6 + 5, none⟩ = some dv := hc 5 (by decide)
      have hB1 := hideIt (hB.alloc hB.size (.cells #[.string cn, .int .i64 x1, .int .i64 x2, .int .i64 x3, .int .i64 x4, dv] 94))
      have HD := hideIt (hdv.below ((Below.refl wr.heap.size wr).alloc (Nat.le_refl _) (.cells #[.string cn, .int .i64 x1, .int .i64 x2, .int .i64 x3, .int .i64 x4, dv] 94)) fun _ h => h)
      have hcv1 := Lib.cell?_alloc_some (.cells #[.string cn, .int .i64 x1, .int .i64 x2, .int .i64 x3, .int .i64 x4, dv] 94) hcv
      have hsz := hB.size
      obtain ⟨da, dl, dc, rfl, _, _⟩ := hdv
      clear hc hcs hr hB
      by_cases g30 : 30 < cn.size
      · go_wp2_with fail
        go_ret
        exact ⟨⟨_, rfl⟩, hB1.out⟩
      have g30' : cn.size ≤ 30 := by omega
      clear g30
      by_cases g5 : 5 < dl
      · go_wp2_with fail
        go_ret
        exact ⟨⟨_, rfl⟩, hB1.out⟩
      have g5' : dl ≤ 5 := by omega
      have e1 : decide (30 < (cn.size : Int)) = false := decide_eq_false (by omega)
      have e2 : decide (5 < (dl : Int)) = false := decide_eq_false (by omega)
      clear g5 g30'
      go_wp2_with fail
      go_loop [5] (fun i => ∃ q : Nat, q ≤ dl ∧ i = .int .i64 q) (fun i => dl - (intOf i).toNat)
      case atStart => exact ⟨0, by omega, rfl⟩
      case round =>
        obtain ⟨q, hq, rfl⟩ := hrel
        by_cases hql : q < dl
        · obtain ⟨ao2, len2, c2', hv2, _, hr2⟩ := HD.out
          cases hv2
          obtain ⟨b2, o2, rfl, hlb2, hcs2⟩ := hr2 (by omega)
          obtain ⟨cs2, _, hc2, s2, y2, rfl⟩ := hcs2 q hql
          have d0 := hc2 0 (by decide)
          simp only [Nat.add_zero, List.getElem?_cons_zero] at d0
          clear hc2 hcs2 hr2
          by_cases k30 : 30 < s2.size
          · go_wp2_with fail
            go_ret
            exact ⟨⟨_, rfl⟩, hB1.out⟩
          have k30' : s2.size ≤ 30 := by omega
          clear k30
          go_wp2_with fail
          go_round
          case rel => exact ⟨q + 1, by omega, by go_num⟩
          case measure => simp [intOf]; omega
        · have hqe : q = dl := by omega
          subst hqe
          go_wp2_with fail
          go_roundw
          case rel => exact ⟨k + 1, by omega, by go_num, hB1.out, hcv1⟩
          case measure => simp [intOf]; omega
    · have hke : k = len := by omega
      subst hke
      have hB1 := hideIt hB
      clear hB
      go_wp2_with fail
      go_ret
      exact ⟨⟨_, rfl⟩, hB1.out⟩
end Go.Proofs.Ythekalhceamcoaa
