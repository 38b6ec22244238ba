/- What LightWishes answers: contract. -/
import Derived.Test.YtlpogejkmigimaaMEnv
namespace Go.Proofs.Ytlpogejkmigimaa
open Go.RowKit
open Ost (Hi Wi wi0 Low bet pop8)
def LightRes (w : World) (ws : List Wi) (e : Ending) (w' : World) : Prop := ∃ b, e = .returned (.bool b) ∧ (b = true → ∀ y, y ∈ ws → y.hs.length ≤ 16) ∧ Below w.heap.size w w'
set_option maxRecDepth 100000 in
set_option maxHeartbeats 1000000 in
theorem light_any (v : Value) (ws : List Wi) (w : World) (hv : WishesAt w v ws) :
    Calls Try.prog 32 #[v] w fun e w' => LightRes w ws e w' := by
  obtain ⟨ao, c, rfl, hc⟩ := hv.form
  have HC := hideIt hc
  clear hc hv
  go_enter Try.func32, Try.ntmps32
  by_cases h6 : 6 < ws.length
  · go_wp2_with fail
    go_ret
    exact ⟨false, rfl, (fun h => by cases h), Below.refl _ _⟩
  · go_wp2_with fail
    go_loopw [3, 4] (fun t i wr => ∃ (k : Nat) (x : Int), k ≤ ws.length ∧ i = .int .i64 k ∧ t = .int .i64 x ∧ Hid (∀ j, j < k → (ws.getD j wi0).hs.length ≤ 16) ∧ wr = w) (fun _ i _ => ws.length - (intOf i).toNat)
    case atStart => exact ⟨0, 1, by omega, rfl, rfl, fun j hj => by omega, rfl⟩
    case round =>
      obtain ⟨k, x, hk, rfl, rfl, HL, rfl⟩ := hrel
      by_cases hlt : k < ws.length
      · obtain ⟨b, o, rfl, hbl, hcs⟩ := HC.out (by omega)
        obtain ⟨c0, u, c1, hu⟩ := hcs k hlt
        have HN : Hid ((ws.getD k wi0).hs.length ≤ 16 → ∀ j, j < k + 1 → (ws.getD j wi0).hs.length ≤ 16) := by
          intro h j hj
          by_cases e : j = k
          · subst e; exact h
          · exact HL.out j (by omega)
        clear hcs
        generalize ws.getD k wi0 = y at *
        obtain ⟨any, hs⟩ := y
        simp only at c0 c1 hu HN
        obtain ⟨ao2, c2, rfl, _⟩ := hu.form
        clear hu
        by_cases h16 : 16 < hs.length
        · go_wp2_with fail
          go_ret
          exact ⟨false, rfl, (fun h => by cases h), Below.refl _ _⟩
        · have HN := hideIt (HN.out (by omega))
          go_wp2_with fail
          go_roundw
          case rel => exact ⟨k + 1, _, by omega, by go_num, rfl, HN.out, by first | rfl | trivial⟩
          case measure => simp [intOf]; omega
      · have hkl : k = ws.length := by omega
        subst hkl
        have HA : Hid (∀ y, y ∈ ws → y.hs.length ≤ 16) := by
          intro y hy
          obtain ⟨j, hj, rfl⟩ := Ost.mem_getD wi0 hy
          exact HL.out j hj
        go_wp2_with fail
        go_ret
        exact ⟨_, rfl, (fun _ => HA.out), Below.refl _ _⟩
end Go.Proofs.Ytlpogejkmigimaa
