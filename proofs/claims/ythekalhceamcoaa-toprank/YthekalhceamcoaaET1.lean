/- Uses that are few; texts held against each other: contracts. -/
import Derived.Test.YthekalhceamcoaaEV8
import Derived.Deep.QuietTactic
import Derived.BigQuiet
namespace Go.Proofs.Ythekalhceamcoaa
open Go.RowKit
open Qos (Nd nd Tame)
/-- It answers yes or no; yes, if they are few. -/
def AnsUses (us : List Nd) (e : Ending) : Prop := ∃ b, e = .returned (.bool b) ∧ (b = true → FewUses us)
def useOk (x : Nd) : Prop := x.kind.size ≤ 30 ∧ -1125899906842624 ≤ x.many ∧ x.many ≤ 1125899906842624
set_option maxRecDepth 100000 in
set_option maxHeartbeats 1000000 in
theorem lightUsesF_any (v : Value) (us : List Nd) (w : World) (h : NeedsAt w v us) : Calls Try.prog 61 #[v] w fun e w' => AnsUses us e ∧ w' = w := by
  obtain ⟨ao, c, rfl, hm, hr⟩ := h
  have HR := hideIt hr
  clear hr hm
  by_cases h20 : 20 < us.length
  · go_enter Try.func61, Try.ntmps61
    go_wp2_with fail
    go_ret
    exact ⟨⟨_, rfl, fun h => by cases h⟩, rfl⟩
  have h20' : us.length ≤ 20 := by omega
  clear h20
  have hd : decide (20 < (us.length : Int)) = false := decide_eq_false (by omega)
  go_enter Try.func61, Try.ntmps61
  go_wp2_with fail
  go_loop [3] (fun i => ∃ k : Nat, k ≤ us.length ∧ i = .int .i64 k ∧ Hid (∀ j, j < k → useOk (nd us j))) (fun i => us.length - (intOf i).toNat)
  case atStart => exact ⟨0, by omega, rfl, fun j hj => by omega⟩
  case round =>
    obtain ⟨k, hk, rfl, HA⟩ := hrel
    by_cases hlt : k < us.length
    · obtain ⟨b, o, rfl, hlb, hcs⟩ := HR.out (by omega)
      obtain ⟨c0, c1⟩ := hcs k hlt
      have HN := hideIt (fun (hx : useOk (nd us k)) => (show ∀ j, j < k + 1 → useOk (nd us j) from fun j hj => by
        by_cases e : j = k
        · rw [e]; exact hx
        · exact HA.out j (by omega)))
      clear hcs
      generalize nd us k = x at *
      have key : 30 < x.kind.size ∨ (x.kind.size ≤ 30 ∧ x.many < -1125899906842624) ∨ (x.kind.size ≤ 30 ∧ -1125899906842624 ≤ x.many ∧ 1125899906842624 < x.many) ∨ (x.kind.size ≤ 30 ∧ -1125899906842624 ≤ x.many ∧ x.many ≤ 1125899906842624) := by omega
      rcases key with h1 | ⟨h1, h2⟩ | ⟨h1, h2, h3⟩ | ⟨h1, h2, h3⟩
      · go_wp2_with fail
        go_ret
        exact ⟨⟨_, rfl, fun h => by cases h⟩, rfl⟩
      · go_wp2_with fail
        go_ret
        exact ⟨⟨_, rfl, fun h => by cases h⟩, rfl⟩
      · go_wp2_with fail
        go_ret
        exact ⟨⟨_, rfl, fun h => by cases h⟩, rfl⟩
      · have HN' := hideIt (HN.out ⟨h1, h2, h3⟩)
        go_wp2_with fail
        go_round
        case rel => exact ⟨k + 1, by omega, by go_num, HN'⟩
        case measure => simp [intOf]; omega
    · have hke : k = us.length := by omega
      subst hke
      go_wp2_with fail
      go_ret
      exact ⟨⟨_, rfl, fun _ => ⟨h20', fun j hj => ⟨(HA.out j hj).2.1, (HA.out j hj).2.2⟩, fun j hj => (HA.out j hj).1⟩⟩, rfl⟩
set_option maxRecDepth 100000 in
set_option maxHeartbeats 1000000 in
theorem sameTexts_any (v1 v2 : Value) (l : List ByteArray) (w : World) (h1 : TextsAt w v1 l) (h2 : TextsAt w v2 l) (hl : l.length ≤ 1000) :
    Calls Try.prog 63 #[v1, v2] w fun e w' => e = .returned (.bool true) ∧ ∃ n, w' = w.drewN n := by
  obtain ⟨a1, c1, rfl, _, h1⟩ := h1
  obtain ⟨a2, c2, rfl, _, h2⟩ := h2
  have H1 := hideIt h1
  have H2 := hideIt h2
  clear h1 h2
  go_enter Try.func63, Try.ntmps63
  go_wp2_with fail
  go_loopw [5] (fun i wr => ∃ k m : Nat, k ≤ l.length ∧ i = .int .i64 k ∧ wr = w.drewN m) (fun i _ => l.length - (intOf i).toNat)
  case atStart => exact ⟨0, 0, by omega, rfl, rfl⟩
  case round =>
    obtain ⟨k, m, hk, rfl, rfl⟩ := hrel
    by_cases hlt : k < l.length
    · obtain ⟨g1, rfl, _, hc1⟩ := H1.out (by omega)
      obtain ⟨g2, rfl, _, hc2⟩ := H2.out (by omega)
      have d1 := hc1 k hlt
      have d2 := hc2 k hlt
      clear hc1 hc2
      generalize l.getD k ByteArray.empty = x at *
      go_wp2_with fail
      go_quiet (fail)
      go_wp2_with fail
      go_roundw
      case rel => exact ⟨k + 1, _, by omega, by go_num, rfl⟩
      case measure => simp [intOf]; omega
    · have hke : k = l.length := by omega
      subst hke
      go_wp2_with fail
      go_ret
      exact ⟨rfl, _, rfl⟩
end Go.Proofs.Ythekalhceamcoaa
