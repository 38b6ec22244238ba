/- Groups held against each other; a closed fact: contracts of 'SameGroups' and 'classes'. -/
import Derived.Test.YthekalhceamcoaaQT1
import Derived.Test.YthekalhceamcoaaDSame
import Derived.Deep.QuietTactic
import Derived.BigQuiet
namespace Go.Proofs.Ythekalhceamcoaa
open Go.RowKit
open Qos (Nd Ct Pd nd0 ct0 pd0 nd ct pd classOf sumM sumB Mild Gp gp0 gp podF upTo groups ownOf)
set_option maxRecDepth 100000 in
set_option maxHeartbeats 2000000 in
theorem sameGroups_any (v1 v2 : Value) (l : List Gp) (w : World) (h1 : GroupsAt w v1 l) (h2 : GroupsAt w v2 l) (hl : l.length ≤ 1000) :
    Calls Try.prog 57 #[v1, v2] w fun e w' => e = .returned (.bool true) ∧ ∃ n, w' = w.drewN n := by
  obtain ⟨a1, c1, rfl, h1⟩ := h1
  obtain ⟨a2, c2, rfl, h2⟩ := h2
  have H1 := hideIt h1
  have H2 := hideIt h2
  clear h1 h2
  go_enter Try.func57, Try.ntmps57
  go_wp2_with fail
  go_loopw [5] (fun i wr => ∃ k m : Nat, k ≤ l.length ∧ i = .int .i64 k ∧ wr = w.drewN m) (fun i _ => l.length - (intOf i).toNat)
  case atStart => exact ⟨0, 0, by omega, rfl, rfl⟩
  case round =>
    obtain ⟨k, m, hk, rfl, rfl⟩ := hrel
    by_cases hlt : k < l.length
    · obtain ⟨g1, rfl, _, hc1⟩ := H1.out (by omega)
      obtain ⟨g2, rfl, _, hc2⟩ := H2.out (by omega)
      obtain ⟨d0, d1, d2, d3⟩ := hc1 k hlt
      obtain ⟨e0, e1, e2, e3⟩ := hc2 k hlt
      clear hc1 hc2
      generalize gp l k = x at *
      go_wp2_with fail
      go_quiet (fail)
      go_wp2_with fail
      go_roundw
      case rel => exact ⟨k + 1, _, by omega, by go_num, rfl⟩
      case measure => simp [intOf]; omega
    · have hke : k = l.length := by omega
      subst hke
      go_wp2_with fail
      go_ret
      exact ⟨rfl, _, rfl⟩
def oneC : Pd := ⟨⟨#[97]⟩, 0, [⟨⟨#[120]⟩, 2000, 5, 2000, 5, []⟩]⟩
theorem oneC_class : classOf oneC.cs = 3 := by decide
theorem oneC_fault : podF oneC = 0 := by decide
theorem oneC_own : ownOf oneC.cs 2000 = 2 := by decide
theorem oneC_at (w : World) : ConsAt (w.alloc (.cells #[.string ⟨#[120]⟩, .int .i64 2000, .int .i64 5, .int .i64 2000, .int .i64 5, .slice none 0 0] 94)) (.slice (some ⟨w.heap.size, 0, none⟩) 1 1) oneC.cs := by
  refine ⟨_, 1, rfl, ⟨by decide, by decide⟩, fun _ => ⟨w.heap.size, 0, fun _ => .slice none 0 0, rfl, by simp, fun k hk => ?_⟩⟩
  have : k = 0 := by simp [oneC] at hk; omega
  subst this
  refine ⟨fun j hj => ?_, ⟨none, 0, rfl, by decide, fun h => by simp [oneC, ct] at h⟩⟩
  match j, hj with
  | 0, _ => simp [contCells, oneC, ct]
  | 1, _ => simp [contCells, oneC, ct]
  | 2, _ => simp [contCells, oneC, ct]
  | 3, _ => simp [contCells, oneC, ct]
  | 4, _ => simp [contCells, oneC, ct]
  | 5, _ => simp [contCells, oneC, ct]
end Go.Proofs.Ythekalhceamcoaa
