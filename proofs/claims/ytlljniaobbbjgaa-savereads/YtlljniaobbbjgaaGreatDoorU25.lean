/- QR1 -/
import Derived.Test.YtlljniaobbbjgaaGreatDoorU5
import Derived.Test.YtlljniaobbbjgaaGreatDoorU2
namespace Go.Proofs.YtlljniaobbbjgaaGreatDoor
open Go.RowKit
open Qos (Nd Ct Pd nd0 ct0 pd0 nd ct pd silent certain classOf quiet sure sumM sumB Mild ownOf shares quota amtOk pathOf)
def amtN (m b : Int) : Int := if amtOk m b = true then 0 else 1
set_option maxHeartbeats 400000 in
theorem amountFault_any (m b : Int) (w : World) : Calls Tryz.prog 53 #[.agg #[.int .i64 m, .int .i64 b]] w fun e w' => e = .returned (.int .i64 (amtN m b)) ∧ Below w.heap.size w w' := by
  have HB := hideIt ((Below.refl w.heap.size w).alloc (Nat.le_refl _) (.cells #[.int .i64 m, .int .i64 b] 53))
  have key : m < 0 ∨ (¬ m < 0 ∧ 1000000 < m) ∨ (¬ m < 0 ∧ ¬ 1000000 < m ∧ b < 0) ∨ (¬ m < 0 ∧ ¬ 1000000 < m ∧ ¬ b < 0 ∧ 1125899906842624 < b) ∨ (¬ m < 0 ∧ ¬ 1000000 < m ∧ ¬ b < 0 ∧ ¬ 1125899906842624 < b) := by omega
  rcases key with h1 | ⟨h1, h2⟩ | ⟨h1, h2, h3⟩ | ⟨h1, h2, h3, h4⟩ | ⟨h1, h2, h3, h4⟩
  · have ha := hideIt (show amtOk m b = false by unfold amtOk; simp; omega)
    go_enter Tryz.func53, Tryz.ntmps53
    go_wp2_with fail
    go_ret
    exact ⟨by unfold amtN; rw [ha.out]; rfl, HB.out⟩
  · have ha := hideIt (show amtOk m b = false by unfold amtOk; simp; omega)
    go_enter Tryz.func53, Tryz.ntmps53
    go_wp2_with fail
    go_ret
    exact ⟨by unfold amtN; rw [ha.out]; rfl, HB.out⟩
  · have ha := hideIt (show amtOk m b = false by unfold amtOk; simp; omega)
    go_enter Tryz.func53, Tryz.ntmps53
    go_wp2_with fail
    go_ret
    exact ⟨by unfold amtN; rw [ha.out]; rfl, HB.out⟩
  · have ha := hideIt (show amtOk m b = false by unfold amtOk; simp; omega)
    go_enter Tryz.func53, Tryz.ntmps53
    go_wp2_with fail
    go_ret
    exact ⟨by unfold amtN; rw [ha.out]; rfl, HB.out⟩
  · have ha := hideIt (show amtOk m b = true by unfold amtOk; simp; omega)
    go_enter Tryz.func53, Tryz.ntmps53
    go_wp2_with fail
    go_ret
    exact ⟨by unfold amtN; rw [ha.out]; rfl, HB.out⟩
end Go.Proofs.YtlljniaobbbjgaaGreatDoor

