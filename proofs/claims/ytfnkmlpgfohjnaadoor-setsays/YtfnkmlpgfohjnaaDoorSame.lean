/- What 'same' answers: an error of the program's, and its number. -/
import Derived.Test.YtfnkmlpgfohjnaaDoorAmt
namespace Go.Proofs.YtfnkmlpgfohjnaaDoor
open Go.RowKit
theorem errV_zero : errV 0 = .nilIface := rfl
theorem errV_pos {f : Int} (h : 0 < f) : errV f = .iface 23 (.int .i64 f) := by unfold errV; rw [if_neg (by omega)]
set_option maxHeartbeats 400000 in
theorem same_zero (w : World) : Calls Tryd.prog 8 #[.nilIface, .int .i64 0] w fun e w' => e = .returned (.bool true) ∧ w' = w := by
  go_enter Tryd.func8, Tryd.ntmps8
  go_wp2_with fail
  go_ret
  exact ⟨rfl, rfl⟩
theorem run_assert (f : Int) (w : World) : (Instr.typeAssert (.iface 23 (.int .i64 f)) 27 23 true).run Tryd.prog w = .ok (.tuple #[.int .i64 f, .bool true]) w := by kernel_rfl
set_option maxRecDepth 100000 in
set_option maxHeartbeats 400000 in
theorem same_pos (f : Int) (w : World) (h : 0 < f) : Calls Tryd.prog 8 #[.iface 23 (.int .i64 f), .int .i64 f] w fun e w' => e = .returned (.bool true) ∧ w' = w := by
  have hta := run_assert f
  go_enter Tryd.func8, Tryd.ntmps8
  go_wp2_with fail
  go_ret
  exact ⟨rfl, rfl⟩
theorem same_any (f : Int) (w : World) (h : 0 ≤ f) : Calls Tryd.prog 8 #[errV f, .int .i64 f] w fun e w' => e = .returned (.bool true) ∧ w' = w := by
  by_cases h0 : f = 0
  · subst h0; exact same_zero w
  · rw [errV_pos (by omega)]; exact same_pos f w (by omega)
end Go.Proofs.YtfnkmlpgfohjnaaDoor
