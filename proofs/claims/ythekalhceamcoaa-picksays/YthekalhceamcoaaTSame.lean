/- What 'same' and 'topos' answer; New and TopoFault of whatever list: contracts. -/
import Derived.Test.YthekalhceamcoaaTFault
namespace Go.Proofs.Ythekalhceamcoaa
open Go.RowKit
open Ost (Cpu cpu0 chosen fault)
set_option maxHeartbeats 400000 in
theorem same_zero (w : World) : Calls Try.prog 19 #[.nilIface, .int .i64 0] w fun e w' => e = .returned (.bool true) ∧ w' = w := by
  go_enter Try.func19, Try.ntmps19
  go_wp2_with fail
  go_ret
  exact ⟨rfl, rfl⟩
theorem run_assert (f : Int) (w : World) : (Instr.typeAssert (.iface 133 (.int .i64 f)) 30 133 true).run Try.prog w = .ok (.tuple #[.int .i64 f, .bool true]) w := by kernel_rfl
set_option maxRecDepth 100000 in
set_option maxHeartbeats 400000 in
theorem same_pos (f : Int) (w : World) (h : 0 < f) : Calls Try.prog 19 #[.iface 133 (.int .i64 f), .int .i64 f] w fun e w' => e = .returned (.bool true) ∧ w' = w := by
  have hta := run_assert f
  go_enter Try.func19, Try.ntmps19
  go_wp2_with fail
  go_ret
  exact ⟨rfl, rfl⟩
theorem CpusAt.cases {w : World} {ao : Option Addr} {l : List Cpu} {c : Nat} (h : CpusAt w (.slice ao l.length c) l) : (l.length = 0 ∨ 64 < l.length) ∨ ∃ b o, ao = some ⟨b, o, none⟩ ∧ CellsAt w b o l ∧ b < w.heap.size ∧ 0 < l.length ∧ l.length ≤ 64 := by
  by_cases hl : l.length = 0 ∨ 64 < l.length
  · exact .inl hl
  · rcases h with ⟨rfl, _⟩ | ⟨b, o, c', hv, hc⟩
    · simp at hl
    · simp only [Value.slice.injEq] at hv
      exact .inr ⟨b, o, hv.1, hc, World.block_lt_of_cell? w _ (hc 0 (by omega)).1, by omega, by omega⟩
theorem new_any (ao : Option Addr) (c : Nat) (l : List Cpu) (w : World) (hv : CpusAt w (.slice ao l.length c) l) :
    Calls Try.prog 16 #[.slice ao l.length c] w fun e w' => Newed w l e w' := by
  rcases hv.cases with h | ⟨b, o, rfl, hc, hlb, h0, h64⟩
  · exact new_many ao l.length c l w rfl h
  · exact new_some b o c l w hc hlb h0 h64
theorem refFault_any (ao : Option Addr) (c : Nat) (l : List Cpu) (w : World) (hv : CpusAt w (.slice ao l.length c) l) :
    Calls Try.prog 15 #[.slice ao l.length c] w fun e w' => e = .returned (.int .i64 (fault l)) ∧ Below w.heap.size w w' := by
  rcases hv.cases with h | ⟨b, o, rfl, hc, hlb, h0, h64⟩
  · exact refFault_many ao l.length c l w rfl h
  · exact refFault_some b o c l w hc hlb h0 h64
theorem fault_range (l : List Cpu) : fault l = 0 ∨ 0 < fault l := by
  unfold fault
  split
  · right; decide
  · have key : ∀ k, Ost.faultTo l k = 0 ∨ 0 < Ost.faultTo l k := by
      intro k
      induction k with
      | zero => left; rfl
      | succ k ih =>
        rw [Ost.faultTo]
        split
        · unfold Ost.faultAt
          split
          · split
            · right; decide
            · left; rfl
          · right; decide
        · exact ih
    exact key _
theorem fault_Good {l : List Cpu} (h : fault l = 0) : Good l := by
  intro c hc
  have := (Ost.inB_iff c).1 ((Ost.fault_good h).2.2 c hc)
  omega
def two0 : List Cpu := [⟨0, 0, 0⟩, ⟨1, 0, 1⟩]
theorem two0_fault : fault two0 = 0 := by decide +kernel
theorem two0_all : chosen anyCpu two0 = 3 := by decide +kernel
theorem two0_on : chosen (onMask 2) two0 = 2 := by decide +kernel
end Go.Proofs.Ythekalhceamcoaa
