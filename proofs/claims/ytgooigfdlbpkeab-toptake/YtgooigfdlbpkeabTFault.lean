/- What the document's TopoFault answers: the contract. -/
import Derived.Test.YtgooigfdlbpkeabTNew2
namespace Go.Proofs.Ytgooigfdlbpkeab
open Go.RowKit
open Ost (Cpu cpu0 inB clash clashTo faultTo fault)
theorem outB {x : Cpu} (h : inB x = false) : x.core < 0 ∨ (0 ≤ x.core ∧ 63 < x.core) ∨ (0 ≤ x.core ∧ x.core ≤ 63 ∧ x.sock < 0) ∨ (0 ≤ x.core ∧ x.core ≤ 63 ∧ 0 ≤ x.sock ∧ 63 < x.sock) ∨ (0 ≤ x.core ∧ x.core ≤ 63 ∧ 0 ≤ x.sock ∧ x.sock ≤ 63 ∧ x.node < 0) ∨ (0 ≤ x.core ∧ x.core ≤ 63 ∧ 0 ≤ x.sock ∧ x.sock ≤ 63 ∧ 0 ≤ x.node ∧ 3 < x.node) := by
  have : ¬ inB x = true := by rw [h]; simp
  rw [Ost.inB_iff] at this
  omega
theorem clashTo_yes {l : List Cpu} {x : Cpu} {j k : Nat} (hj : j < k) (h : clash (l.getD j cpu0) x = true) : clashTo l x k = true := (Ost.clashTo_iff l x k).2 ⟨j, hj, h⟩
theorem clashTo_next {l : List Cpu} {x : Cpu} {j : Nat} (h0 : clashTo l x j = false) (h : clash (l.getD j cpu0) x = false) : clashTo l x (j + 1) = false := by rw [clashTo, h0, h]; rfl
end Go.Proofs.Ytgooigfdlbpkeab
