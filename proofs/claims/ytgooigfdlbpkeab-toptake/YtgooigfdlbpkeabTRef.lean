/- What the document's Core, Socket, On answer: contracts. -/
import Derived.Test.YtgooigfdlbpkeabTBase
import Derived.Test.YtgooigfdlbpkeabTMath
namespace Go.Proofs.Ytgooigfdlbpkeab
open Go.RowKit
open Ost (Cpu cpu0 chosenTo chosen chosenTo_yes chosenTo_no chosenTo_lt)
/-- The cells of processors, from a place on. -/
def CellsAt (w : World) (b o : Nat) (l : List Cpu) : Prop :=
  ∀ k, k < l.length → w.cell? ⟨b, o + k * 3, none⟩ = some (.int .i64 (l.getD k cpu0).core) ∧ w.cell? ⟨b, o + k * 3 + 1, none⟩ = some (.int .i64 (l.getD k cpu0).sock) ∧ w.cell? ⟨b, o + k * 3 + 2, none⟩ = some (.int .i64 (l.getD k cpu0).node)
/-- A slice of processors that is read. -/
def CpusAt (w : World) (v : Value) (l : List Cpu) : Prop :=
  (l = [] ∧ ∃ ao c, v = .slice ao 0 c) ∨ ∃ b o c, v = .slice (some ⟨b, o, none⟩) l.length c ∧ CellsAt w b o l
theorem CellsAt.below {w0 w w' : World} {b o : Nat} {l : List Cpu} (h : CellsAt w b o l) (hlt : b < w0.heap.size) (hb : Below w0.heap.size w w') : CellsAt w' b o l := by
  intro k hk
  obtain ⟨h1, h2, h3⟩ := h k hk
  exact ⟨(hb.cell (p := ⟨b, o + k * 3, none⟩) hlt).trans h1, (hb.cell (p := ⟨b, o + k * 3 + 1, none⟩) hlt).trans h2, (hb.cell (p := ⟨b, o + k * 3 + 2, none⟩) hlt).trans h3⟩
theorem CpusAt.below {w w' : World} {v : Value} {l : List Cpu} (h : CpusAt w v l) (hb : Below w.heap.size w w') : CpusAt w' v l := by
  rcases h with h | ⟨b, o, c, hv, hc⟩
  · exact .inl h
  · refine .inr ⟨b, o, c, hv, fun k hk => ?_⟩
    obtain ⟨h1, h2, h3⟩ := hc k hk
    have hlt := World.block_lt_of_cell? w _ h1
    exact ⟨(hb.cell (p := ⟨b, o + k * 3, none⟩) hlt).trans h1, (hb.cell (p := ⟨b, o + k * 3 + 1, none⟩) hlt).trans h2, (hb.cell (p := ⟨b, o + k * 3 + 2, none⟩) hlt).trans h3⟩
/-- Their cores, sockets and nodes are such as there may be. -/
def Good (l : List Cpu) : Prop := ∀ c ∈ l, 0 ≤ c.core ∧ c.core ≤ 63 ∧ 0 ≤ c.sock ∧ c.sock ≤ 63 ∧ 0 ≤ c.node ∧ c.node ≤ 3
theorem Good.at {l : List Cpu} (h : Good l) {k : Nat} (hk : k < l.length) : 0 ≤ (l.getD k cpu0).node ∧ (l.getD k cpu0).node ≤ 3 := by
  have : l.getD k cpu0 ∈ l := by simp [hk]
  have := h _ this
  exact ⟨this.2.2.2.2.1, this.2.2.2.2.2⟩
/-- Is its node among those of a mask? -/
def onMask (m : Nat) (c : Cpu) : Bool := m.testBit c.node.toNat
theorem bit8 (m n : Nat) (hm : m < 256) : (bits BinOp.and IntKind.u8 ((m : Int) / 2 ^ n) 1 == 1) = m.testBit n := by
  have e : ((m : Int) / 2 ^ n) = ((m / 2 ^ n : Nat) : Int) := by simp
  have hlt : m / 2 ^ n < 256 := Nat.lt_of_le_of_lt (Nat.div_le_self _ _) hm
  rw [e, Nat.testBit_eq_decide_div_mod_eq]
  generalize m / 2 ^ n = q at hlt
  have key : ∀ q : Fin 256, (bits BinOp.and IntKind.u8 ((q.val : Nat) : Int) 1 == 1) = decide (q.val % 2 = 1) := by decide +kernel
  exact key ⟨q, hlt⟩
end Go.Proofs.Ytgooigfdlbpkeab
