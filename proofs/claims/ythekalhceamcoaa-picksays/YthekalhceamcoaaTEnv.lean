/- Lists of processors among what comes in. -/
import Derived.Test.YthekalhceamcoaaTRef
import Derived.ProofKit
import Derived.OpenShut
import Derived.ChangeOld
import Derived.Deep.Strs
import Derived.Deep.Slices
import Derived.Carry
import Derived.JoinedOf
import Derived.JoinedAt
namespace Go.Proofs.Ythekalhceamcoaa
open Go.ChangeShapes Go.WideShapes Go.ChangeAt Go.RowKit
open Ost (Cpu cpu0)
theorem own : ownKnob Try.prog.godebug = none := by kernel_rfl
theorem laidOut : laidOutB Try.prog = true := by kernel_rfl
theorem cells_CPU : Try.prog.cellsOf 40 = 3 := by kernel_rfl
theorem cells_int : Try.prog.cellsOf 3 = 1 := by kernel_rfl
instance : Inhabited Cpu := ⟨cpu0⟩
theorem cpu_of_trod {H : Type} {enc : TypeId × Value → H} {w : World} {base : Nat} {sp : Nat → Bool} {held : Bool} {fuel : Nat} {cs : List Value} {x : DataW H × List MemPlace}
    (h : DataW.trod enc Try.prog w base sp held fuel 40 cs = some x) : ∃ y : Cpu, cs = [.int .i64 y.core, .int .i64 y.sock, .int .i64 y.node] := by
  obtain ⟨y0, y1, y2, n, _, hl, h0, h1, h2⟩ := Deep.trod_struct3 Try.underlying40 h
  rw [cells_CPU] at hl
  rw [cells_int] at h0 h1 h2
  match cs, hl with
  | [a, b, c], _ =>
    obtain ⟨p, e0, _, _⟩ := DataW.trod_int Try.underlying3 h0
    obtain ⟨q, e1, _, _⟩ := DataW.trod_int Try.underlying3 h1
    obtain ⟨r, e2, _, _⟩ := DataW.trod_int Try.underlying3 h2
    simp at e0 e1 e2
    exact ⟨⟨p, q, r⟩, by rw [e0, e1, e2]⟩
theorem cpus_of_trod {H : Type} {enc : TypeId × Value → H} {W : World} {ao : Option Addr} {len cap : Nat} {d : DataW H} {p : List MemPlace}
    (h : DataW.Trod enc Try.prog W 0 (fun _ => true) true 22 (.slice ao len cap) d p) : ∃ l : List Cpu, l.length = len ∧ CpusAt W (.slice ao l.length cap) l := by
  obtain ⟨fuel, hf⟩ := h
  rcases Deep.open_slice Try.underlying22 hf with ⟨hcs, _⟩ | ⟨a, len', cap', m, n, D, Pl, hcs, _, hl, hm, hmm, _, hx⟩
  · simp [Value.cells] at hcs
    obtain ⟨rfl, rfl, rfl⟩ := hcs
    exact ⟨[], rfl, .inl ⟨rfl, none, 0, rfl⟩⟩
  · simp [Value.cells] at hcs
    obtain ⟨rfl, rfl, rfl⟩ := hcs
    rw [if_pos rfl] at hmm
    subst hmm
    rw [cells_CPU] at hx
    obtain ⟨f, hfx⟩ := Deep.choose_lt (α := Cpu) (n := len) (p := fun i y => W.cell? (a.add (i * 3)) = some (.int .i64 y.core) ∧ W.cell? (a.add (i * 3 + 1)) = some (.int .i64 y.sock) ∧ W.cell? (a.add (i * 3 + 2)) = some (.int .i64 y.node)) (fun i hi => by
      obtain ⟨cs', h1, h2⟩ := hx i (by omega)
      obtain ⟨y, rfl⟩ := cpu_of_trod h2
      obtain ⟨_, _, hc⟩ := World.cells?_some h1
      have e0 := hc 0 (by omega)
      have e1 := hc 1 (by omega)
      have e2 := hc 2 (by omega)
      rw [Deep.add_add] at e0 e1 e2
      exact ⟨y, by simpa using e0, by simpa using e1, by simpa using e2⟩)
    refine ⟨(List.range len).map f, by simp, ?_⟩
    by_cases hn0 : len = 0
    · subst hn0
      exact .inl ⟨rfl, _, _, rfl⟩
    · obtain ⟨b, off, spot⟩ := a
      have hc := (hfx 0 (by omega)).1
      have hspot : spot = none := by simpa [Addr.add] using World.cell?_spot hc
      subst hspot
      refine .inr ⟨b, off, _, rfl, fun k hk => ?_⟩
      have hk' : k < len := by simpa using hk
      obtain ⟨h0, h1, h2⟩ := hfx k hk'
      rw [Addr.add_lit] at h0 h1 h2
      have e : ((List.range len).map f).getD k cpu0 = f k := by simp [hk']
      rw [e]
      exact ⟨h0, by rw [Nat.add_assoc]; exact h1, by rw [Nat.add_assoc]; exact h2⟩
end Go.Proofs.Ythekalhceamcoaa
