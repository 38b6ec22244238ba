/- What runs, in a map by names of two parts: keys and values. -/
import Derived.Test.YthekalhceamcoaaRows
import Derived.Maps.OwnSet
import Derived.Maps.Range
import Derived.Maps.Views
import Derived.DeepKeys4
import Derived.WalkKit
namespace Go.Proofs.Ythekalhceamcoaa
open Go.RowKit Go.ChangeMaps Go.Maps
/-- What runs, and where its devices lie. -/
structure RV where
  pod : ByteArray
  cont : ByteArray
  cpus : Int
  da : Option Addr
  dn : Nat
  dc : Nat
def RV.val (x : RV) : Value := .agg #[.string x.pod, .string x.cont, .int .u64 x.cpus, .slice x.da x.dn x.dc]
def RV.cells (x : RV) : List Value := [.string x.pod, .string x.cont, .int .u64 x.cpus, .slice x.da x.dn x.dc]
theorem RV.val_inj {x y : RV} (h : x.val = y.val) : x = y := by
  cases x; cases y
  simp [RV.val] at h
  simp [h]
/-- How it reads. -/
def rvElem : Value → Option (DataW Value × List MemPlace)
  | .agg ⟨[.string p, .string c, .int .u64 n, .slice a m k]⟩ => some (.held (.agg #[.string p, .string c, .int .u64 n, .slice a m k]), [])
  | _ => none
theorem rvElem_mk (x : RV) : rvElem x.val = some (.held x.val, []) := rfl
theorem rvElem_inv {v : Value} {y : DataW Value × List MemPlace} (h : rvElem v = some y) : ∃ x : RV, v = x.val ∧ y = (.held x.val, []) := by
  unfold rvElem at h
  split at h
  · rename_i p c n a m k
    cases h
    exact ⟨⟨p, c, n, a, m, k⟩, rfl, rfl⟩
  · cases h
def nameV (a b : ByteArray) : Value := .agg #[.string a, .string b]
def nameL (a b : ByteArray) : Lit := .string (keyBytes [.string a.data.toList, .string b.data.toList])
theorem laidOutR : laidOutB Try.prog = true := by kernel_rfl
theorem rowN : (189 : TypeId) < Try.prog.types.size := of_decide_eq_true (by kernel_rfl)
theorem wideN : (match Try.prog.underlying 189 with | some (.array _ _) | some (.struct _) => true | _ => false) = true := by kernel_rfl
set_option maxRecDepth 100000 in
theorem keyN : Keyed Try.prog 189 := Keyed.of_law (deep_law_laid laidOutR (m := 2) (by omega) rowN (by kernel_rfl) wideN)
theorem keyTypeN : Try.prog.keyType 189 = true := by kernel_rfl
theorem cellsN : Try.prog.cellsOf 189 = 2 := by kernel_rfl
theorem cellsS : Try.prog.cellsOf 9 = 1 := by kernel_rfl
theorem posN {k m : Nat} (h : k < m) : ∃ n, m = n + 1 := ⟨m - 1, by omega⟩
set_option maxRecDepth 100000 in
theorem nameKey (a b : ByteArray) (ha : a.size ≤ maxLen) (hb : b.size ≤ maxLen) : keyOf Try.prog 189 (nameV a b) = some (nameL a b) := by
  obtain ⟨n, hn⟩ := posN rowN
  have hS : ∀ s : ByteArray, s.size ≤ maxLen → Try.prog.keyLits (n + 1) 9 [.string s] = some [.string s.data.toList] := fun s hs => by
    unfold Program.keyLits
    rw [Try.underlying9]
    simp [hs]
  unfold keyOf
  simp only [Try.underlying189, nameV, keyTypeN, Value.formed, cellsN, Value.cells]
  rw [if_pos (by rfl), hn]
  unfold Program.keyLits
  rw [Try.underlying189]
  simp [cellsN, cellsS, hS a ha, hS b hb, nameL]
theorem nameL_inj {a b c d : ByteArray} (ha : a.size ≤ maxLen) (hb : b.size ≤ maxLen) (hc : c.size ≤ maxLen) (hd : d.size ≤ maxLen) (h : nameL a b = nameL c d) : a = c ∧ b = d := by
  have h1 := nameKey a b ha hb
  have h2 := nameKey c d hc hd
  rw [← h] at h2
  have := keyN.inj h1 h2
  simp [nameV] at this
  exact this
end Go.Proofs.Ythekalhceamcoaa
