/- An act among those that came in. -/
import Derived.Test.YthekalhceamcoaaDSame
import Derived.Test.YthekalhceamcoaaDLight2
namespace Go.Proofs.Ythekalhceamcoaa
open Go.RowKit
section
variable {w w' : World}
/-- An act, in a variable of one's own. -/
structure ActAt (w : World) (D : Nat) (kd s : ByteArray) (a : Int) (m : Nat) (lv : Value) : Prop where
  k : w.cell? ⟨D, 0, none⟩ = some (.string kd)
  s : w.cell? ⟨D, 1, none⟩ = some (.string s)
  a : w.cell? ⟨D, 2, none⟩ = some (.int .i64 a)
  m : w.cell? ⟨D, 4, none⟩ = some (.int .u8 m)
  l : w.cell? ⟨D, 5, none⟩ = some lv
theorem ActAt.lt {D : Nat} {kd s : ByteArray} {a : Int} {m : Nat} {lv : Value} (h : ActAt w D kd s a m lv) : D < w.heap.size := World.block_lt_of_cell? w _ h.k
theorem ActAt.kept {D : Nat} {kd s : ByteArray} {a : Int} {m : Nat} {lv : Value} {g : Option Nat} (h : ActAt w D kd s a m lv) (hg : w.grownBy w' g) (hne : some D ≠ g) : ActAt w' D kd s a m lv :=
  ⟨(hg.cell_far _ h.lt hne).trans h.k, (hg.cell_far _ h.lt hne).trans h.s, (hg.cell_far _ h.lt hne).trans h.a, (hg.cell_far _ h.lt hne).trans h.m, (hg.cell_far _ h.lt hne).trans h.l⟩
theorem ActAt.below {D : Nat} {kd s : ByteArray} {a : Int} {m : Nat} {lv : Value} (h : ActAt w D kd s a m lv) (hb : Below w.heap.size w w') : ActAt w' D kd s a m lv := h.kept (grown_below hb none) (by simp)
theorem ActAt.made (w : World) (kd s : ByteArray) (a b : Int) (m : Nat) (lv nm pr cv uv : Value) (t : TypeId) : ActAt (w.alloc (.cells #[.string kd, .string s, .int .i64 a, .int .i64 b, .int .u8 m, lv, nm, pr, cv, uv] t)) w.heap.size kd s a m lv :=
  ⟨by simp, by simp, by simp, by simp, by simp⟩
end
theorem act_at {w wr : World} {aa : Option Addr} {an ca k : Nat} (hA : RowsOf w (.slice aa an ca) 10 (actP w)) (hb : Below w.heap.size w wr) (hlt : k < an) :
    ∃ (_ : Unit) (kd s : ByteArray) (xa xb : Int) (m : Nat) (lva : Option Addr) (lvl lvc : Nat) (nm : ByteArray) (pr : Int) (cva : Option Addr) (cvl cvc : Nat) (uva : Option Addr) (uvl uvc ab ai : Nat), aa = some ⟨ab, ai, none⟩ ∧ m < 256 ∧ ab < w.heap.size ∧
      wr.cell? ⟨ab, ai + k * 10, none⟩ = some (.string kd) ∧ wr.cell? ⟨ab, ai + k * 10 + 1, none⟩ = some (.string s) ∧ wr.cell? ⟨ab, ai + k * 10 + 2, none⟩ = some (.int .i64 xa) ∧ wr.cell? ⟨ab, ai + k * 10 + 3, none⟩ = some (.int .i64 xb) ∧ wr.cell? ⟨ab, ai + k * 10 + 4, none⟩ = some (.int .u8 m) ∧
      wr.cell? ⟨ab, ai + k * 10 + 5, none⟩ = some (.slice lva lvl lvc) ∧ wr.cell? ⟨ab, ai + k * 10 + 6, none⟩ = some (.string nm) ∧ wr.cell? ⟨ab, ai + k * 10 + 7, none⟩ = some (.int .i64 pr) ∧ wr.cell? ⟨ab, ai + k * 10 + 8, none⟩ = some (.slice cva cvl cvc) ∧ wr.cell? ⟨ab, ai + k * 10 + 9, none⟩ = some (.slice uva uvl uvc) := by
  obtain ⟨aa', an', ca', hv, _, hr⟩ := hA
  cases hv
  obtain ⟨ab, ai, rfl, hab, hcs⟩ := hr (by omega)
  obtain ⟨cs, _, hc, kd, s, xa, xb, m, lv, nm, pr, cv, uv, rfl, hm8, hlv, hcv, huv⟩ := hcs k hlt
  obtain ⟨lva, lvl, lvc, rfl, _, _⟩ := hlv
  obtain ⟨cva, cvl, cvc, rfl, _, _⟩ := hcv
  obtain ⟨uva, uvl, uvc, rfl, _, _⟩ := huv
  exact ⟨(), kd, s, xa, xb, m, lva, lvl, lvc, nm, pr, cva, cvl, cvc, uva, uvl, uvc, ab, ai, rfl, hm8, hab,
    (hb.cell (p := ⟨ab, ai + k * 10, none⟩) hab).trans (hc 0 (by decide)), (hb.cell (p := ⟨ab, ai + k * 10 + 1, none⟩) hab).trans (hc 1 (by decide)), (hb.cell (p := ⟨ab, ai + k * 10 + 2, none⟩) hab).trans (hc 2 (by decide)), (hb.cell (p := ⟨ab, ai + k * 10 + 3, none⟩) hab).trans (hc 3 (by decide)), (hb.cell (p := ⟨ab, ai + k * 10 + 4, none⟩) hab).trans (hc 4 (by decide)), (hb.cell (p := ⟨ab, ai + k * 10 + 5, none⟩) hab).trans (hc 5 (by decide)), (hb.cell (p := ⟨ab, ai + k * 10 + 6, none⟩) hab).trans (hc 6 (by decide)), (hb.cell (p := ⟨ab, ai + k * 10 + 7, none⟩) hab).trans (hc 7 (by decide)), (hb.cell (p := ⟨ab, ai + k * 10 + 8, none⟩) hab).trans (hc 8 (by decide)), (hb.cell (p := ⟨ab, ai + k * 10 + 9, none⟩) hab).trans (hc 9 (by decide))⟩
end Go.Proofs.Ythekalhceamcoaa
