/- The program's pool and the document's, side by side. -/
import Derived.Test.YthekalhceamcoaaDSame
import Derived.Test.YthekalhceamcoaaDAct
import Derived.Test.YthekalhceamcoaaDClaim
import Derived.Test.YthekalhceamcoaaDRefC
import Derived.Test.YthekalhceamcoaaDRefT
import Derived.Test.YthekalhceamcoaaDLight2
import Derived.ChangeKeysEq
namespace Go.Proofs.Ythekalhceamcoaa
open Go.RowKit
open Dvs (Dv dv0 dv nth Nodes fault)
/-- They lie apart, above what came in. -/
structure Apart (B pb db rb eb n : Nat) : Prop where
  lp : B ≤ pb
  ld : 0 < n → B ≤ db
  lr : B ≤ rb
  le : 0 < n → B ≤ eb
  a1 : pb ≠ rb
  a2 : 0 < n → db ≠ rb
  a3 : 0 < n → pb ≠ eb
  a4 : 0 < n → db ≠ eb
/-- Both pools hold the same. -/
structure Both (W w : World) (pb db : Nat) (ao : Option Addr) (c rb eb : Nat) (ao2 : Option Addr) (c2 : Nat) (ds : List Dv) (us : Nat → Bool) : Prop where
  p : PoolAt w pb db ao c ds us
  m : PoolAt w rb eb ao2 c2 ds us
  nodes : Nodes ds
  below : Below W.heap.size W w
  apart : Apart W.heap.size pb db rb eb ds.length
section
variable {W w w' w'' : World} {pb db : Nat} {ao : Option Addr} {c rb eb : Nat} {ao2 : Option Addr} {c2 : Nat} {ds : List Dv} {us vs : Nat → Bool}
theorem Both.grows (h : Both W w pb db ao c rb eb ao2 c2 ds us) (hb : Below w.heap.size w w') : Both W w' pb db ao c rb eb ao2 c2 ds us :=
  ⟨h.p.below hb, h.m.below hb, h.nodes, h.below.trans (hb.mono h.below.size), h.apart⟩
theorem Both.alloc (h : Both W w pb db ao c rb eb ao2 c2 ds us) (o : Obj) : Both W (w.alloc o) pb db ao c rb eb ao2 c2 ds us := h.grows ((Below.refl _ w).alloc (Nat.le_refl _) o)
theorem Both.drewN (h : Both W w pb db ao c rb eb ao2 c2 ds us) (n : Nat) : Both W (w.drewN n) pb db ao c rb eb ao2 c2 ds us := h.grows (below_drewN (Below.refl _ w) n)
theorem Both.drew (h : Both W w pb db ao c rb eb ao2 c2 ds us) : Both W w.drew pb db ao c rb eb ao2 c2 ds us := h.grows (below_drew (Below.refl _ w))
/-- The document's pool is as it was when the program's own has turned. -/
theorem Both.other (h : Both W w pb db ao c rb eb ao2 c2 ds us) (hg : w.grownBy w' (some pb)) : PoolAt w' rb eb ao2 c2 ds us :=
  h.m.kept hg (by simpa using fun e => h.apart.a1 e.symm) (fun h0 => by simpa using fun e => h.apart.a3 h0 e.symm)
theorem Both.step (h : Both W w pb db ao c rb eb ao2 c2 ds us) (hg : w.grownBy w' (some pb)) (hp : PoolAt w' pb db ao c ds vs) (hg2 : w'.grownBy w'' (some rb)) (hm : PoolAt w'' rb eb ao2 c2 ds vs) : Both W w'' pb db ao c rb eb ao2 c2 ds vs := by
  have b1 := below_grown hg (K := W.heap.size) h.below.size (fun j hj => by cases hj; exact h.apart.lp)
  have b2 := below_grown hg2 (K := W.heap.size) (Nat.le_trans h.below.size hg.size) (fun j hj => by cases hj; exact h.apart.lr)
  exact ⟨hp.kept hg2 (by simpa using h.apart.a1) (fun h0 => by simpa using h.apart.a2 h0), hm, h.nodes, (h.below.trans b1).trans b2, h.apart⟩
theorem Both.sick (h : Both W w pb db ao c rb eb ao2 c2 ds us) {n : Nat} (hn : n < ds.length) (b : Bool) : Both W ((w.setCell ⟨db, n * 3 + 2, none⟩ (.bool b)).setCell ⟨eb, n * 3 + 2, none⟩ (.bool b)) pb db ao c rb eb ao2 c2 (Dvs.sicken ds n b) us := by
  have h0 : 0 < ds.length := by omega
  have g1 := grown_setCell w ⟨db, n * 3 + 2, none⟩ (.bool b)
  have g2 := grown_setCell (w.setCell ⟨db, n * 3 + 2, none⟩ (.bool b)) ⟨eb, n * 3 + 2, none⟩ (.bool b)
  have hl := Dvs.sicken_len ds n b
  refine ⟨(h.p.sicken hn b).kept g2 (by simpa using h.apart.a3 h0) (fun _ => by simpa using h.apart.a4 h0), ?_, Dvs.sicken_nodes h.nodes hn b, ?_, by rw [hl]; exact h.apart⟩
  · exact (h.m.kept g1 (by simpa using fun e => h.apart.a2 h0 e.symm) (fun _ => by simpa using fun e => h.apart.a4 h0 e.symm)).sicken hn b
  · exact (h.below.setCell (h.apart.ld h0) _).setCell (h.apart.le h0) _
theorem Both.midSick (h : Both W w pb db ao c rb eb ao2 c2 ds us) {n : Nat} (hn : n < ds.length) (b : Bool) : PoolAt (w.setCell ⟨db, n * 3 + 2, none⟩ (.bool b)) rb eb ao2 c2 ds us := by
  have h0 : 0 < ds.length := by omega
  exact h.m.kept (grown_setCell w ⟨db, n * 3 + 2, none⟩ (.bool b)) (by simpa using fun e => h.apart.a2 h0 e.symm) (fun _ => by simpa using fun e => h.apart.a4 h0 e.symm)
end
theorem NewedD.both {W w1 w2 : World} {ds : List Dv} {p m : Value} (hb0 : Below W.heap.size W w1) (h1 : NewPool w1 ds p w2) {w3 : World} (hb1 : Below w1.heap.size w1 w2) (h2 : NewPool w2 ds m w3) (hb2 : Below w2.heap.size w2 w3) (hf : fault ds = 0) :
    ∃ pb db ao c rb eb ao2 c2, p = .pointer (some ⟨pb, 0, none⟩) ∧ m = .pointer (some ⟨rb, 0, none⟩) ∧ Both W w3 pb db ao c rb eb ao2 c2 ds (fun _ => false) := by
  obtain ⟨pb, db, ao, c, rfl, hp, hpl, hdl⟩ := h1
  obtain ⟨rb, eb, ao2, c2, rfl, hm, hrl, hel⟩ := h2
  have s0 := hb0.size
  have s1 := hb1.size
  have hpl2 := hp.lt
  refine ⟨pb, db, ao, c, rb, eb, ao2, c2, rfl, rfl, hp.below hb2, hm, Dvs.fault_nodes hf, (hb0.trans (hb1.mono s0)).trans (hb2.mono (Nat.le_trans s0 s1)), ⟨by omega, fun h0 => by have := hdl h0; omega, by omega, fun h0 => by have := hel h0; omega, by omega, fun h0 => by have := (hp.at0 h0).2.2; omega, fun h0 => by have := hel h0; omega, fun h0 => by have := (hp.at0 h0).2.2; have := hel h0; omega⟩⟩
theorem refTake_any (kind : ByteArray) (many : Int) (m : Nat) (w : World) (pb db : Nat) (ao : Option Addr) (c : Nat) (ds : List Dv) (us : Nat → Bool) (h : PoolAt w pb db ao c ds us) (hN : Nodes ds) (hm : m < 256) :
    Calls Try.prog 30 #[.pointer (some ⟨pb, 0, none⟩), .string kind, .int .i64 many, .int .u8 m] w fun e w' => Took (fun n => .int .i64 n) w pb db ao c ds us kind m many e w' := by
  by_cases h0 : many < 0
  · refine (refTake_neg kind many m w pb h0).mono ?_
    rintro e w' ⟨rfl, rfl⟩
    exact Took.wrong (n := 1) (by rw [Dvs.takeF, if_pos h0]) (by decide) rfl (Below.refl _ _)
  · obtain ⟨n, rfl⟩ := Int.eq_ofNat_of_zero_le (show 0 ≤ many by omega)
    exact refTake_pos kind n m w pb db ao c ds us h hN hm
def fourF (a b c d : Nat) : Nat → Nat
  | 0 => a
  | 1 => b
  | 2 => c
  | _ => d
theorem FourAt.laid (w : World) (t : TypeId) (a b c d : Nat) : FourAt (w.alloc (.cells #[.int .i64 a, .int .i64 b, .int .i64 c, .int .i64 d] t)) w.heap.size (fourF a b c d) := by
  intro j hj
  have : j = 0 ∨ j = 1 ∨ j = 2 ∨ j = 3 := by omega
  rcases this with rfl | rfl | rfl | rfl <;> exact ⟨by simp [fourF], by simp⟩
theorem four_two (w : World) (n0 n1 n2 n3 m0 m1 m2 m3 : Nat) (t : TypeId) : FourAt ((w.alloc (.cells #[.int .i64 n0, .int .i64 n1, .int .i64 n2, .int .i64 n3] t)).alloc (.cells #[.int .i64 m0, .int .i64 m1, .int .i64 m2, .int .i64 m3] t)) w.heap.size (fourF n0 n1 n2 n3) ∧ FourAt ((w.alloc (.cells #[.int .i64 n0, .int .i64 n1, .int .i64 n2, .int .i64 n3] t)).alloc (.cells #[.int .i64 m0, .int .i64 m1, .int .i64 m2, .int .i64 m3] t)) (w.heap.size + 1) (fourF m0 m1 m2 m3) := by
  refine ⟨(FourAt.laid w t n0 n1 n2 n3).alloc _, ?_⟩
  have := FourAt.laid (w.alloc (.cells #[.int .i64 n0, .int .i64 n1, .int .i64 n2, .int .i64 n3] t)) t m0 m1 m2 m3
  simpa using this
theorem cellsIntD : Try.prog.cellsOf 3 = 1 := by kernel_rfl
theorem eq4D (a b c d : Int) (w : World) : Sem.run Try.prog (Op.equalIn 10000 76 (.agg #[.int .i64 a, .int .i64 b, .int .i64 c, .int .i64 d]) (.agg #[.int .i64 a, .int .i64 b, .int .i64 c, .int .i64 d])) w = .ok true w := by
  obtain ⟨i0, hi, _, _, _⟩ := info_parts infoIntD
  rw [run_equalIn_array w 9999 _ _ Try.underlying76 hi, cellsIntD, show List.range 4 = [0, 1, 2, 3] from rfl]
  simp only [Op.eqItems, Nat.mul_one]
  go_simp
theorem nums_of {W : World} {v : Value} (h : RowsOf W v 1 intP) : ∃ l g o, NumsAt W v g o l ∧ (0 < l.length → g < W.heap.size) ∧ l.length ≤ 9223372036854775807 := by
  have h' := h
  obtain ⟨ao, len, cc, rfl, hm, _⟩ := h'
  obtain ⟨l, g, o, hn, hlt⟩ := nums_of_rows h
  refine ⟨l, g, o, hn, hlt, ?_⟩
  obtain ⟨a2, c2, hv, _⟩ := hn
  cases hv
  exact hm
end Go.Proofs.Ythekalhceamcoaa
