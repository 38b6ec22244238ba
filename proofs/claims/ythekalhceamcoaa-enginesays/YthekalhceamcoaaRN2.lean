/- What the walk of 'EngineSays' needs of its acts, of the place of a name, and of the list. -/
import Derived.Test.YthekalhceamcoaaRN1
import Derived.Test.YthekalhceamcoaaRE3
import Derived.Test.YthekalhceamcoaaRS1
import Derived.Test.YthekalhceamcoaaRL1
import Derived.Test.YthekalhceamcoaaEMath6
namespace Go.Proofs.Ythekalhceamcoaa
open Go.RowKit
/-- The number of an act is one of 64 bits. -/
def actN (cs : List Value) : Prop := ∀ a, cs[2]? = some (.int .i64 a) → -9223372036854775808 ≤ a ∧ a ≤ 9223372036854775807
def ActE (W : World) (D : Nat) (kd s : ByteArray) (a b : Int) (m : Nat) (la : Option Addr) (ll lc : Nat) (nm : ByteArray) (pr : Int) (cv uv : Value) : Prop :=
  W.heap[D]? = some (.cells #[.string kd, .string s, .int .i64 a, .int .i64 b, .int .u8 m, .slice la ll lc, .string nm, .int .i64 pr, cv, uv] 63 (0, 0))
section
variable {W : World} {D : Nat} {kd s : ByteArray} {a b : Int} {m : Nat} {la : Option Addr} {ll lc : Nat} {nm : ByteArray} {pr : Int} {cv uv : Value}
theorem ActE.lt (h : ActE W D kd s a b m la ll lc nm pr cv uv) : D < W.heap.size := (Array.getElem?_eq_some_iff.1 h).1
theorem ActE.cells (h : ActE W D kd s a b m la ll lc nm pr cv uv) : W.cell? ⟨D, 0, none⟩ = some (.string kd) ∧ W.cell? ⟨D, 1, none⟩ = some (.string s) ∧ W.cell? ⟨D, 2, none⟩ = some (.int .i64 a) ∧ W.cell? ⟨D, 3, none⟩ = some (.int .i64 b) ∧ W.cell? ⟨D, 5, none⟩ = some (.slice la ll lc) := by
  refine ⟨?_, ?_, ?_, ?_, ?_⟩ <;> simp [World.cell?, show W.heap[D]? = _ from h]
end
theorem actE_at {w wr : World} {aa : Option Addr} {an ca k : Nat} (hA : RowsOf w (.slice aa an ca) 10 (actQ w)) (hN : RowsOf w (.slice aa an ca) 10 actN) (hb : Below w.heap.size w wr) (hlt : k < an) :
    ∃ (kd s : ByteArray) (xa xb : Int) (m : Nat) (lva : Option Addr) (lvl lvc : Nat) (nm : ByteArray) (pr : Int) (cva : Option Addr) (cvl cvc : Nat) (uva : Option Addr) (uvl uvc ab ai : Nat), aa = some ⟨ab, ai, none⟩ ∧ (s.size ≤ 7000 ∧ lvl ≤ 30 ∧ RowsOf w (.slice lva lvl lvc) 1 intP ∧ -9223372036854775808 ≤ xa ∧ xa ≤ 9223372036854775807) ∧ ab < w.heap.size ∧
      wr.cell? ⟨ab, ai + k * 10, none⟩ = some (.string kd) ∧ wr.cell? ⟨ab, ai + k * 10 + 1, none⟩ = some (.string s) ∧ wr.cell? ⟨ab, ai + k * 10 + 2, none⟩ = some (.int .i64 xa) ∧ wr.cell? ⟨ab, ai + k * 10 + 3, none⟩ = some (.int .i64 xb) ∧ wr.cell? ⟨ab, ai + k * 10 + 4, none⟩ = some (.int .u8 m) ∧
      wr.cell? ⟨ab, ai + k * 10 + 5, none⟩ = some (.slice lva lvl lvc) ∧ wr.cell? ⟨ab, ai + k * 10 + 6, none⟩ = some (.string nm) ∧ wr.cell? ⟨ab, ai + k * 10 + 7, none⟩ = some (.int .i64 pr) ∧ wr.cell? ⟨ab, ai + k * 10 + 8, none⟩ = some (.slice cva cvl cvc) ∧ wr.cell? ⟨ab, ai + k * 10 + 9, none⟩ = some (.slice uva uvl uvc) := by
  obtain ⟨aa', an', ca', hv, _, hr⟩ := hA
  cases hv
  obtain ⟨aa', an', ca', hv, _, hr2⟩ := hN
  cases hv
  obtain ⟨ab, ai, rfl, hab, hcs⟩ := hr (by omega)
  obtain ⟨ab', ai', hv, _, hcs2⟩ := hr2 (by omega)
  cases hv
  obtain ⟨cs, _, hc, kd, s, xa, xb, m, lva, lvl, lvc, nm, pr, cv, uv, rfl, hs, hl30, hlv, hcv, huv⟩ := hcs k hlt
  obtain ⟨cs2, _, hc2, hn⟩ := hcs2 k hlt
  have hxa := hn xa ((hc2 2 (by decide)).symm.trans (hc 2 (by decide)))
  obtain ⟨cva, cvl, cvc, rfl, _, _⟩ := hcv
  obtain ⟨uva, uvl, uvc, rfl, _, _⟩ := huv
  exact ⟨kd, s, xa, xb, m, lva, lvl, lvc, nm, pr, cva, cvl, cvc, uva, uvl, uvc, ab, ai, rfl, ⟨hs, hl30, hlv, hxa⟩, hab,
    (hb.cell (p := ⟨ab, ai + k * 10, none⟩) hab).trans (hc 0 (by decide)), (hb.cell (p := ⟨ab, ai + k * 10 + 1, none⟩) hab).trans (hc 1 (by decide)), (hb.cell (p := ⟨ab, ai + k * 10 + 2, none⟩) hab).trans (hc 2 (by decide)), (hb.cell (p := ⟨ab, ai + k * 10 + 3, none⟩) hab).trans (hc 3 (by decide)), (hb.cell (p := ⟨ab, ai + k * 10 + 4, none⟩) hab).trans (hc 4 (by decide)), (hb.cell (p := ⟨ab, ai + k * 10 + 5, none⟩) hab).trans (hc 5 (by decide)), (hb.cell (p := ⟨ab, ai + k * 10 + 6, none⟩) hab).trans (hc 6 (by decide)), (hb.cell (p := ⟨ab, ai + k * 10 + 7, none⟩) hab).trans (hc 7 (by decide)), (hb.cell (p := ⟨ab, ai + k * 10 + 8, none⟩) hab).trans (hc 8 (by decide)), (hb.cell (p := ⟨ab, ai + k * 10 + 9, none⟩) hab).trans (hc 9 (by decide))⟩
theorem argDevs {w : World} {x : RV} (h : RowsOf w (.slice x.da x.dn x.dc) 1 intP) : DevsOk w x ∧ (0 < x.dn → ∀ g o, x.da = some ⟨g, o, none⟩ → g < w.heap.size) := by
  obtain ⟨ao, len, c, hv, _, hr⟩ := h
  simp only [Value.slice.injEq] at hv
  obtain ⟨h1, h2, h3⟩ := hv
  refine ⟨fun h0 => ?_, fun h0 g o e => ?_⟩
  · obtain ⟨b, o, ha, hb, hc⟩ := hr (by omega)
    refine ⟨b, o, h1.trans ha, hb, fun k hk => ?_⟩
    obtain ⟨cs, _, hcs, n, rfl⟩ := hc k (by omega)
    have h5 := hcs 0 (by decide)
    rw [Nat.mul_one, Nat.add_zero] at h5
    have h6 : devAt w x k = n := by
      unfold devAt
      rw [h1.trans ha]
      simp only [Addr.add_lit]
      rw [h5]
      rfl
    rw [h6, h5]; rfl
  · obtain ⟨b, o', ha, hb, _⟩ := hr (by omega)
    have := e.symm.trans (h1.trans ha)
    cases this
    exact hb
/-- Where a name stands in the list, as far as it was looked. -/
def AtV (rs : List RV) (p c : ByteArray) (q : Nat) (v : Value) : Prop := (v = .int .i64 (-1) ∧ ∀ j, j < q → ¬ ((rv rs j).pod = p ∧ (rv rs j).cont = c)) ∨ ∃ j : Nat, j < q ∧ v = .int .i64 j ∧ (rv rs j).pod = p ∧ (rv rs j).cont = c
theorem AtV.stay {rs : List RV} {p c : ByteArray} {q : Nat} {v : Value} (h : AtV rs p c q v) (hn : ¬ ((rv rs q).pod = p ∧ (rv rs q).cont = c)) : AtV rs p c (q + 1) v := by
  rcases h with ⟨h1, h2⟩ | ⟨j, h1, h2, h3⟩
  · refine .inl ⟨h1, fun j hj => ?_⟩
    by_cases e : j = q
    · rw [e]; exact hn
    · exact h2 j (by omega)
  · exact .inr ⟨j, by omega, h2, h3⟩
theorem AtV.turn {rs : List RV} {p c : ByteArray} {q : Nat} (hn : (rv rs q).pod = p ∧ (rv rs q).cont = c) : AtV rs p c (q + 1) (.int .i64 (q : Int)) := .inr ⟨q, by omega, rfl, hn⟩
theorem AtV.none {rs : List RV} {p c : ByteArray} (h : ∀ j, j < rs.length → ¬ ((rv rs j).pod = p ∧ (rv rs j).cont = c)) : (rs.any fun y => decide (y.pod = p ∧ y.cont = c)) = false := by
  rw [List.any_eq_false]
  intro y hy
  obtain ⟨j, hj, rfl⟩ := List.getElem_of_mem hy
  have := h j hj
  simpa [rv, hj] using this
theorem AtV.some {rs : List RV} {p c : ByteArray} {j : Nat} (hj : j < rs.length) (h : (rv rs j).pod = p ∧ (rv rs j).cont = c) : (rs.any fun y => decide (y.pod = p ∧ y.cont = c)) = true := by
  rw [List.any_eq_true]
  exact ⟨rv rs j, rv_mem hj, by simp [h]⟩
/-- The names of the containers. -/
def nmOf (q : Nat) : ByteArray := if q = 0 then ⟨#[120]⟩ else if q = 1 then ⟨#[121]⟩ else ⟨#[122, 122]⟩
theorem nmOf_short (q : Nat) : (nmOf q).size ≤ 7000 := by
  unfold nmOf
  repeat' split
  all_goals decide
theorem names_at {W : World} {g : Nat} (h : W.heap[g]? = some (.cells #[.string ⟨#[120]⟩, .string ⟨#[121]⟩, .string ⟨#[122, 122]⟩] 9 (0, 0))) {q : Nat} (hq : q < 3) : W.cell? ⟨g, q, none⟩ = some (.string (nmOf q)) := by
  match q, hq with
  | 0, _ => simp [World.cell?, h, nmOf]
  | 1, _ => simp [World.cell?, h, nmOf]
  | 2, _ => simp [World.cell?, h, nmOf]
/-- Four cells of a row, written. -/
def put4 (W : World) (g i : Nat) (x : RV) : World := (((W.setCell ⟨g, i, none⟩ (.string x.pod)).setCell ⟨g, i + 1, none⟩ (.string x.cont)).setCell ⟨g, i + 2, none⟩ (.int .u64 x.cpus)).setCell ⟨g, i + 3, none⟩ (.slice x.da x.dn x.dc)
theorem set_flat (ys : List RV) (k : Nat) (x : RV) (hk : k < ys.length) : ((((ys.flatMap RV.cells).set (k * 4) (.string x.pod)).set (k * 4 + 1) (.string x.cont)).set (k * 4 + 2) (.int .u64 x.cpus)).set (k * 4 + 3) (.slice x.da x.dn x.dc) = (ys.set k x).flatMap RV.cells := by
  induction ys generalizing k with
  | nil => simp at hk
  | cons y l ih =>
    cases k with
    | zero => simp [RV.cells]
    | succ k =>
      rw [List.set_cons_succ, List.flatMap_cons, List.flatMap_cons, ← ih k (by simpa using hk)]
      have e : ∀ (c : Nat) (L : List Value) (u : Value), (RV.cells y ++ L).set ((k + 1) * 4 + c) u = RV.cells y ++ L.set (k * 4 + c) u := fun c L u => by
        rw [List.set_append_right _ _ (by simp [RV.cells]; omega)]
        rw [show (k + 1) * 4 + c - (RV.cells y).length = k * 4 + c by simp [RV.cells]; omega]
      have e0 := e 0
      simp only [Nat.add_zero] at e0
      rw [e0, e, e, e]
theorem RRow.put4 {base : Nat} {W : World} {g n cap : Nat} {ys : List RV} (h : RRow base W (.slice (some ⟨g, 0, none⟩) n cap) ys) {k : Nat} (hk : k < ys.length) (hn : n = ys.length) (x : RV) :
    RRow base (put4 W g (k * 4) x) (.slice (some ⟨g, 0, none⟩) n cap) (ys.set k x) ∧ W.grownBy (put4 W g (k * 4) x) (some g) := by
  subst hn
  unfold RRow at *
  obtain ⟨h1, g1⟩ := World.ownsRow.stored h (k * 4) (.string x.pod)
  obtain ⟨h2, g2⟩ := World.ownsRow.stored h1 (k * 4 + 1) (.string x.cont)
  obtain ⟨h3, g3⟩ := World.ownsRow.stored h2 (k * 4 + 2) (.int .u64 x.cpus)
  obtain ⟨h4, g4⟩ := World.ownsRow.stored h3 (k * 4 + 3) (.slice x.da x.dn x.dc)
  rw [set_flat ys k x hk] at h4
  refine ⟨by rw [List.length_set]; exact h4, ?_⟩
  have tr : ∀ {a b c : World}, a.grownBy b (some g) → b.grownBy c (some g) → a.grownBy c (some g) := fun p q => ⟨q.os.trans p.os, q.tape.trans p.tape, q.output.trans p.output, Nat.le_trans p.size q.size, fun j hj hne => (q.block j (Nat.lt_of_lt_of_le hj p.size) hne).trans (p.block j hj hne)⟩
  exact tr (tr (tr g1 g2) g3) g4
theorem RRow.read {base : Nat} {W : World} {v : Value} {ys : List RV} (h : RRow base W v ys) : RunsAt base W v ys := by
  obtain ⟨a, c, rfl, hc⟩ := RRow.slice h
  refine ⟨a, c, rfl, hc, fun h0 => ?_⟩
  rcases h.2 with ⟨hv, hn⟩ | ⟨g, cap, cur, hv, hb, hg, hnc, hcm, hcs, htake⟩
  · have := cells_len ys
    rw [hn] at this
    simp at this
    omega
  · cases hv
    refine ⟨g, rfl, hb, (Array.getElem?_eq_some_iff.1 hg).1, fun k hk => rcells_of fun c hc4 u hu => ?_⟩
    rw [← cells_at ys k hk c hc4] at hu
    have hlt : k * 4 + c < (ys.flatMap RV.cells).length := by rw [cells_len]; omega
    have hcu : cur[k * 4 + c]? = some u := by
      rw [← htake, List.getElem?_take_of_lt (by have := cells_len ys; omega)] at hu
      simpa using hu
    exact ⟨by simp [World.cell?, hg, hcu], by simp [World.frozen?, hg]⟩
end Go.Proofs.Ythekalhceamcoaa
