/- Devices and acts in memory, and among what comes in. -/
import Derived.Test.YthekalhceamcoaaTBase
import Derived.Test.YthekalhceamcoaaDMath
import Derived.ProofKit
import Derived.OpenShut
import Derived.ChangeOld
import Derived.Deep.Strs
import Derived.Deep.Slices
import Derived.Carry
import Derived.JoinedOf
import Derived.JoinedAt
namespace Go.Proofs.Ythekalhceamcoaa
open Go.ChangeShapes Go.WideShapes Go.ChangeAt Go.RowKit
open Dvs (Dv dv0 dv nth)
theorem ownD : ownKnob Try.prog.godebug = none := by kernel_rfl
theorem laidOutD : laidOutB Try.prog = true := by kernel_rfl
/-- A slice of values of so many cells each, each such as is told. -/
def RowsOf (W : World) (v : Value) (N : Nat) (p : List Value → Prop) : Prop :=
  ∃ ao len c, v = .slice ao len c ∧ len ≤ maxLen ∧ (0 < len → ∃ b o, ao = some ⟨b, o, none⟩ ∧ b < W.heap.size ∧ ∀ k, k < len → ∃ cs : List Value, cs.length = N ∧ (∀ j, j < N → W.cell? ⟨b, o + k * N + j, none⟩ = cs[j]?) ∧ p cs)
theorem RowsOf.below {W W' : World} {v : Value} {N : Nat} {p q : List Value → Prop} (h : RowsOf W v N p) (hb : Below W.heap.size W W') (hp : ∀ cs, p cs → q cs) : RowsOf W' v N q := by
  obtain ⟨ao, len, c, hv, hm, hr⟩ := h
  refine ⟨ao, len, c, hv, hm, fun h0 => ?_⟩
  obtain ⟨b, o, ha, hlt, hc⟩ := hr h0
  refine ⟨b, o, ha, Nat.lt_of_lt_of_le hlt hb.size, fun k hk => ?_⟩
  obtain ⟨cs, hl, hcs, hpc⟩ := hc k hk
  exact ⟨cs, hl, fun j hj => (hb.cell (p := ⟨b, o + k * N + j, none⟩) hlt).trans (hcs j hj), hp cs hpc⟩
section
variable {H : Type} {enc : TypeId × Value → H} {P : Program} {W : World}
theorem trod_field {base : Nat} {spare : Nat → Bool} {held : Bool} {fuel : Nat} {t : TypeId} {cs : List Value} {x : DataW H × List MemPlace} {fs : Array Field} (ht : P.underlying t = some (.struct fs)) (h : DataW.trod enc P W base spare held fuel t cs = some x) (i : Nat) (ty : TypeId) (off N : Nat) (hc : P.cellsOf ty = N) (hf : (fs[i]?).map (fun f => (f.type, f.offset)) = some (ty, off)) :
    ∃ n y, DataW.trod enc P W base spare held n ty ((cs.drop off).take N) = some y := by
  obtain ⟨xs, n, _, _, _, hlen, hx⟩ := DataW.trod_struct ht h
  obtain ⟨f, hg, e⟩ := Option.map_eq_some_iff.1 hf
  cases e
  subst hc
  have hi : i < xs.length := by rw [hlen]; exact (Array.getElem?_eq_some_iff.1 hg).1
  exact ⟨n, xs[i], by rw [hx i f hg]; exact List.getElem?_eq_getElem hi⟩
theorem rows_of_trod {t e : TypeId} {N fuel : Nat} {v : Value} {x : DataW H × List MemPlace} {p : List Value → Prop} (ht : P.underlying t = some (.slice e)) (hN : P.cellsOf e = N) (h0 : 0 < N)
    (h : DataW.trod enc P W 0 (fun _ => true) true fuel t [v] = some x) (hp : ∀ n cs y, cs.length = N → DataW.trod enc P W 0 (fun _ => true) true n e cs = some y → p cs) : RowsOf W v N p := by
  rcases Deep.open_slice ht h with ⟨hcs, _⟩ | ⟨a, len, cap, m, n, D, Pl, hcs, _, hl, hm, hmm, _, hx⟩
  · simp at hcs
    subst hcs
    exact ⟨none, 0, 0, rfl, Nat.zero_le _, fun h => by omega⟩
  · simp at hcs
    subst hcs
    rw [if_pos rfl] at hmm
    subst hmm
    rw [hN] at hx
    refine ⟨some a, len, _, rfl, Nat.le_trans hl hm, fun hpos => ?_⟩
    obtain ⟨b, off, spot⟩ := a
    obtain ⟨cs0, h10, _⟩ := hx 0 (by omega)
    obtain ⟨_, hlen0, hc0⟩ := World.cells?_some h10
    have hc := hc0 0 (by omega)
    rw [List.getElem?_eq_getElem (by omega)] at hc
    have hspot : spot = none := by simpa [Addr.add] using World.cell?_spot hc
    subst hspot
    refine ⟨b, off, rfl, ?_, fun k hk => ?_⟩
    · rw [Deep.add_add, Addr.add_lit] at hc
      exact World.block_lt_of_cell? W _ hc
    · obtain ⟨cs, h1, h2⟩ := hx k (by omega)
      obtain ⟨_, hlen, hcell⟩ := World.cells?_some h1
      refine ⟨cs, hlen, fun j hj => ?_, hp n cs _ hlen h2⟩
      have := hcell j hj
      rw [Deep.add_add, Addr.add_lit, ← Nat.add_assoc] at this
      exact this
end
theorem c_string : Try.prog.cellsOf 9 = 1 := by kernel_rfl
theorem c_int : Try.prog.cellsOf 3 = 1 := by kernel_rfl
theorem c_bool : Try.prog.cellsOf 4 = 1 := by kernel_rfl
theorem c_Mask : Try.prog.cellsOf 25 = 1 := by kernel_rfl
theorem c_Amount : Try.prog.cellsOf 89 = 2 := by kernel_rfl
theorem c_Need : Try.prog.cellsOf 159 = 2 := by kernel_rfl
theorem c_Use : Try.prog.cellsOf 109 = 2 := by kernel_rfl
theorem c_Cont : Try.prog.cellsOf 94 = 6 := by kernel_rfl
theorem c_Pod : Try.prog.cellsOf 60 = 3 := by kernel_rfl
theorem c_Act : Try.prog.cellsOf 63 = 10 := by kernel_rfl
theorem c_Dev : Try.prog.cellsOf 50 = 3 := by kernel_rfl
theorem c_ints : Try.prog.cellsOf 57 = 1 := by kernel_rfl
theorem c_needs : Try.prog.cellsOf 92 = 1 := by kernel_rfl
theorem c_conts : Try.prog.cellsOf 58 = 1 := by kernel_rfl
theorem c_uses : Try.prog.cellsOf 61 = 1 := by kernel_rfl
def intP (cs : List Value) : Prop := ∃ x : Int, cs = [.int .i64 x]
def pairP (cs : List Value) : Prop := ∃ (s : ByteArray) (x : Int), cs = [.string s, .int .i64 x]
def contP (W : World) (cs : List Value) : Prop := ∃ (nm : ByteArray) (a b c d : Int) (v : Value), cs = [.string nm, .int .i64 a, .int .i64 b, .int .i64 c, .int .i64 d, v] ∧ RowsOf W v 2 pairP
def actP (W : World) (cs : List Value) : Prop := ∃ (kind s : ByteArray) (a b : Int) (m : Nat) (lv : Value) (nm : ByteArray) (pr : Int) (cv uv : Value),
  cs = [.string kind, .string s, .int .i64 a, .int .i64 b, .int .u8 m, lv, .string nm, .int .i64 pr, cv, uv] ∧ m < 256 ∧ RowsOf W lv 1 intP ∧ RowsOf W cv 6 (contP W) ∧ RowsOf W uv 2 pairP
theorem contP.below {W W' : World} {cs : List Value} (h : contP W cs) (hb : Below W.heap.size W W') : contP W' cs := by
  obtain ⟨nm, a, b, c, d, v, rfl, hv⟩ := h
  exact ⟨nm, a, b, c, d, v, rfl, hv.below hb fun _ h => h⟩
theorem actP.below {W W' : World} {cs : List Value} (h : actP W cs) (hb : Below W.heap.size W W') : actP W' cs := by
  obtain ⟨kind, s, a, b, m, lv, nm, pr, cv, uv, rfl, hm, h1, h2, h3⟩ := h
  exact ⟨kind, s, a, b, m, lv, nm, pr, cv, uv, rfl, hm, h1.below hb fun _ h => h, h2.below hb fun _ h => h.below hb, h3.below hb fun _ h => h⟩
theorem acts_below {W W' : World} {v : Value} (h : RowsOf W v 10 (actP W)) (hb : Below W.heap.size W W') : RowsOf W' v 10 (actP W') := h.below hb fun _ h => h.below hb
section
variable {H : Type} {enc : TypeId × Value → H} {W : World}
theorem int_of_trod {n : Nat} {cs : List Value} {y : DataW H × List MemPlace} (h : DataW.trod enc Try.prog W 0 (fun _ => true) true n 3 cs = some y) : intP cs := by
  obtain ⟨p, e, _, _⟩ := DataW.trod_int Try.underlying3 h
  exact ⟨p, e⟩
theorem str_of_trod {n : Nat} {cs : List Value} {y : DataW H × List MemPlace} (h : DataW.trod enc Try.prog W 0 (fun _ => true) true n 9 cs = some y) : ∃ s : ByteArray, cs = [.string s] := by
  obtain ⟨p, e, _⟩ := DataW.trod_string Try.underlying9 h
  exact ⟨p, e⟩
theorem ints_of_trod {n : Nat} {v : Value} {y : DataW H × List MemPlace} (h : DataW.trod enc Try.prog W 0 (fun _ => true) true n 57 [v] = some y) : RowsOf W v 1 intP :=
  rows_of_trod Try.underlying57 c_int (by decide) h fun _ _ _ _ h => int_of_trod h
set_option maxRecDepth 100000 in
theorem need_of_trod {n : Nat} {cs : List Value} {y : DataW H × List MemPlace} (hl : cs.length = 2) (h : DataW.trod enc Try.prog W 0 (fun _ => true) true n 159 cs = some y) : pairP cs := by
  obtain ⟨_, _, h0⟩ := trod_field Try.underlying159 h 0 9 0 _ c_string rfl
  obtain ⟨_, _, h1⟩ := trod_field Try.underlying159 h 1 3 1 _ c_int rfl
  match cs, hl with
  | [a, b], _ =>
    obtain ⟨s, e0⟩ := str_of_trod h0
    obtain ⟨x, e1⟩ := int_of_trod h1
    simp at e0 e1
    exact ⟨s, x, by rw [e0, e1]⟩
set_option maxRecDepth 100000 in
theorem use_of_trod {n : Nat} {cs : List Value} {y : DataW H × List MemPlace} (hl : cs.length = 2) (h : DataW.trod enc Try.prog W 0 (fun _ => true) true n 109 cs = some y) : pairP cs := by
  obtain ⟨_, _, h0⟩ := trod_field Try.underlying109 h 0 9 0 _ c_string rfl
  obtain ⟨_, _, h1⟩ := trod_field Try.underlying109 h 1 3 1 _ c_int rfl
  match cs, hl with
  | [a, b], _ =>
    obtain ⟨s, e0⟩ := str_of_trod h0
    obtain ⟨x, e1⟩ := int_of_trod h1
    simp at e0 e1
    exact ⟨s, x, by rw [e0, e1]⟩
set_option maxRecDepth 100000 in
theorem amount_of_trod {n : Nat} {cs : List Value} {y : DataW H × List MemPlace} (hl : cs.length = 2) (h : DataW.trod enc Try.prog W 0 (fun _ => true) true n 89 cs = some y) : ∃ a b : Int, cs = [.int .i64 a, .int .i64 b] := by
  obtain ⟨_, _, h0⟩ := trod_field Try.underlying89 h 0 3 0 _ c_int rfl
  obtain ⟨_, _, h1⟩ := trod_field Try.underlying89 h 1 3 1 _ c_int rfl
  match cs, hl with
  | [a, b], _ =>
    obtain ⟨s, e0⟩ := int_of_trod h0
    obtain ⟨x, e1⟩ := int_of_trod h1
    simp at e0 e1
    exact ⟨s, x, by rw [e0, e1]⟩
set_option maxRecDepth 100000 in
theorem cont_of_trod {n : Nat} {cs : List Value} {y : DataW H × List MemPlace} (hl : cs.length = 6) (h : DataW.trod enc Try.prog W 0 (fun _ => true) true n 94 cs = some y) : contP W cs := by
  obtain ⟨_, _, h0⟩ := trod_field Try.underlying94 h 0 9 0 _ c_string rfl
  obtain ⟨_, _, h1⟩ := trod_field Try.underlying94 h 1 89 1 _ c_Amount rfl
  obtain ⟨_, _, h2⟩ := trod_field Try.underlying94 h 2 89 3 _ c_Amount rfl
  obtain ⟨_, _, h3⟩ := trod_field Try.underlying94 h 3 92 5 _ c_needs rfl
  match cs, hl with
  | [a, b, c, d, e, f], _ =>
    obtain ⟨s, e0⟩ := str_of_trod h0
    obtain ⟨x1, x2, e1⟩ := amount_of_trod rfl h1
    obtain ⟨x3, x4, e2⟩ := amount_of_trod rfl h2
    have h4 := rows_of_trod Try.underlying92 c_Need (by decide) h3 fun _ _ _ hl h => need_of_trod hl h
    simp at e0 e1 e2
    exact ⟨s, x1, x2, x3, x4, f, by rw [e0, e1.1, e1.2, e2.1, e2.2], h4⟩
set_option maxRecDepth 100000 in
theorem pod_of_trod {n : Nat} {cs : List Value} {y : DataW H × List MemPlace} (hl : cs.length = 3) (h : DataW.trod enc Try.prog W 0 (fun _ => true) true n 60 cs = some y) : ∃ (nm : ByteArray) (pr : Int) (cv : Value), cs = [.string nm, .int .i64 pr, cv] ∧ RowsOf W cv 6 (contP W) := by
  obtain ⟨_, _, h0⟩ := trod_field Try.underlying60 h 0 9 0 _ c_string rfl
  obtain ⟨_, _, h1⟩ := trod_field Try.underlying60 h 1 3 1 _ c_int rfl
  obtain ⟨_, _, h2⟩ := trod_field Try.underlying60 h 2 58 2 _ c_conts rfl
  match cs, hl with
  | [a, b, c], _ =>
    obtain ⟨s, e0⟩ := str_of_trod h0
    obtain ⟨x, e1⟩ := int_of_trod h1
    have h4 := rows_of_trod Try.underlying58 c_Cont (by decide) h2 fun _ _ _ hl h => cont_of_trod hl h
    simp at e0 e1
    exact ⟨s, x, c, by rw [e0, e1], h4⟩
set_option maxRecDepth 100000 in
theorem act_of_trod {n : Nat} {cs : List Value} {y : DataW H × List MemPlace} (hl : cs.length = 10) (h : DataW.trod enc Try.prog W 0 (fun _ => true) true n 63 cs = some y) : actP W cs := by
  obtain ⟨_, _, h0⟩ := trod_field Try.underlying63 h 0 9 0 _ c_string rfl
  obtain ⟨_, _, h1⟩ := trod_field Try.underlying63 h 1 9 1 _ c_string rfl
  obtain ⟨_, _, h2⟩ := trod_field Try.underlying63 h 2 3 2 _ c_int rfl
  obtain ⟨_, _, h3⟩ := trod_field Try.underlying63 h 3 3 3 _ c_int rfl
  obtain ⟨_, _, h4⟩ := trod_field Try.underlying63 h 4 25 4 _ c_Mask rfl
  obtain ⟨_, _, h5⟩ := trod_field Try.underlying63 h 5 57 5 _ c_ints rfl
  obtain ⟨_, _, h6⟩ := trod_field Try.underlying63 h 6 60 6 _ c_Pod rfl
  obtain ⟨_, _, h7⟩ := trod_field Try.underlying63 h 7 61 9 _ c_uses rfl
  match cs, hl with
  | [z0, z1, z2, z3, z4, z5, z6, z7, z8, z9], _ =>
    obtain ⟨s0, e0⟩ := str_of_trod h0
    obtain ⟨s1, e1⟩ := str_of_trod h1
    obtain ⟨x2, e2⟩ := int_of_trod h2
    obtain ⟨x3, e3⟩ := int_of_trod h3
    obtain ⟨x4, e4, _, hwf⟩ := DataW.trod_int Try.underlying25 h4
    have hm : 0 ≤ x4 ∧ x4 ≤ 255 := bounds_u8 hwf
    obtain ⟨M, rfl⟩ := Int.eq_ofNat_of_zero_le hm.1
    have r5 := ints_of_trod h5
    obtain ⟨nm, pr, cv, e6, r6⟩ := pod_of_trod rfl h6
    have r7 := rows_of_trod Try.underlying61 c_Use (by decide) h7 fun _ _ _ hl h => use_of_trod hl h
    simp at e0 e1 e2 e3 e4 e6
    obtain ⟨e6, e7, e8⟩ := e6
    exact ⟨s0, s1, x2, x3, M, z5, nm, pr, cv, z9, by rw [e0, e1, e2, e3, e4, e6, e7, e8], by omega, r5, r6, r7⟩
theorem acts_of_trod {n : Nat} {v : Value} {y : DataW H × List MemPlace} (h : DataW.trod enc Try.prog W 0 (fun _ => true) true n 47 [v] = some y) : RowsOf W v 10 (actP W) :=
  rows_of_trod Try.underlying47 c_Act (by decide) h fun _ _ _ hl h => act_of_trod hl h
def devP (cs : List Value) : Prop := ∃ d : Dv, cs = [.string d.kind, .int .i64 d.node, .bool d.sick]
set_option maxRecDepth 100000 in
theorem dev_of_trod {n : Nat} {cs : List Value} {y : DataW H × List MemPlace} (hl : cs.length = 3) (h : DataW.trod enc Try.prog W 0 (fun _ => true) true n 50 cs = some y) : devP cs := by
  obtain ⟨_, _, h0⟩ := trod_field Try.underlying50 h 0 9 0 _ c_string rfl
  obtain ⟨_, _, h1⟩ := trod_field Try.underlying50 h 1 3 1 _ c_int rfl
  obtain ⟨_, _, h2⟩ := trod_field Try.underlying50 h 2 4 2 _ c_bool rfl
  match cs, hl with
  | [a, b, c], _ =>
    obtain ⟨s, e0⟩ := str_of_trod h0
    obtain ⟨x, e1⟩ := int_of_trod h1
    obtain ⟨q, e2, _⟩ := DataW.trod_bool Try.underlying4 h2
    simp at e0 e1 e2
    exact ⟨⟨s, x, q⟩, by rw [e0, e1, e2]⟩
end
/-- A slice of devices that is read. -/
def DevsAt (w : World) (v : Value) (g o : Nat) (ds : List Dv) : Prop :=
  ∃ ao c, v = .slice ao ds.length c ∧ (0 < ds.length → ao = some ⟨g, o, none⟩ ∧ g < w.heap.size ∧ ∀ k, k < ds.length → w.cell? ⟨g, o + k * 3, none⟩ = some (.string (dv ds k).kind) ∧ w.cell? ⟨g, o + k * 3 + 1, none⟩ = some (.int .i64 (dv ds k).node) ∧ w.cell? ⟨g, o + k * 3 + 2, none⟩ = some (.bool (dv ds k).sick))
/-- A slice of numbers that is read. -/
def NumsAt (w : World) (v : Value) (g o : Nat) (l : List Int) : Prop :=
  ∃ ao c, v = .slice ao l.length c ∧ (0 < l.length → ao = some ⟨g, o, none⟩ ∧ g < w.heap.size ∧ ∀ k, k < l.length → w.cell? ⟨g, o + k, none⟩ = some (.int .i64 (nth l k)))
theorem devs_of_rows {W : World} {v : Value} (h : RowsOf W v 3 devP) : ∃ ds g o, DevsAt W v g o ds ∧ (0 < ds.length → g < W.heap.size) := by
  obtain ⟨ao, len, c, rfl, hm, hr⟩ := h
  by_cases h0 : len = 0
  · subst h0
    exact ⟨[], 0, 0, ⟨ao, c, rfl, fun h => by simp at h⟩, fun h => by simp at h⟩
  · obtain ⟨b, o, rfl, hlt, hc⟩ := hr (by omega)
    obtain ⟨f, hf⟩ := Deep.choose_lt (α := Dv) (n := len) (p := fun k d => W.cell? ⟨b, o + k * 3, none⟩ = some (.string d.kind) ∧ W.cell? ⟨b, o + k * 3 + 1, none⟩ = some (.int .i64 d.node) ∧ W.cell? ⟨b, o + k * 3 + 2, none⟩ = some (.bool d.sick)) (fun k hk => by
      obtain ⟨cs, _, hcs, d, rfl⟩ := hc k hk
      exact ⟨d, hcs 0 (by decide), hcs 1 (by decide), hcs 2 (by decide)⟩)
    refine ⟨(List.range len).map f, b, o, ⟨_, c, by simp, fun _ => ⟨rfl, hlt, fun k hk => ?_⟩⟩, fun _ => hlt⟩
    have hk' : k < len := by simpa using hk
    have e : dv ((List.range len).map f) k = f k := by simp [dv, hk']
    rw [e]
    exact hf k hk'
theorem nums_of_rows {W : World} {v : Value} (h : RowsOf W v 1 intP) : ∃ l g o, NumsAt W v g o l ∧ (0 < l.length → g < W.heap.size) := by
  obtain ⟨ao, len, c, rfl, hm, hr⟩ := h
  by_cases h0 : len = 0
  · subst h0
    exact ⟨[], 0, 0, ⟨ao, c, rfl, fun h => by simp at h⟩, fun h => by simp at h⟩
  · obtain ⟨b, o, rfl, hlt, hc⟩ := hr (by omega)
    obtain ⟨f, hf⟩ := Deep.choose_lt (α := Int) (n := len) (p := fun k d => W.cell? ⟨b, o + k, none⟩ = some (.int .i64 d)) (fun k hk => by
      obtain ⟨cs, _, hcs, d, rfl⟩ := hc k hk
      have := hcs 0 (by decide)
      rw [Nat.mul_one] at this
      exact ⟨d, this⟩)
    refine ⟨(List.range len).map f, b, o, ⟨_, c, by simp, fun _ => ⟨rfl, hlt, fun k hk => ?_⟩⟩, fun _ => hlt⟩
    have hk' : k < len := by simpa using hk
    have e : nth ((List.range len).map f) k = f k := by simp [nth, hk']
    rw [e]
    exact hf k hk'
end Go.Proofs.Ythekalhceamcoaa
