/- QEnv, VHMath, VRMath, SText, SParse, SCount, Ref, DW1, DPool, VT0, VI2, Ref2 -/
import Derived.Test.YtlljniaobbbjgaaGreatDoorU2
import Derived.Test.YtlljniaobbbjgaaGreatDoorU1
import Derived.Lib.ItoaLen
import Derived.Test.YtlljniaobbbjgaaGreatDoorShelf
import Derived.Lib.CountLaws
import Derived.Lib.Split
import Derived.Laws.Bits128
import Derived.Deep.AppendLies
import Derived.Lib.ItoaMem
import Derived.Maps.OwnIn
namespace Go.Proofs.YtlljniaobbbjgaaGreatDoor
open Go.ChangeShapes Go.WideShapes Go.ChangeAt Go.RowKit
open Qos (Nd Ct Pd nd0 ct0 pd0 nd ct pd)
/-- A slice of needs that is read. -/
def NeedsAt (w : World) (v : Value) (ds : List Nd) : Prop :=
  ∃ ao c, v = .slice ao ds.length c ∧ ds.length ≤ maxLen ∧ (0 < ds.length → ∃ b o, ao = some ⟨b, o, none⟩ ∧ b < w.heap.size ∧ ∀ k, k < ds.length → w.cell? ⟨b, o + k * 2, none⟩ = some (.string (nd ds k).kind) ∧ w.cell? ⟨b, o + k * 2 + 1, none⟩ = some (.int .i64 (nd ds k).many))
/-- The six cells of a container. -/
def contCells (c : Ct) (dv : Value) : List Value := [.string c.nm, .int .i64 c.am, .int .i64 c.ab, .int .i64 c.cm, .int .i64 c.cb, dv]
/-- A slice of containers that is read, at a place. -/
def ConsIn (w : World) (b o : Nat) (cs : List Ct) (dv : Nat → Value) : Prop :=
  b < w.heap.size ∧ ∀ k, k < cs.length → (∀ j, j < 6 → w.cell? ⟨b, o + k * 6 + j, none⟩ = (contCells (ct cs k) (dv k))[j]?) ∧ NeedsAt w (dv k) (ct cs k).ds
def ConsAt (w : World) (v : Value) (cs : List Ct) : Prop :=
  ∃ ao c, v = .slice ao cs.length c ∧ (cs.length ≤ c ∧ c ≤ maxLen) ∧ (0 < cs.length → ∃ b o dv, ao = some ⟨b, o, none⟩ ∧ ConsIn w b o cs dv)
/-- A pod as a value. -/
def podV (p : Pd) (cv : Value) : Value := .agg #[.string p.nm, .int .i64 p.pr, cv]
def PodsIn (w : World) (b o : Nat) (ps : List Pd) (cv : Nat → Value) : Prop :=
  b < w.heap.size ∧ ∀ k, k < ps.length → (w.cell? ⟨b, o + k * 3, none⟩ = some (.string (pd ps k).nm) ∧ w.cell? ⟨b, o + k * 3 + 1, none⟩ = some (.int .i64 (pd ps k).pr) ∧ w.cell? ⟨b, o + k * 3 + 2, none⟩ = some (cv k)) ∧ ConsAt w (cv k) (pd ps k).cs
def PodsAt (w : World) (v : Value) (ps : List Pd) : Prop :=
  ∃ ao c, v = .slice ao ps.length c ∧ ps.length ≤ maxLen ∧ (0 < ps.length → ∃ b o cv, ao = some ⟨b, o, none⟩ ∧ PodsIn w b o ps cv)
theorem NeedsAt.below {w w' : World} {v : Value} {ds : List Nd} (h : NeedsAt w v ds) (hb : Below w.heap.size w w') : NeedsAt w' v ds := by
  obtain ⟨ao, c, hv, hm, hr⟩ := h
  refine ⟨ao, c, hv, hm, fun h0 => ?_⟩
  obtain ⟨b, o, ha, hlt, hc⟩ := hr h0
  refine ⟨b, o, ha, Nat.lt_of_lt_of_le hlt hb.size, fun k hk => ?_⟩
  obtain ⟨h1, h2⟩ := hc k hk
  exact ⟨(hb.cell (p := ⟨b, o + k * 2, none⟩) hlt).trans h1, (hb.cell (p := ⟨b, o + k * 2 + 1, none⟩) hlt).trans h2⟩
theorem ConsIn.below {w w' : World} {b o : Nat} {cs : List Ct} {dv : Nat → Value} (h : ConsIn w b o cs dv) (hb : Below w.heap.size w w') : ConsIn w' b o cs dv :=
  ⟨Nat.lt_of_lt_of_le h.1 hb.size, fun k hk => ⟨fun j hj => (hb.cell (p := ⟨b, o + k * 6 + j, none⟩) h.1).trans ((h.2 k hk).1 j hj), (h.2 k hk).2.below hb⟩⟩
theorem ConsAt.below {w w' : World} {v : Value} {cs : List Ct} (h : ConsAt w v cs) (hb : Below w.heap.size w w') : ConsAt w' v cs := by
  obtain ⟨ao, c, hv, hm, hr⟩ := h
  refine ⟨ao, c, hv, hm, fun h0 => ?_⟩
  obtain ⟨b, o, dv, ha, hc⟩ := hr h0
  exact ⟨b, o, dv, ha, hc.below hb⟩
theorem PodsIn.below {w w' : World} {b o : Nat} {ps : List Pd} {cv : Nat → Value} (h : PodsIn w b o ps cv) (hb : Below w.heap.size w w') : PodsIn w' b o ps cv :=
  ⟨Nat.lt_of_lt_of_le h.1 hb.size, fun k hk => by
    obtain ⟨⟨h1, h2, h3⟩, h4⟩ := h.2 k hk
    exact ⟨⟨(hb.cell (p := ⟨b, o + k * 3, none⟩) h.1).trans h1, (hb.cell (p := ⟨b, o + k * 3 + 1, none⟩) h.1).trans h2, (hb.cell (p := ⟨b, o + k * 3 + 2, none⟩) h.1).trans h3⟩, h4.below hb⟩⟩
theorem PodsAt.below {w w' : World} {v : Value} {ps : List Pd} (h : PodsAt w v ps) (hb : Below w.heap.size w w') : PodsAt w' v ps := by
  obtain ⟨ao, c, hv, hm, hr⟩ := h
  refine ⟨ao, c, hv, hm, fun h0 => ?_⟩
  obtain ⟨b, o, dv, ha, hc⟩ := hr h0
  exact ⟨b, o, dv, ha, hc.below hb⟩
theorem needs_of_rows {W : World} {v : Value} (h : RowsOf W v 2 pairP) : ∃ ds, NeedsAt W v ds := by
  obtain ⟨ao, len, c, rfl, hm, hr⟩ := h
  by_cases h0 : len = 0
  · subst h0
    exact ⟨[], ao, c, rfl, by simp, fun h => by simp at h⟩
  · obtain ⟨b, o, rfl, hlt, hc⟩ := hr (by omega)
    obtain ⟨f, hf⟩ := Deep.choose_lt (α := Nd) (n := len) (p := fun k d => W.cell? ⟨b, o + k * 2, none⟩ = some (.string d.kind) ∧ W.cell? ⟨b, o + k * 2 + 1, none⟩ = some (.int .i64 d.many)) (fun k hk => by
      obtain ⟨cs, _, hcs, s, x, rfl⟩ := hc k hk
      exact ⟨⟨s, x⟩, hcs 0 (by decide), hcs 1 (by decide)⟩)
    refine ⟨(List.range len).map f, _, c, by simp, by simpa using hm, fun _ => ⟨b, o, rfl, hlt, fun k hk => ?_⟩⟩
    have hk' : k < len := by simpa using hk
    have e : nd ((List.range len).map f) k = f k := by simp [nd, hk']
    rw [e]
    exact hf k hk'
/-- A slice's length is no more than what it may have. -/
def CapOk (v : Value) : Prop := ∃ ao len c, v = .slice ao len c ∧ len ≤ c ∧ c ≤ maxLen
theorem cap_of_trod {H : Type} {enc : TypeId × Value → H} {P : Program} {W : World} {t e : TypeId} {fuel : Nat} {v : Value} {x : DataW H × List MemPlace} (ht : P.underlying t = some (.slice e)) (h : DataW.trod enc P W 0 (fun _ => true) true fuel t [v] = some x) : CapOk v := by
  rcases Deep.open_slice ht h with ⟨hcs, _⟩ | ⟨a, len, cap, m, n, D, Pl, hcs, _, hl, hm, hmm, _, hx⟩
  · simp at hcs
    subst hcs
    exact ⟨none, 0, 0, rfl, by omega, by omega⟩
  · simp at hcs
    subst hcs
    exact ⟨_, len, cap, rfl, hl, hm⟩
theorem cons_of_rows {W : World} {v : Value} (h : RowsOf W v 6 (contP W)) (hcap : CapOk v) : ∃ cs, ConsAt W v cs := by
  obtain ⟨ao, len, c, rfl, hm, hr⟩ := h
  obtain ⟨_, _, _, hv, hl1, hl2⟩ := hcap
  cases hv
  by_cases h0 : len = 0
  · subst h0
    exact ⟨[], ao, c, rfl, ⟨by simp, hl2⟩, fun h => by simp at h⟩
  · obtain ⟨b, o, rfl, hlt, hc⟩ := hr (by omega)
    obtain ⟨f, hf⟩ := Deep.choose_lt (α := Ct × Value) (n := len) (p := fun k d => (∀ j, j < 6 → W.cell? ⟨b, o + k * 6 + j, none⟩ = (contCells d.1 d.2)[j]?) ∧ NeedsAt W d.2 d.1.ds) (fun k hk => by
      obtain ⟨cs, _, hcs, nm, x1, x2, x3, x4, dv, rfl, hdv⟩ := hc k hk
      obtain ⟨ds, hds⟩ := needs_of_rows hdv
      exact ⟨⟨⟨nm, x1, x2, x3, x4, ds⟩, dv⟩, hcs, hds⟩)
    refine ⟨(List.range len).map fun k => (f k).1, _, c, by simp, ⟨by simpa using hl1, hl2⟩, fun _ => ⟨b, o, fun k => (f k).2, rfl, hlt, fun k hk => ?_⟩⟩
    have hk' : k < len := by simpa using hk
    have e : ct ((List.range len).map fun k => (f k).1) k = (f k).1 := by simp [ct, hk']
    rw [e]
    exact hf k hk'
def podP (W : World) (cs : List Value) : Prop := ∃ (nm : ByteArray) (pr : Int) (cv : Value), cs = [.string nm, .int .i64 pr, cv] ∧ RowsOf W cv 6 (contP W) ∧ CapOk cv
theorem pods_of_rows {W : World} {v : Value} (h : RowsOf W v 3 (podP W)) : ∃ ps, PodsAt W v ps := by
  obtain ⟨ao, len, c, rfl, hm, hr⟩ := h
  by_cases h0 : len = 0
  · subst h0
    exact ⟨[], ao, c, rfl, by simp, fun h => by simp at h⟩
  · obtain ⟨b, o, rfl, hlt, hc⟩ := hr (by omega)
    obtain ⟨f, hf⟩ := Deep.choose_lt (α := Pd × Value) (n := len) (p := fun k d => (W.cell? ⟨b, o + k * 3, none⟩ = some (.string d.1.nm) ∧ W.cell? ⟨b, o + k * 3 + 1, none⟩ = some (.int .i64 d.1.pr) ∧ W.cell? ⟨b, o + k * 3 + 2, none⟩ = some d.2) ∧ ConsAt W d.2 d.1.cs) (fun k hk => by
      obtain ⟨cs, _, hcs, nm, pr, cv, rfl, hcv, hcap⟩ := hc k hk
      obtain ⟨ds, hds⟩ := cons_of_rows hcv hcap
      exact ⟨⟨⟨nm, pr, ds⟩, cv⟩, ⟨hcs 0 (by decide), hcs 1 (by decide), hcs 2 (by decide)⟩, hds⟩)
    refine ⟨(List.range len).map fun k => (f k).1, _, c, by simp, by simpa using hm, fun _ => ⟨b, o, fun k => (f k).2, rfl, hlt, fun k hk => ?_⟩⟩
    have hk' : k < len := by simpa using hk
    have e : pd ((List.range len).map fun k => (f k).1) k = (f k).1 := by simp [pd, hk']
    rw [e]
    exact hf k hk'
section
variable {H : Type} {enc : TypeId × Value → H} {W : World}
set_option maxRecDepth 100000 in
theorem podP_of_trod {n : Nat} {cs : List Value} {y : DataW H × List MemPlace} (hl : cs.length = 3) (h : DataW.trod enc Tryz.prog W 0 (fun _ => true) true n 59 cs = some y) : podP W cs := by
  obtain ⟨nm, pr, cv, rfl, h1⟩ := pod_of_trod hl h
  obtain ⟨_, _, h2⟩ := trod_field Tryz.underlying59 h 2 57 2 _ c_conts rfl
  exact ⟨nm, pr, cv, rfl, h1, cap_of_trod Tryz.underlying57 h2⟩
theorem podOne_of_trod {n : Nat} {cs : List Value} {y : DataW H × List MemPlace} (hl : cs.length = 3) (h : DataW.trod enc Tryz.prog W 0 (fun _ => true) true n 59 cs = some y) : ∃ (p : Pd) (cv : Value), cs = [.string p.nm, .int .i64 p.pr, cv] ∧ ConsAt W cv p.cs := by
  obtain ⟨nm, pr, cv, rfl, h1, h2⟩ := podP_of_trod hl h
  obtain ⟨ds, hds⟩ := cons_of_rows h1 h2
  exact ⟨⟨nm, pr, ds⟩, cv, rfl, hds⟩
end
theorem ConsIn.at {w : World} {b o : Nat} {cs : List Ct} {dv : Nat → Value} (h : ConsIn w b o cs dv) {k : Nat} (hk : k < cs.length) :
    w.cell? ⟨b, o + k * 6, none⟩ = some (.string (ct cs k).nm) ∧ w.cell? ⟨b, o + k * 6 + 1, none⟩ = some (.int .i64 (ct cs k).am) ∧ w.cell? ⟨b, o + k * 6 + 2, none⟩ = some (.int .i64 (ct cs k).ab) ∧ w.cell? ⟨b, o + k * 6 + 3, none⟩ = some (.int .i64 (ct cs k).cm) ∧ w.cell? ⟨b, o + k * 6 + 4, none⟩ = some (.int .i64 (ct cs k).cb) ∧ w.cell? ⟨b, o + k * 6 + 5, none⟩ = some (dv k) := by
  have hc := (h.2 k hk).1
  exact ⟨hc 0 (by decide), hc 1 (by decide), hc 2 (by decide), hc 3 (by decide), hc 4 (by decide), hc 5 (by decide)⟩
end Go.Proofs.YtlljniaobbbjgaaGreatDoor
namespace Go.Proofs.YtlljniaobbbjgaaGreatDoor
namespace Sv
open Qos (Nd Ct Pd nd ct pd podF leS)
open Dvs (first nameMay)
/-- What a container was given. -/
structure Gv where
  cp : Nat
  dv : List Int
def gv0 : Gv := ⟨0, []⟩
instance : Inhabited Gv := ⟨gv0⟩
def gv (l : List Gv) (k : Nat) : Gv := l.getD k gv0
/-- A pod, and what its containers were given. -/
structure Hd where
  pod : Pd
  gs : List Gv
def hd0 : Hd := ⟨Qos.pd0, []⟩
instance : Inhabited Hd := ⟨hd0⟩
def hd (l : List Hd) (k : Nat) : Hd := l.getD k hd0
def dec (n : Int) : List UInt8 := Lib.decDigits n.toNat
def orNo (l : List UInt8) : List UInt8 := if l = [] then [45] else l
def needTxt (d : Nd) : List UInt8 := d.kind.data.toList ++ [58] ++ dec d.many
def needsTxt (ds : List Nd) : List UInt8 := orNo (Lib.join (ds.map needTxt) [44])
def devsTxt (dv : List Int) : List UInt8 := orNo (Lib.join (dv.map dec) [44])
def setTxt (A : Nat) : List UInt8 := orNo (Ost.txt A)
def contWs (c : Ct) : List (List UInt8) := [[99, 111, 110, 116], c.nm.data.toList, dec c.am, dec c.ab, dec c.cm, dec c.cb, needsTxt c.ds]
def givenWs (g : Gv) : List (List UInt8) := [setTxt g.cp, devsTxt g.dv]
def podWs (p : Pd) : List (List UInt8) := [[112, 111, 100], p.nm.data.toList, dec p.pr]
def lineTxt (ws : List (List UInt8)) : List UInt8 := Lib.join ws [32] ++ [10]
def contLine (c : Ct) (g : Gv) : List UInt8 := lineTxt (contWs c ++ givenWs g)
def podLine (p : Pd) : List UInt8 := lineTxt (podWs p)
/-- The lines of the first containers. -/
def contsTo (h : Hd) : Nat → List UInt8
  | 0 => []
  | k + 1 => contsTo h k ++ contLine (ct h.pod.cs k) (gv h.gs k)
def podTxt (h : Hd) : List UInt8 := podLine h.pod ++ contsTo h h.pod.cs.length
def bodyTo (hs : List Hd) : Nat → List UInt8
  | 0 => []
  | k + 1 => bodyTo hs k ++ podTxt (hd hs k)
def body (hs : List Hd) : List UInt8 := bodyTo hs hs.length
def sumTxt (b : List UInt8) : List UInt8 := [115, 117, 109, 32] ++ Lib.decDigits (fnv b) ++ [10]
def heldTxt (hs : List Hd) : List UInt8 := body hs ++ sumTxt (body hs)
/-- What is wrong with the j-th device. -/
def devF1 (dv : List Int) (j : Nat) : Nat := if dv.getD j 0 < 0 ∨ 15 < dv.getD j 0 ∨ (0 < j ∧ dv.getD j 0 ≤ dv.getD (j - 1) 0) then 3 else 0
def devF (dv : List Int) : Nat := if 16 < dv.length then 2 else first (devF1 dv) dv.length
def gsF (gs : List Gv) : Nat := first (fun k => devF (gv gs k).dv) gs.length
/-- What is wrong with one behind one of a name. -/
def behindF (h : Hd) (lowB : Bool) : Nat :=
  if podF h.pod ≠ 0 then podF h.pod else if lowB = true ∨ h.gs.length ≠ h.pod.cs.length then 3 else gsF h.gs
def lowAt (hs : List Hd) (i : Nat) : Bool := decide (0 < i) && leS (hd hs i).pod.nm (hd hs (i - 1)).pod.nm
def oneF (hs : List Hd) (i : Nat) : Nat := behindF (hd hs i) (lowAt hs i)
def heldF (hs : List Hd) : Nat := if 12 < hs.length then 2 else first (oneF hs) hs.length
/-- What may be held. -/
def OkG (g : Gv) : Prop := g.cp < 18446744073709551616 ∧ g.dv.length ≤ 16 ∧ ∀ x ∈ g.dv, 0 ≤ x ∧ x ≤ 15
def OkN (d : Nd) : Prop := nameMay d.kind = true ∧ 1 ≤ d.many ∧ d.many ≤ 16
def OkC (c : Ct) : Prop := nameMay c.nm = true ∧ (0 ≤ c.am ∧ c.am ≤ 1000000) ∧ (0 ≤ c.ab ∧ c.ab ≤ 1125899906842624) ∧ (0 ≤ c.cm ∧ c.cm ≤ 1000000) ∧ (0 ≤ c.cb ∧ c.cb ≤ 1125899906842624) ∧ c.ds.length ≤ 3 ∧ ∀ d ∈ c.ds, OkN d
def OkP (p : Pd) : Prop := nameMay p.nm = true ∧ (0 ≤ p.pr ∧ p.pr ≤ 1000) ∧ p.cs.length ≤ 3 ∧ ∀ c ∈ p.cs, OkC c
def OkH (h : Hd) : Prop := OkP h.pod ∧ h.gs.length = h.pod.cs.length ∧ ∀ g ∈ h.gs, OkG g
def OkL (hs : List Hd) : Prop := hs.length ≤ 12 ∧ ∀ h ∈ hs, OkH h
theorem nd_in {ds : List Nd} {d : Nd} (h : d ∈ ds) : ∃ k, k < ds.length ∧ nd ds k = d := by
  obtain ⟨k, hk, rfl⟩ := List.getElem_of_mem h
  exact ⟨k, hk, by simp [nd, hk]⟩
theorem ct_in {ds : List Ct} {d : Ct} (h : d ∈ ds) : ∃ k, k < ds.length ∧ ct ds k = d := by
  obtain ⟨k, hk, rfl⟩ := List.getElem_of_mem h
  exact ⟨k, hk, by simp [ct, hk]⟩
theorem gv_in {ds : List Gv} {d : Gv} (h : d ∈ ds) : ∃ k, k < ds.length ∧ gv ds k = d := by
  obtain ⟨k, hk, rfl⟩ := List.getElem_of_mem h
  exact ⟨k, hk, by simp [gv, hk]⟩
theorem hd_in {ds : List Hd} {d : Hd} (h : d ∈ ds) : ∃ k, k < ds.length ∧ hd ds k = d := by
  obtain ⟨k, hk, rfl⟩ := List.getElem_of_mem h
  exact ⟨k, hk, by simp [hd, hk]⟩
theorem int_in {ds : List Int} {d : Int} (h : d ∈ ds) : ∃ k, k < ds.length ∧ ds.getD k 0 = d := by
  obtain ⟨k, hk, rfl⟩ := List.getElem_of_mem h
  exact ⟨k, hk, by simp [hk]⟩
theorem mem_ct {ds : List Ct} {k : Nat} (h : k < ds.length) : ct ds k ∈ ds := by simp [ct, h]
theorem mem_nd {ds : List Nd} {k : Nat} (h : k < ds.length) : nd ds k ∈ ds := by simp [nd, h]
theorem mem_gv {ds : List Gv} {k : Nat} (h : k < ds.length) : gv ds k ∈ ds := by simp [gv, h]
theorem mem_hd {ds : List Hd} {k : Nat} (h : k < ds.length) : hd ds k ∈ ds := by simp [hd, h]
theorem okN_of {ds : List Nd} (h : first (Qos.needF ds) ds.length = 0) : ∀ d ∈ ds, OkN d := by
  intro d hd
  obtain ⟨k, hk, rfl⟩ := nd_in hd
  have := Dvs.first_all h k hk
  unfold Qos.needF at this
  split at this
  · cases this
  · rename_i h1
    split at this
    · cases this
    · rename_i h2
      rw [not_or] at h1 h2
      exact ⟨by simpa using h1.1, by omega, by omega⟩
theorem okC_of {cs : List Ct} {k : Nat} (h : Qos.contF cs k = 0) : OkC (ct cs k) := by
  have h1 := Qos.cont_mild h
  unfold Qos.contF at h
  split at h
  · cases h
  rename_i hn
  split at h
  · cases h
  split at h
  · cases h
  split at h
  · cases h
  split at h
  · cases h
  rename_i h3
  have a := Qos.amt_in h1.1
  have b := Qos.amt_in h1.2.1
  exact ⟨by simpa using hn, a.1, a.2, b.1, b.2, by omega, okN_of h⟩
theorem okP_of {p : Pd} (h : podF p = 0) : OkP p := by
  obtain ⟨h1, h2, h3, h4⟩ := Qos.pod_len h
  refine ⟨h1, h2, h3.2, fun c hc => ?_⟩
  obtain ⟨k, hk, rfl⟩ := ct_in hc
  exact okC_of (Dvs.first_all h4 k hk)
theorem okD_of {dv : List Int} (h : devF dv = 0) : dv.length ≤ 16 ∧ ∀ x ∈ dv, 0 ≤ x ∧ x ≤ 15 := by
  unfold devF at h
  split at h
  · cases h
  refine ⟨by omega, fun x hx => ?_⟩
  obtain ⟨k, hk, rfl⟩ := int_in hx
  have := Dvs.first_all h k hk
  unfold devF1 at this
  split at this
  · cases this
  · omega
theorem okH_of {h : Hd} {b : Bool} (e : behindF h b = 0) (hc : ∀ g ∈ h.gs, g.cp < 18446744073709551616) : OkH h := by
  unfold behindF at e
  split at e
  · exact absurd e (by assumption)
  rename_i h1
  split at e
  · cases e
  rename_i h2
  rw [not_or] at h2
  refine ⟨okP_of (by omega), by omega, fun g hg => ?_⟩
  obtain ⟨k, hk, rfl⟩ := gv_in hg
  exact ⟨hc _ hg, okD_of (Dvs.first_all e k hk)⟩
theorem okL_of {hs : List Hd} (e : heldF hs = 0) (hc : ∀ h ∈ hs, ∀ g ∈ h.gs, g.cp < 18446744073709551616) : OkL hs := by
  unfold heldF at e
  split at e
  · cases e
  refine ⟨by omega, fun h hh => ?_⟩
  obtain ⟨k, hk, rfl⟩ := hd_in hh
  exact okH_of (Dvs.first_all e k hk) (hc _ hh)
theorem name_size {s : ByteArray} (h : nameMay s = true) : 0 < s.data.toList.length ∧ s.data.toList.length ≤ 8 := by
  have e : s.data.toList.length = s.size := by simp
  rw [e]
  simp only [nameMay, Bool.and_eq_true, decide_eq_true_eq] at h
  exact ⟨h.1.1, h.1.2⟩
theorem dd_le (n : Nat) (h : n < 18446744073709551616) : (Lib.decDigits n).length ≤ 20 := by rw [Lib.decDigits_length]; exact Lib.nDigits_le20 _ h
theorem dec_le (n : Int) (h : n ≤ 1125899906842624) : (dec n).length ≤ 20 := dd_le _ (by omega)
theorem join_le (c : UInt8) (m : Nat) : ∀ (xs : List (List UInt8)), (∀ x ∈ xs, x.length ≤ m) → (Lib.join xs [c]).length ≤ xs.length * (m + 1) := by
  intro xs h
  have key : ∀ r : List (List UInt8), (∀ x ∈ r, x.length ≤ m) → Lib.lens r ≤ r.length * m := by
    intro r
    induction r with
    | nil => intro _; simp [Lib.lens]
    | cons x r ih =>
      intro h
      have h1 := ih fun y hy => h y (by simp [hy])
      have h2 := h x (by simp)
      simp only [Lib.lens, List.map_cons, List.sum_cons, List.length_cons, Nat.add_mul, Nat.one_mul] at h1 ⊢
      omega
  cases xs with
  | nil => simp [Lib.join_nil]
  | cons x r =>
    rw [Lib.join_length]
    have h1 := key _ h
    simp only [List.length_cons, List.length_nil, Nat.mul_add, Nat.add_mul, Nat.one_mul, Nat.mul_one, Nat.zero_add] at h1 ⊢
    omega
theorem orNo_le {l : List UInt8} {m : Nat} (h : l.length ≤ m) : (orNo l).length ≤ m + 1 := by
  unfold orNo; split
  · simp
  · omega
theorem needTxt_le {d : Nd} (h : OkN d) : (needTxt d).length ≤ 29 := by
  have h1 := name_size h.1
  have h2 := dec_le d.many (by have := h.2.2; omega)
  simp only [needTxt, List.length_append, List.length_cons, List.length_nil]
  omega
theorem needsTxt_le {ds : List Nd} (h : ∀ d ∈ ds, OkN d) (hl : ds.length ≤ 3) : (needsTxt ds).length ≤ 91 := by
  refine orNo_le (Nat.le_trans (join_le 44 29 _ fun x hx => ?_) ?_)
  · obtain ⟨d, hd, rfl⟩ := List.mem_map.1 hx
    exact needTxt_le (h d hd)
  · rw [List.length_map]; omega
theorem devsTxt_le {dv : List Int} (h : ∀ x ∈ dv, 0 ≤ x ∧ x ≤ 15) (hl : dv.length ≤ 16) : (devsTxt dv).length ≤ 337 := by
  refine orNo_le (Nat.le_trans (join_le 44 20 _ fun x hx => ?_) ?_)
  · obtain ⟨d, hd, rfl⟩ := List.mem_map.1 hx
    exact dec_le d (by have := h d hd; omega)
  · rw [List.length_map]; omega
theorem setTxt_le (A : Nat) : (setTxt A).length ≤ 301 := orNo_le (Ost.txt_len A)
theorem contWs_le {c : Ct} (h : OkC c) : ∀ x ∈ contWs c, x.length ≤ 100 := by
  obtain ⟨h1, h2, h3, h4, h5, h6, h7⟩ := h
  have a := name_size h1
  have b1 := dec_le c.am (by omega)
  have b2 := dec_le c.ab (by omega)
  have b3 := dec_le c.cm (by omega)
  have b4 := dec_le c.cb (by omega)
  have b5 := needsTxt_le h7 h6
  intro x hx
  simp only [contWs, List.mem_cons, List.not_mem_nil, or_false] at hx
  rcases hx with rfl | rfl | rfl | rfl | rfl | rfl | rfl <;> first | omega | simp
theorem givenWs_le {g : Gv} (h : OkG g) : ∀ x ∈ givenWs g, x.length ≤ 400 := by
  have a := setTxt_le g.cp
  have b := devsTxt_le h.2.2 h.2.1
  intro x hx
  simp only [givenWs, List.mem_cons, List.not_mem_nil, or_false] at hx
  rcases hx with rfl | rfl <;> omega
theorem podWs_le {p : Pd} (h : OkP p) : ∀ x ∈ podWs p, x.length ≤ 100 := by
  have a := name_size h.1
  have b := dec_le p.pr (by have := h.2.1; omega)
  intro x hx
  simp only [podWs, List.mem_cons, List.not_mem_nil, or_false] at hx
  rcases hx with rfl | rfl | rfl <;> first | omega | simp
theorem contLine_le {c : Ct} {g : Gv} (hc : OkC c) (hg : OkG g) : (contLine c g).length ≤ 4000 := by
  have := join_le 32 400 (contWs c ++ givenWs g) fun x hx => by
    rcases List.mem_append.1 hx with h | h
    · have := contWs_le hc x h; omega
    · exact givenWs_le hg x h
  simp only [contLine, lineTxt, List.length_append, List.length_cons, List.length_nil] at this ⊢
  simp only [contWs, givenWs, List.length_cons, List.length_nil] at this
  simp only [contWs, givenWs]
  omega
theorem podLine_le {p : Pd} (h : OkP p) : (podLine p).length ≤ 400 := by
  have := join_le 32 100 (podWs p) (podWs_le h)
  simp only [podLine, lineTxt, List.length_append, List.length_cons, List.length_nil]
  simp only [podWs, List.length_cons, List.length_nil] at this ⊢
  omega
theorem okC_at {h : Hd} (e : OkH h) {k : Nat} (hk : k < h.pod.cs.length) : OkC (ct h.pod.cs k) ∧ OkG (gv h.gs k) :=
  ⟨e.1.2.2.2 _ (mem_ct hk), e.2.2 _ (mem_gv (by rw [e.2.1]; exact hk))⟩
theorem contsTo_le {h : Hd} (e : OkH h) : ∀ k, k ≤ h.pod.cs.length → (contsTo h k).length ≤ k * 4000 := by
  intro k
  induction k with
  | zero => intro _; simp [contsTo]
  | succ k ih =>
    intro hk
    have h1 := ih (by omega)
    obtain ⟨h2, h3⟩ := okC_at e (k := k) (by omega)
    have := contLine_le h2 h3
    rw [contsTo, List.length_append]
    omega
theorem podTxt_le {h : Hd} (e : OkH h) : (podTxt h).length ≤ 13000 := by
  have h1 := contsTo_le e _ (Nat.le_refl _)
  have h2 := podLine_le e.1
  have h3 := e.1.2.2.1
  rw [podTxt, List.length_append]
  omega
theorem bodyTo_le {hs : List Hd} (e : OkL hs) : ∀ k, k ≤ hs.length → (bodyTo hs k).length ≤ k * 13000 := by
  intro k
  induction k with
  | zero => intro _; simp [bodyTo]
  | succ k ih =>
    intro hk
    have h1 := ih (by omega)
    have h2 := podTxt_le (e.2 _ (mem_hd (k := k) (by omega)))
    rw [bodyTo, List.length_append]
    omega
theorem body_le {hs : List Hd} (e : OkL hs) : (body hs).length ≤ 156000 := by
  have := bodyTo_le e _ (Nat.le_refl _)
  have h2 := e.1
  unfold body
  omega
theorem sumTxt_le (b : List UInt8) : (sumTxt b).length ≤ 25 := by
  have := dd_le (fnv b) (Nat.lt_of_lt_of_le (fnv_lt b) (by omega))
  simp only [sumTxt, List.length_append, List.length_cons, List.length_nil]
  omega
end Sv
end Go.Proofs.YtlljniaobbbjgaaGreatDoor
namespace Go.Proofs.YtlljniaobbbjgaaGreatDoor
namespace Sv
open Qos (Nd Ct Pd nd ct pd podF leS)
open Ost (cut1 splitC parseOut good val isNum isDig)
open Dvs (nameMay)
abbrev Tx := List UInt8
def allOf {α : Type} (f : Tx → Option α) : List Tx → Option (List α)
  | [] => some []
  | x :: r => match f x with
    | none => none
    | some y => (allOf f r).map (y :: ·)
def listOf {α : Type} (f : Tx → Option α) (l : Tx) : Option (List α) := if l = [45] then some [] else allOf f (splitC 44 l)
def cpusOf (l : Tx) : Option Nat := if l = [45] then some 0 else if (parseOut l).2 = 0 then some (parseOut l).1 else none
/-- A word, by its place. -/
def wd (ws : List Tx) (k : Nat) : Tx := ws.getD k []
def contOf (num : Tx → Option Int) (need : Tx → Option Nd) (ws : List Tx) : Option (Ct × Gv) :=
  match num (wd ws 2), num (wd ws 3), num (wd ws 4), num (wd ws 5), listOf need (wd ws 6), cpusOf (wd ws 7), listOf num (wd ws 8) with
  | some a, some b, some c, some d, some ds, some A, some dv => some (⟨⟨(wd ws 1).toArray⟩, a, b, c, d, ds⟩, ⟨A, dv⟩)
  | _, _, _, _, _, _, _ => none
def isPod (ws : List Tx) : Bool := decide (wd ws 0 = [112, 111, 100]) && decide (ws.length = 3)
def isCont (ws : List Tx) : Bool := decide (wd ws 0 = [99, 111, 110, 116]) && decide (ws.length = 9)
def plusC (h : Hd) (c : Ct) (g : Gv) : Hd := ⟨⟨h.pod.nm, h.pod.pr, h.pod.cs ++ [c]⟩, h.gs ++ [g]⟩
def addCont (hs : List Hd) (c : Ct) (g : Gv) : List Hd := hs.dropLast ++ [plusC (hd hs (hs.length - 1)) c g]
def newHd (ws : List Tx) (n : Int) : Hd := ⟨⟨⟨(wd ws 1).toArray⟩, n, []⟩, []⟩
def step (num : Tx → Option Int) (need : Tx → Option Nd) (hs : List Hd) (ws : List Tx) : Option (List Hd) :=
  if isPod ws = true then (num (wd ws 2)).map fun n => hs ++ [newHd ws n]
  else if isCont ws = true ∧ 0 < hs.length then (contOf num need ws).map fun x => addCont hs x.1 x.2
  else none
def steps (num : Tx → Option Int) (need : Tx → Option Nd) (hs : List Hd) : List (List Tx) → Option (List Hd)
  | [] => some hs
  | ws :: r => match step num need hs ws with
    | none => none
    | some hs' => steps num need hs' r
/-- The lines of a text, without their ends. -/
def rowsS (t : Tx) : List Tx := if (splitC 10 t).getLast? = some [] then (splitC 10 t).dropLast else splitC 10 t
def numS (l : Tx) : Option Int := if good 16 l = true then some (val l) else none
def needS (l : Tx) : Option Nd := (numS (cut1 58 l).2.1).map fun n => ⟨⟨(cut1 58 l).1.toArray⟩, n⟩
def readS (t : Tx) : Option (List Hd) := steps numS needS [] ((rowsS t).map (splitC 32))
def numR (l : Tx) : Option Int := if isNum l = true then some (min (val l) 1125899906842625) else none
def needR (l : Tx) : Option Nd := if (splitC 58 l).length = 2 then (numR (wd (splitC 58 l) 1)).map fun n => ⟨⟨(wd (splitC 58 l) 0).toArray⟩, n⟩ else none
def readR (t : Tx) : Option (List Hd) := steps numR needR [] ((splitC 10 t).dropLast.map (splitC 32))
/-- What readers must give back. -/
structure Good (num : Tx → Option Int) (need : Tx → Option Nd) : Prop where
  num : ∀ n : Int, 0 ≤ n → n ≤ 1125899906842624 → num (dec n) = some n
  need : ∀ d : Nd, OkN d → need (needTxt d) = some d
theorem dig_no (n : Int) (c : UInt8) (hc : isDig c = false) : c ∉ dec n := Ost.dig_not _ c hc
theorem name_no {s : ByteArray} (h : nameMay s = true) (c : UInt8) (hc : Dvs.isLet c = false) (hn : Dvs.isNum c = false) : c ∉ s.data.toList := by
  intro hm
  simp only [nameMay, Bool.and_eq_true] at h
  obtain ⟨k, hk, e⟩ := List.getElem_of_mem hm
  have key : ∀ n, Dvs.allTo (Dvs.okB s) n = true → ∀ k, k < n → Dvs.okB s k = true := by
    intro n
    induction n with
    | zero => intro _ k hk; omega
    | succ n ih =>
      intro h k hk
      simp only [Dvs.allTo, Bool.and_eq_true] at h
      by_cases hkn : k = n
      · subst hkn; exact h.2
      · exact ih h.1 k (by omega)
  have := key _ h.2 k (by simpa using hk)
  rw [Dvs.okB, List.getD_eq_getElem?_getD, List.getElem?_eq_getElem hk, Option.getD_some, e, hc, hn] at this
  cases this
theorem goodS : Good numS needS := by
  have hn : ∀ n : Int, 0 ≤ n → n ≤ 1125899906842624 → numS (dec n) = some n := by
    intro n h0 h1
    obtain ⟨k, rfl⟩ := Int.eq_ofNat_of_zero_le h0
    have e1 := Ost.decN_num k
    have e2 := (Ost.decN_all k).2
    have e3 := Ost.decN_len 15 k (by omega)
    unfold Ost.decN at e1 e2 e3
    have e4 : good 16 (Lib.decDigits k) = true := by
      rw [good, e1, e2, decide_eq_true (by omega), decide_eq_true (by unfold Ost.maxI; omega)]; rfl
    simp only [numS, dec, Int.toNat_natCast, e4, if_true, e2]
  refine ⟨hn, fun d hd => ?_⟩
  have e : needTxt d = d.kind.data.toList ++ 58 :: dec d.many := by simp [needTxt]
  have hc := Ost.cut1_at 58 d.kind.data.toList (dec d.many) (name_no hd.1 58 (by decide) (by decide))
  rw [needS, e, hc, hn d.many (by have := hd.2; omega) (by have := hd.2; omega)]
  rfl
theorem goodR : Good numR needR := by
  have hn : ∀ n : Int, 0 ≤ n → n ≤ 1125899906842624 → numR (dec n) = some n := by
    intro n h0 h1
    obtain ⟨k, rfl⟩ := Int.eq_ofNat_of_zero_le h0
    have e1 := Ost.decN_num k
    have e2 := (Ost.decN_all k).2
    unfold Ost.decN at e1 e2
    simp only [numR, dec, Int.toNat_natCast, e1, if_true, e2]
    congr 1; omega
  refine ⟨hn, fun d hd => ?_⟩
  have e : needTxt d = d.kind.data.toList ++ 58 :: dec d.many := by simp [needTxt]
  have hs : splitC 58 (needTxt d) = [d.kind.data.toList, dec d.many] := by
    rw [e, Ost.splitC_cut 58 _ _ (name_no hd.1 58 (by decide) (by decide)), Ost.splitC_none 58 _ (dig_no _ _ (by decide))]
  rw [needR, hs, if_pos (by rfl)]
  show (numR (dec d.many)).map _ = _
  rw [hn d.many (by have := hd.2; omega) (by have := hd.2; omega)]
  rfl
theorem allOf_map {α : Type} {f : Tx → Option α} {g : α → Tx} {xs : List α} (h : ∀ x ∈ xs, f (g x) = some x) : allOf f (xs.map g) = some xs := by
  induction xs with
  | nil => rfl
  | cons x r ih =>
    rw [List.map_cons, allOf, h x (by simp), ih fun y hy => h y (by simp [hy])]
    rfl
theorem join_mem {c : UInt8} {xs : List Tx} {b : UInt8} (h : b ∈ Lib.join xs [c]) : b = c ∨ ∃ x ∈ xs, b ∈ x := by
  induction xs with
  | nil => simp [Lib.join_nil] at h
  | cons x r ih =>
    cases r with
    | nil => rw [Lib.join_one] at h; exact .inr ⟨x, by simp, h⟩
    | cons y t =>
      have e : Lib.join (x :: y :: t) [c] = x ++ c :: Lib.join (y :: t) [c] := by simp [Lib.join, List.intercalate, List.intersperse]
      rw [e, List.mem_append, List.mem_cons] at h
      rcases h with h | h | h
      · exact .inr ⟨x, by simp, h⟩
      · exact .inl h
      · rcases ih h with h | ⟨z, hz, hb⟩
        · exact .inl h
        · exact .inr ⟨z, by simp at hz ⊢; exact .inr hz, hb⟩
theorem join_nil_of {c : UInt8} {xs : List Tx} (h : ∀ x ∈ xs, x ≠ []) (e : Lib.join xs [c] = []) : xs = [] := by
  cases xs with
  | nil => rfl
  | cons x r =>
    rw [Lib.join_cons] at e
    exact absurd (List.append_eq_nil_iff.1 e).1 (h x (by simp))
/-- A list that is written is read. -/
theorem listOf_txt {α : Type} {f : Tx → Option α} {g : α → Tx} {xs : List α} (h : ∀ x ∈ xs, f (g x) = some x) (h44 : ∀ x ∈ xs, (44 : UInt8) ∉ g x) (h45 : ∀ x ∈ xs, g x ≠ [] ∧ g x ≠ [45]) : listOf f (orNo (Lib.join (xs.map g) [44])) = some xs := by
  by_cases h0 : xs = []
  · subst h0; rfl
  · have hne : Lib.join (xs.map g) [44] ≠ [] := fun e => h0 (by
      have := join_nil_of (fun x hx => by obtain ⟨y, hy, rfl⟩ := List.mem_map.1 hx; exact (h45 y hy).1) e
      simpa using this)
    have hsp : splitC 44 (Lib.join (xs.map g) [44]) = xs.map g := Ost.splitC_join 44 _ (fun x hx => by obtain ⟨y, hy, rfl⟩ := List.mem_map.1 hx; exact h44 y hy) (by simpa using h0)
    have hnd : Lib.join (xs.map g) [44] ≠ [45] := fun e => by
      rw [e] at hsp
      have e2 : splitC 44 [45] = [[45]] := by decide
      rw [e2] at hsp
      cases xs with
      | nil => exact h0 rfl
      | cons x r =>
        rw [List.map_cons] at hsp
        injection hsp with h1 h2
        exact (h45 x (by simp)).2 h1.symm
    rw [orNo, if_neg hne, listOf, if_neg hnd, hsp, allOf_map h]
theorem dec_ne (n : Int) : dec n ≠ [] ∧ dec n ≠ [45] := ⟨Ost.decN_ne _, fun e => by
  have := dig_no n 45 (by decide)
  rw [e] at this; simp at this⟩
theorem needTxt_ne (d : Nd) : needTxt d ≠ [] ∧ needTxt d ≠ [45] := by
  have h : (58 : UInt8) ∈ needTxt d := by simp [needTxt]
  exact ⟨fun e => by rw [e] at h; simp at h, fun e => by rw [e] at h; simp at h⟩
theorem cpusOf_txt {A : Nat} (h : A < 18446744073709551616) : cpusOf (setTxt A) = some A := by
  have hp := Ost.parse_txt A h
  unfold setTxt orNo
  split
  · rename_i e
    rw [e] at hp
    have : A = 0 := by
      have h2 : parseOut [] = (0, 0) := by decide
      rw [h2] at hp
      injection hp with h3 _
      exact h3.symm
    subst this; rfl
  · unfold cpusOf
    split
    · rename_i e
      rw [e] at hp
      have h2 : (parseOut [45]).2 = 4 := by decide
      rw [hp] at h2
      cases h2
    · rw [hp]; rfl
theorem contOf_txt {num : Tx → Option Int} {need : Tx → Option Nd} (hg : Good num need) {c : Ct} {g : Gv} (hc : OkC c) (hv : OkG g) : contOf num need (contWs c ++ givenWs g) = some (c, g) := by
  obtain ⟨h1, h2, h3, h4, h5, h6, h7⟩ := hc
  obtain ⟨g1, g2, g3⟩ := hv
  have a1 := hg.num c.am h2.1 (by omega)
  have a2 := hg.num c.ab h3.1 h3.2
  have a3 := hg.num c.cm h4.1 (by omega)
  have a4 := hg.num c.cb h5.1 h5.2
  have a5 : listOf need (needsTxt c.ds) = some c.ds := listOf_txt (fun d hd => hg.need d (h7 d hd)) (fun d hd => by
    have hk := name_no (h7 d hd).1 44 (by decide) (by decide)
    have hn := dig_no d.many 44 (by decide)
    simp only [needTxt, List.mem_append, not_or]
    exact ⟨⟨hk, by simp⟩, hn⟩) (fun d _ => needTxt_ne d)
  have a6 := cpusOf_txt g1
  have a7 : listOf num (devsTxt g.dv) = some g.dv := listOf_txt (fun d hd => hg.num d (g3 d hd).1 (by have := (g3 d hd).2; omega)) (fun d _ => dig_no d 44 (by decide)) (fun d _ => dec_ne d)
  show (match num (dec c.am), num (dec c.ab), num (dec c.cm), num (dec c.cb), listOf need (needsTxt c.ds), cpusOf (setTxt g.cp), listOf num (devsTxt g.dv) with
    | some a, some b, some c', some d, some ds, some A, some dv => some (({ nm := ⟨c.nm.data.toList.toArray⟩, am := a, ab := b, cm := c', cb := d, ds := ds } : Ct), ({ cp := A, dv := dv } : Gv))
    | _, _, _, _, _, _, _ => none) = _
  rw [a1, a2, a3, a4, a5, a6, a7]
/-- The words of the lines. -/
def linesTo (h : Hd) : Nat → List (List Tx)
  | 0 => []
  | k + 1 => linesTo h k ++ [contWs (ct h.pod.cs k) ++ givenWs (gv h.gs k)]
def linesOf (h : Hd) : List (List Tx) := podWs h.pod :: linesTo h h.pod.cs.length
def allTo (hs : List Hd) : Nat → List (List Tx)
  | 0 => []
  | k + 1 => allTo hs k ++ linesOf (hd hs k)
theorem steps_app (num : Tx → Option Int) (need : Tx → Option Nd) (a b : List (List Tx)) : ∀ hs, steps num need hs (a ++ b) = (steps num need hs a).bind fun x => steps num need x b := by
  induction a with
  | nil => intro hs; rfl
  | cons x r ih =>
    intro hs
    rw [List.cons_append, steps, steps]
    cases step num need hs x with
    | none => rfl
    | some y => exact ih y
theorem take_ct {cs : List Ct} {k : Nat} (h : k < cs.length) : cs.take (k + 1) = cs.take k ++ [ct cs k] := by
  rw [List.take_succ_eq_append_getElem h]; simp [ct, h]
theorem take_gv {cs : List Gv} {k : Nat} (h : k < cs.length) : cs.take (k + 1) = cs.take k ++ [gv cs k] := by
  rw [List.take_succ_eq_append_getElem h]; simp [gv, h]
theorem take_hd {cs : List Hd} {k : Nat} (h : k < cs.length) : cs.take (k + 1) = cs.take k ++ [hd cs k] := by
  rw [List.take_succ_eq_append_getElem h]; simp [hd, h]
theorem addCont_last (hs : List Hd) (x : Hd) (c : Ct) (g : Gv) : addCont (hs ++ [x]) c g = hs ++ [plusC x c g] := by
  simp [addCont, hd]
theorem steps_conts {num : Tx → Option Int} {need : Tx → Option Nd} (hg : Good num need) {h : Hd} (e : OkH h) (hs : List Hd) : ∀ k, k ≤ h.pod.cs.length → steps num need (hs ++ [⟨⟨h.pod.nm, h.pod.pr, []⟩, []⟩]) (linesTo h k) = some (hs ++ [⟨⟨h.pod.nm, h.pod.pr, h.pod.cs.take k⟩, h.gs.take k⟩]) := by
  intro k
  induction k with
  | zero => intro _; rfl
  | succ k ih =>
    intro hk
    obtain ⟨o1, o2⟩ := okC_at e (k := k) (by omega)
    rw [linesTo, steps_app, ih (by omega), Option.bind_some, steps, step, if_neg (by simp [isPod, wd, contWs] : ¬ isPod (contWs (ct h.pod.cs k) ++ givenWs (gv h.gs k)) = true), if_pos ⟨by rfl, by simp⟩, contOf_txt hg o1 o2]
    show some (addCont (hs ++ [_]) _ _) = _
    rw [addCont_last, take_ct (by omega), take_gv (by rw [e.2.1]; omega)]
    rfl
theorem steps_pod {num : Tx → Option Int} {need : Tx → Option Nd} (hg : Good num need) {h : Hd} (e : OkH h) (hs : List Hd) : steps num need hs (linesOf h) = some (hs ++ [h]) := by
  have hn := hg.num h.pod.pr e.1.2.1.1 (by have := e.1.2.1.2; omega)
  have hp : step num need hs (podWs h.pod) = some (hs ++ [⟨⟨h.pod.nm, h.pod.pr, []⟩, []⟩]) := by
    rw [step, if_pos (by rfl)]
    show (num (dec h.pod.pr)).map _ = _
    rw [hn]; rfl
  rw [linesOf, steps, hp]
  show steps num need _ (linesTo h _) = _
  rw [steps_conts hg e hs _ (Nat.le_refl _), List.take_length, ← e.2.1, List.take_length]
theorem steps_all {num : Tx → Option Int} {need : Tx → Option Nd} (hg : Good num need) {hs : List Hd} (e : OkL hs) : ∀ k, k ≤ hs.length → steps num need [] (allTo hs k) = some (hs.take k) := by
  intro k
  induction k with
  | zero => intro _; rfl
  | succ k ih =>
    intro hk
    rw [allTo, steps_app, ih (by omega), Option.bind_some, steps_pod hg (e.2 _ (mem_hd (by omega))), take_hd (by omega)]
/-- Words have no blanks, no ends of lines, and lines have words. -/
def Plain (ws : List Tx) : Prop := ws ≠ [] ∧ ∀ x ∈ ws, (32 : UInt8) ∉ x ∧ (10 : UInt8) ∉ x
theorem orNo_no {l : Tx} {c : UInt8} (hc : c ≠ 45) (h : c ∉ l) : c ∉ orNo l := by
  unfold orNo; split
  · simpa using hc
  · exact h
theorem join_no {c b : UInt8} {xs : List Tx} (hb : b ≠ c) (h : ∀ x ∈ xs, b ∉ x) : b ∉ Lib.join xs [c] := fun hm => by
  rcases join_mem hm with e | ⟨x, hx, e⟩
  · exact hb e
  · exact h x hx e
theorem spanTxt_no (p : Nat × Nat) (c : UInt8) (hc : isDig c = false) (h45 : c ≠ 45) : c ∉ Ost.spanTxt p := by
  obtain ⟨f, l⟩ := p
  have h1 := Ost.dig_not f c hc
  have h2 := Ost.dig_not l c hc
  unfold Ost.spanTxt
  split
  · exact h1
  · simp [h1, h2, h45]
theorem txt_no (A : Nat) (c : UInt8) (hc : isDig c = false) (h45 : c ≠ 45) (h44 : c ≠ 44) : c ∉ Ost.txt A := by
  unfold Ost.txt Ost.joined
  exact join_no h44 fun x hx => by
    obtain ⟨p, _, rfl⟩ := List.mem_map.1 hx
    exact spanTxt_no p c hc h45
theorem plain_pod {p : Pd} (h : OkP p) : Plain (podWs p) := by
  refine ⟨by simp [podWs], fun x hx => ?_⟩
  simp only [podWs, List.mem_cons, List.not_mem_nil, or_false] at hx
  rcases hx with rfl | rfl | rfl
  · decide
  · exact ⟨name_no h.1 32 (by decide) (by decide), name_no h.1 10 (by decide) (by decide)⟩
  · exact ⟨dig_no _ _ (by decide), dig_no _ _ (by decide)⟩
theorem plain_cont {c : Ct} {g : Gv} (h : OkC c) : Plain (contWs c ++ givenWs g) := by
  obtain ⟨h1, h2, h3, h4, h5, h6, h7⟩ := h
  have hN : ∀ b : UInt8, b = 32 ∨ b = 10 → b ∉ needsTxt c.ds := fun b hb => by
    refine orNo_no (by rcases hb with rfl | rfl <;> decide) (join_no (by rcases hb with rfl | rfl <;> decide) fun x hx => ?_)
    obtain ⟨d, hd, rfl⟩ := List.mem_map.1 hx
    have e1 : b ∉ d.kind.data.toList := by rcases hb with rfl | rfl <;> exact name_no (h7 d hd).1 _ (by decide) (by decide)
    have e2 : b ∉ dec d.many := by rcases hb with rfl | rfl <;> exact dig_no _ _ (by decide)
    have e3 : b ≠ 58 := by rcases hb with rfl | rfl <;> decide
    simp [needTxt, e1, e2, e3]
  have hS : ∀ b : UInt8, b = 32 ∨ b = 10 → b ∉ setTxt g.cp := fun b hb => by
    refine orNo_no (by rcases hb with rfl | rfl <;> decide) (txt_no _ _ ?_ ?_ ?_) <;> rcases hb with rfl | rfl <;> decide
  have hD : ∀ b : UInt8, b = 32 ∨ b = 10 → b ∉ devsTxt g.dv := fun b hb => by
    refine orNo_no (by rcases hb with rfl | rfl <;> decide) (join_no (by rcases hb with rfl | rfl <;> decide) fun x hx => ?_)
    obtain ⟨d, hd, rfl⟩ := List.mem_map.1 hx
    rcases hb with rfl | rfl <;> exact dig_no _ _ (by decide)
  refine ⟨by simp [contWs], fun x hx => ?_⟩
  simp only [contWs, givenWs, List.cons_append, List.nil_append, List.mem_cons, List.not_mem_nil, or_false] at hx
  rcases hx with rfl | rfl | rfl | rfl | rfl | rfl | rfl | rfl | rfl
  · decide
  · exact ⟨name_no h1 32 (by decide) (by decide), name_no h1 10 (by decide) (by decide)⟩
  · exact ⟨dig_no _ _ (by decide), dig_no _ _ (by decide)⟩
  · exact ⟨dig_no _ _ (by decide), dig_no _ _ (by decide)⟩
  · exact ⟨dig_no _ _ (by decide), dig_no _ _ (by decide)⟩
  · exact ⟨dig_no _ _ (by decide), dig_no _ _ (by decide)⟩
  · exact ⟨hN 32 (.inl rfl), hN 10 (.inr rfl)⟩
  · exact ⟨hS 32 (.inl rfl), hS 10 (.inr rfl)⟩
  · exact ⟨hD 32 (.inl rfl), hD 10 (.inr rfl)⟩
def cat (ls : List (List Tx)) : Tx := (ls.map lineTxt).flatten
theorem cat_app (a b : List (List Tx)) : cat (a ++ b) = cat a ++ cat b := by simp [cat]
theorem cat_conts (h : Hd) (k : Nat) : cat (linesTo h k) = contsTo h k := by
  induction k with
  | zero => rfl
  | succ k ih => rw [linesTo, cat_app, ih, contsTo]; simp [cat, contLine]
theorem cat_pod (h : Hd) : cat (linesOf h) = podTxt h := by
  rw [linesOf, podTxt, ← cat_conts]; simp [cat, podLine]
theorem cat_all (hs : List Hd) (k : Nat) : cat (allTo hs k) = bodyTo hs k := by
  induction k with
  | zero => rfl
  | succ k ih => rw [allTo, cat_app, ih, cat_pod, bodyTo]
theorem plain_conts {h : Hd} (e : OkH h) : ∀ k, k ≤ h.pod.cs.length → ∀ ws ∈ linesTo h k, Plain ws := by
  intro k
  induction k with
  | zero => intro _ ws hw; simp [linesTo] at hw
  | succ k ih =>
    intro hk ws hw
    rw [linesTo, List.mem_append, List.mem_singleton] at hw
    rcases hw with hw | rfl
    · exact ih (by omega) ws hw
    · exact plain_cont (okC_at e (by omega)).1
theorem plain_all {hs : List Hd} (e : OkL hs) : ∀ k, k ≤ hs.length → ∀ ws ∈ allTo hs k, Plain ws := by
  intro k
  induction k with
  | zero => intro _ ws hw; simp [allTo] at hw
  | succ k ih =>
    intro hk ws hw
    rw [allTo, List.mem_append] at hw
    rcases hw with hw | hw
    · exact ih (by omega) ws hw
    · have eh := e.2 _ (mem_hd (ds := hs) (k := k) (by omega))
      rw [linesOf, List.mem_cons] at hw
      rcases hw with rfl | hw
      · exact plain_pod eh.1
      · exact plain_conts eh _ (Nat.le_refl _) ws hw
theorem split_cat (ls : List (List Tx)) (h : ∀ ws ∈ ls, Plain ws) : splitC 10 (cat ls) = ls.map (fun ws => Lib.join ws [32]) ++ [[]] := by
  induction ls with
  | nil => rfl
  | cons ws r ih =>
    have e : cat (ws :: r) = Lib.join ws [32] ++ 10 :: cat r := by simp [cat, lineTxt]
    rw [e, Ost.splitC_cut 10 _ _ (join_no (by decide) fun x hx => ((h ws (by simp)).2 x hx).2), ih fun y hy => h y (by simp [hy])]
    rfl
theorem split_words (ls : List (List Tx)) (h : ∀ ws ∈ ls, Plain ws) : (ls.map fun ws => Lib.join ws [32]).map (splitC 32) = ls := by
  rw [List.map_map]
  conv => rhs; rw [← List.map_id ls]
  refine List.map_congr_left fun ws hw => ?_
  exact Ost.splitC_join 32 ws (fun x hx => ((h ws hw).2 x hx).1) (h ws hw).1
theorem readS_body {hs : List Hd} (e : OkL hs) : readS (body hs) = some hs := by
  have hp := plain_all e _ (Nat.le_refl _)
  have hsp := split_cat _ hp
  rw [cat_all] at hsp
  change splitC 10 (body hs) = _ at hsp
  have hr : rowsS (body hs) = (allTo hs hs.length).map fun ws => Lib.join ws [32] := by
    rw [rowsS, hsp, if_pos (by simp), List.dropLast_concat]
  rw [readS, hr, split_words _ hp, steps_all goodS e _ (Nat.le_refl _), List.take_length]
theorem readR_body {hs : List Hd} (e : OkL hs) : readR (body hs) = some hs := by
  have hp := plain_all e _ (Nat.le_refl _)
  have hsp := split_cat _ hp
  rw [cat_all] at hsp
  change splitC 10 (body hs) = _ at hsp
  rw [readR, hsp, List.dropLast_concat, split_words _ hp, steps_all goodR e _ (Nat.le_refl _), List.take_length]
end Sv
end Go.Proofs.YtlljniaobbbjgaaGreatDoor
namespace Go.Proofs.YtlljniaobbbjgaaGreatDoor.S1
open Go.RowKit
theorem str_app (a b : List UInt8) : (ByteArray.mk a.toArray) ++ (ByteArray.mk b.toArray) = ByteArray.mk (a ++ b).toArray := by
  apply ByteArray.ext; simp
theorem dd_len (n : Nat) (h : n < 100) : (Lib.decDigits n).length ≤ 2 := by
  by_cases h1 : n < 10
  · rw [Lib.decDigits_one h1]; simp
  · rw [Lib.decDigits_two h1 h]; simp
set_option maxHeartbeats 400000 in
theorem spanText_any (f l : Nat) (w : World) (hf : f < 64) (hl : l < 64) :
    Calls Tryz.prog 81 #[.int .i64 f, .int .i64 l] w fun e w' => e = .returned (.string ⟨(Ost.spanTxt (f, l)).toArray⟩) ∧ w' = w := by
  have l1 := dd_len f (by omega)
  have l2 := dd_len l (by omega)
  by_cases h : f = l
  · subst h
    have H : Hid (Ost.spanTxt (f, f) = Lib.decDigits f) := by simp [Hid, Ost.spanTxt]
    go_enter Tryz.func81, Tryz.ntmps81
    go_wp2_with fail
    refine (Tryz.strconv_Itoa_small f (by omega) _).mono ?_
    rintro e w' ⟨rfl, rfl⟩
    go_wp2_with fail
    go_ret
    exact ⟨by rw [H.out]; rfl, rfl⟩
  · have H : Hid (Ost.spanTxt (f, l) = Lib.decDigits f ++ [45] ++ Lib.decDigits l) := by simp [Hid, Ost.spanTxt, h]
    have h1 : ((f : Int) == (l : Int)) = false := by simp; omega
    clear h
    go_enter Tryz.func81, Tryz.ntmps81
    go_wp2_with fail
    refine (Tryz.strconv_Itoa_small f (by omega) _).mono ?_
    rintro e w' ⟨rfl, rfl⟩
    go_wp2_with fail
    refine (Tryz.strconv_Itoa_small l (by omega) _).mono ?_
    rintro e w' ⟨rfl, rfl⟩
    go_wp2_with fail
    go_ret
    refine ⟨?_, rfl⟩
    rw [H.out]
    show Ending.returned (.string ((ByteArray.mk (Lib.decDigits f).toArray ++ ByteArray.mk [45].toArray) ++ ByteArray.mk (Lib.decDigits l).toArray)) = _
    rw [str_app, str_app]
/-- Has a set this number? -/
def hasB (A : Nat) (z : Int) : Bool := decide (0 ≤ z ∧ z < 64) && A.testBit z.toNat
theorem hasB_nat (A k : Nat) (hA : A < 18446744073709551616) : hasB A (k : Int) = A.testBit k := by
  unfold hasB
  by_cases h : k < 64
  · rw [decide_eq_true (by omega), Int.toNat_natCast]; rfl
  · rw [decide_eq_false (by omega)]
    have : A.testBit k = false := Nat.testBit_lt_two_pow (Nat.lt_of_lt_of_le hA (Nat.pow_le_pow_right (n := 2) (by omega) (show 64 ≤ k by omega)))
    rw [this]; rfl
theorem has_gen (A : Nat) (z : Int) (w : World) (hA : A < 18446744073709551616) :
    Calls Tryz.prog 80 #[.int .u64 A, .int .i64 z] w fun e w' => e = .returned (.bool (hasB A z)) ∧ w' = w := by
  unfold hasB
  by_cases h : 0 ≤ z ∧ z < 64
  · obtain ⟨n, rfl⟩ := Int.eq_ofNat_of_zero_le h.1
    rw [decide_eq_true h, Int.toNat_natCast]
    exact has_in A n w hA (by omega)
  · rw [decide_eq_false h]
    exact has_out A z w (by omega)
theorem has_t (A : Nat) (z : Int) (w : World) (hA : A < 18446744073709551616) (h : hasB A z = true) :
    Calls Tryz.prog 80 #[.int .u64 A, .int .i64 z] w fun e w' => e = .returned (.bool true) ∧ w' = w := by
  have := has_gen A z w hA
  rw [h] at this; exact this
theorem has_f (A : Nat) (z : Int) (w : World) (hA : A < 18446744073709551616) (h : hasB A z = false) :
    Calls Tryz.prog 80 #[.int .u64 A, .int .i64 z] w fun e w' => e = .returned (.bool false) ∧ w' = w := by
  have := has_gen A z w hA
  rw [h] at this; exact this
theorem infoStr : (Tryz.prog.info? 9).map (fun i => (i.zero, i.size, i.bytes)) = some (some (.string ⟨#[]⟩), 1, 16) := by kernel_rfl
def strs (l : List (List UInt8)) : List Value := l.map fun (b : List UInt8) => Value.string ⟨b.toArray⟩
theorem strs_snoc (l : List (List UInt8)) (b : List UInt8) : strs (l ++ [b]) = strs l ++ [.string ⟨b.toArray⟩] := by simp [strs]
theorem strs_oneCell (l : List (List UInt8)) : ∀ u ∈ strs l, u.oneCell' = true := by
  intro u hu
  obtain ⟨_, _, rfl⟩ := List.mem_map.1 hu
  rfl
theorem spansTo_le (A k : Nat) : (Ost.spansTo A k).length ≤ k := by
  induction k with
  | zero => exact Nat.le_refl _
  | succ k ih =>
    unfold Ost.spansTo
    split
    · rw [List.length_append]; simp; omega
    · omega
theorem runStart_le (A k : Nat) : Ost.runStart A k ≤ k := by
  induction k with
  | zero => exact Nat.le_refl _
  | succ k ih => unfold Ost.runStart; split <;> omega
/-- The texts of the runs that end below a bound. -/
def txts (A k : Nat) : List (List UInt8) := (Ost.spansTo A k).map Ost.spanTxt
theorem txts_len (A k : Nat) : (txts A k).length ≤ k := by unfold txts; rw [List.length_map]; exact spansTo_le A k
theorem txts_yes (A k : Nat) (h0 : A.testBit k = true) (h1 : A.testBit (k + 1) = false) : txts A (k + 1) = txts A k ++ [Ost.spanTxt (Ost.runStart A k, k)] := by
  simp [txts, Ost.spansTo, h0, h1]
theorem txts_no (A k : Nat) (h : A.testBit k = false ∨ A.testBit (k + 1) = true) : txts A (k + 1) = txts A k := by
  unfold txts; rw [Ost.spansTo]
  rcases h with h | h <;> simp [h]
set_option maxRecDepth 100000 in
set_option maxHeartbeats 2000000 in
theorem text_loop (A : Nat) (w : World) (hA : A < 18446744073709551616)
    (hJ : Hid (∀ (v : Value) (w1 : World), w1.ownsRow w.heap.size 9 1 v (txts A 64).length (strs (txts A 64)) → Below w.heap.size w w1 →
      Calls Tryz.prog 76 #[v, .string ⟨#[44]⟩] w1 fun e w' => e = .returned (.string ⟨(Lib.join (txts A 64) [44]).toArray⟩) ∧ Below w1.heap.size w1 w')) :
    Calls Tryz.prog 59 #[.int .u64 A] w fun e w' => e = .returned (.string ⟨(Lib.join (txts A 64) [44]).toArray⟩) ∧ Below w.heap.size w w' := by
  obtain ⟨i0, hi, hz0, hz1, hz2⟩ := info_parts infoStr
  go_enter Tryz.func59, Tryz.ntmps59
  go_wp2_with fail
  go_loopw [3, 4, 6] (fun v f i wr => ∃ k fN : Nat, k ≤ 64 ∧ fN ≤ 64 ∧ i = .int .i64 k ∧ f = .int .i64 fN ∧ Hid (∀ j, k = j + 1 → A.testBit j = true → fN = Ost.runStart A j) ∧ wr.ownsRow w.heap.size 9 1 v (txts A k).length (strs (txts A k)) ∧ Below w.heap.size w wr) (fun _ _ i _ => 64 - (intOf i).toNat)
  case atStart => exact ⟨0, 0, by omega, by omega, rfl, rfl, by intro j hj; omega, World.ownsRow_nil _ _ _ _, Below.refl _ _⟩
  case round =>
    obtain ⟨k, fN, hk, hfN, rfl, rfl, HF, hrow, hnx⟩ := hrel
    by_cases hlt : k < 64
    · have hle := txts_len A k
      have hsz := hnx.size
      have e0 := hasB_nat A k hA
      rcases two' (A.testBit k) with hb | hb
      · have H0 : Hid (hasB A (k : Int) = true) := by unfold Hid; rw [e0, hb]
        -- where the run begins
        have HR : Hid ((hasB A ((k : Int) - 1) = true → fN = Ost.runStart A k) ∧ (hasB A ((k : Int) - 1) = false → k = Ost.runStart A k)) := by
          unfold Hid
          cases k with
          | zero => exact ⟨fun h => by simp [hasB] at h, fun _ => rfl⟩
          | succ j =>
            rw [show ((j + 1 : Nat) : Int) - 1 = (j : Int) by omega, hasB_nat A j hA]
            refine ⟨fun h => ?_, fun h => ?_⟩
            · rw [Ost.runStart, if_pos h]; exact HF.out j rfl h
            · rw [Ost.runStart, if_neg (by rw [h]; simp)]
        have e2 := hasB_nat A (k + 1) hA
        rw [show ((k + 1 : Nat) : Int) = (k : Int) + 1 by omega] at e2
        have hrs := runStart_le A k
        rcases two' (hasB A ((k : Int) - 1)) with hp | hp <;> rcases two' (A.testBit (k + 1)) with hq | hq
        · have HP := hideIt' hp
          have HQ : Hid (hasB A ((k : Int) + 1) = true) := by unfold Hid; rw [e2, hq]
          have HFE := hideIt' (HR.out.1 hp)
          have HS := hideIt' (txts_no A k (.inr hq))
          clear hp hq hb e0 e2
          go_wp2_with fail
          refine (has_t A _ _ hA H0.out).mono ?_; rintro e w' ⟨rfl, rfl⟩
          go_wp2_with fail
          refine (has_t A _ _ hA HP.out).mono ?_; rintro e w' ⟨rfl, rfl⟩
          go_wp2_with fail
          refine (has_t A _ _ hA HQ.out).mono ?_; rintro e w' ⟨rfl, rfl⟩
          go_wp2_with fail
          go_roundw
          case rel => exact ⟨k + 1, fN, by omega, by omega, by go_num, rfl, fun j hj _ => (show k = j by omega) ▸ HFE.out, by rw [HS.out]; exact hrow, hnx⟩
          case measure => simp [intOf]; omega
        · have HP := hideIt' hp
          have HQ : Hid (hasB A ((k : Int) + 1) = false) := by unfold Hid; rw [e2, hq]
          have HFE := hideIt' (HR.out.1 hp)
          have HS : Hid (txts A (k + 1) = txts A k ++ [Ost.spanTxt (fN, k)]) := by
            unfold Hid; rw [txts_yes A k hb hq, ← HFE.out]
          have hf64 : fN < 64 := by have := HFE.out; omega
          clear hp hq hb e0 e2
          go_wp2_with fail
          refine (has_t A _ _ hA H0.out).mono ?_; rintro e w' ⟨rfl, rfl⟩
          go_wp2_with fail
          refine (has_t A _ _ hA HP.out).mono ?_; rintro e w' ⟨rfl, rfl⟩
          go_wp2_with fail
          refine (has_f A _ _ hA HQ.out).mono ?_; rintro e w' ⟨rfl, rfl⟩
          go_wp2_with fail
          refine (spanText_any fN k _ hf64 hlt).mono ?_; rintro e w' ⟨rfl, rfl⟩
          go_wp2_with (at_builtin; refine wpList_append_own _ rfl _ _ 41 rfl w.heap.size 9 i0 (.string ⟨#[]⟩) 1 16 Tryz.underlying41 hi hz0 hz1 hz2 rfl (by decide) _ _ _ rfl (hrow.alloc _) ⟨_, 0, none⟩ 1 1 [.string ⟨(Ost.spanTxt (fN, k)).toArray⟩] rfl rfl (cell_one_new _ _ _) (strs_oneCell [Ost.spanTxt (fN, k)]) (by unfold maxLen; omega) (by omega) (by simp; omega) ?_; intro v' w1 hown' hgrow' _)
          go_roundw
          case rel =>
            refine ⟨k + 1, fN, by omega, by omega, by go_num, rfl, ?_, ?_, ?_⟩
            · intro j hj _
              obtain rfl : k = j := by omega
              exact HFE.out
            · rw [HS.out, strs_snoc, List.length_append]; exact hown'
            · exact (hnx.alloc hsz _).grown hgrow' (by simp; omega) (fun j hj => (hrow.lt j hj).1)
          case measure => simp [intOf]; omega
        · have HP := hideIt' hp
          have HQ : Hid (hasB A ((k : Int) + 1) = true) := by unfold Hid; rw [e2, hq]
          have HFE := hideIt' (HR.out.2 hp)
          have HS := hideIt' (txts_no A k (.inr hq))
          clear hp hq hb e0 e2
          go_wp2_with fail
          refine (has_t A _ _ hA H0.out).mono ?_; rintro e w' ⟨rfl, rfl⟩
          go_wp2_with fail
          refine (has_f A _ _ hA HP.out).mono ?_; rintro e w' ⟨rfl, rfl⟩
          go_wp2_with fail
          refine (has_t A _ _ hA HQ.out).mono ?_; rintro e w' ⟨rfl, rfl⟩
          go_wp2_with fail
          go_roundw
          case rel => exact ⟨k + 1, k, by omega, by omega, by go_num, rfl, fun j hj _ => (show k = j by omega) ▸ HFE.out, by rw [HS.out]; exact hrow, hnx⟩
          case measure => simp [intOf]; omega
        · have HP := hideIt' hp
          have HQ : Hid (hasB A ((k : Int) + 1) = false) := by unfold Hid; rw [e2, hq]
          have HFE := hideIt' (HR.out.2 hp)
          have HS : Hid (txts A (k + 1) = txts A k ++ [Ost.spanTxt (k, k)]) := by
            unfold Hid; rw [txts_yes A k hb hq, ← HFE.out]
          have hf64 : k < 64 := by have := HFE.out; omega
          clear hp hq hb e0 e2
          go_wp2_with fail
          refine (has_t A _ _ hA H0.out).mono ?_; rintro e w' ⟨rfl, rfl⟩
          go_wp2_with fail
          refine (has_f A _ _ hA HP.out).mono ?_; rintro e w' ⟨rfl, rfl⟩
          go_wp2_with fail
          refine (has_f A _ _ hA HQ.out).mono ?_; rintro e w' ⟨rfl, rfl⟩
          go_wp2_with fail
          refine (spanText_any k k _ hf64 hlt).mono ?_; rintro e w' ⟨rfl, rfl⟩
          go_wp2_with (at_builtin; refine wpList_append_own _ rfl _ _ 41 rfl w.heap.size 9 i0 (.string ⟨#[]⟩) 1 16 Tryz.underlying41 hi hz0 hz1 hz2 rfl (by decide) _ _ _ rfl (hrow.alloc _) ⟨_, 0, none⟩ 1 1 [.string ⟨(Ost.spanTxt (k, k)).toArray⟩] rfl rfl (cell_one_new _ _ _) (strs_oneCell [Ost.spanTxt (k, k)]) (by unfold maxLen; omega) (by omega) (by simp; omega) ?_; intro v' w1 hown' hgrow' _)
          go_roundw
          case rel =>
            refine ⟨k + 1, k, by omega, by omega, by go_num, rfl, ?_, ?_, ?_⟩
            · intro j hj _
              obtain rfl : k = j := by omega
              exact HFE.out
            · rw [HS.out, strs_snoc, List.length_append]; exact hown'
            · exact (hnx.alloc hsz _).grown hgrow' (by simp; omega) (fun j hj => (hrow.lt j hj).1)
          case measure => simp [intOf]; omega
      · have H0 : Hid (hasB A (k : Int) = false) := by unfold Hid; rw [e0, hb]
        have HS := hideIt' (txts_no A k (.inl hb))
        have HB := hideIt' hb
        clear hb e0
        go_wp2_with fail
        refine (has_f A _ _ hA H0.out).mono ?_; rintro e w' ⟨rfl, rfl⟩
        go_wp2_with fail
        go_roundw
        case rel =>
          refine ⟨k + 1, fN, by omega, hfN, by go_num, rfl, ?_, by rw [HS.out]; exact hrow, hnx⟩
          intro j hj hb
          obtain rfl : k = j := by omega
          rw [HB.out] at hb; cases hb
        case measure => simp [intOf]; omega
    · have hk64 : k = 64 := by omega
      subst hk64
      clear hk hlt
      go_wp2_with fail
      refine (hJ.out _ _ hrow hnx).mono ?_
      rintro e w2 ⟨rfl, hb2⟩
      go_wp2_with fail
      go_ret
      exact ⟨rfl, hnx.trans (hb2.mono hnx.size)⟩
theorem ownsRow_cells {w : World} {base : Nat} {e : TypeId} {v : Value} {n : Nat} {xs : List Value} (h : w.ownsRow base e 1 v n xs) :
    (v = .slice none 0 0 ∧ n = 0) ∨ ∃ g cap, v = .slice (some ⟨g, 0, none⟩) n cap ∧ n ≤ cap ∧ g < w.heap.size ∧ ∀ j x, xs[j]? = some x → w.cell? ⟨g, j, none⟩ = some x := by
  obtain ⟨hl, h⟩ := h
  rcases h with ⟨rfl, rfl⟩ | ⟨g, cap, cur, rfl, hb, hh, hn, hc, hs, ht⟩
  · exact .inl ⟨rfl, rfl⟩
  · refine .inr ⟨g, cap, rfl, hn, (Array.getElem?_eq_some_iff.1 hh).1, fun j x hx => ?_⟩
    have hj : j < n * 1 := by rw [← hl]; exact (List.getElem?_eq_some_iff.1 hx).1
    rw [← ht, List.getElem?_take, if_pos hj] at hx
    simp only [World.cell?, hh]
    simpa using hx
/-- strings.Join over a row of the call's own. -/
theorem join_own (v : Value) (xs : List (List UInt8)) (w : World) (base : Nat) (h : w.ownsRow base 9 1 v xs.length (strs xs)) (hn : xs.length ≤ 100) (hl : (Lib.join xs [44]).length ≤ 100000) :
    Calls Tryz.prog 76 #[v, .string ⟨#[44]⟩] w fun e w' => e = .returned (.string ⟨(Lib.join xs [44]).toArray⟩) ∧ Below w.heap.size w w' := by
  rcases ownsRow_cells h with ⟨rfl, h0⟩ | ⟨g, cap, rfl, hc, hg, hcell⟩
  · have : xs = [] := List.eq_nil_of_length_eq_zero h0
    subst this
    refine (Tryz.strings_Join_none none 0 ⟨#[44]⟩ w).mono ?_
    rintro e w' ⟨rfl, rfl⟩
    exact ⟨rfl, Below.refl _ _⟩
  · have hx : (xs.map fun (b : List UInt8) => ByteArray.mk b.toArray).map (·.data.toList) = xs := by
      rw [List.map_map]; exact List.map_id'' (fun _ => rfl) xs
    have := Tryz.strings_Join g 0 cap (xs.map fun (b : List UInt8) => ByteArray.mk b.toArray) ⟨#[44]⟩ w (fun j x hj => by
      rw [Nat.zero_add]
      apply hcell
      unfold strs
      rw [List.getElem?_map] at hj ⊢
      obtain ⟨a, ha, rfl⟩ := Option.map_eq_some_iff.1 hj
      rw [ha]; rfl) hg (by simp; omega) (by simpa using hc) (by rw [hx]; show (Lib.join xs [44]).length ≤ _; omega)
    rw [hx] at this
    simpa using this
end Go.Proofs.YtlljniaobbbjgaaGreatDoor.S1
namespace Go.Proofs.YtlljniaobbbjgaaGreatDoor.S1
open Go.RowKit
namespace Ost
open Go.Proofs.YtlljniaobbbjgaaGreatDoor.Ost
theorem cut1_true (c : UInt8) (l : List UInt8) (h : (cut1 c l).2.2 = true) : l = (cut1 c l).1 ++ c :: (cut1 c l).2.1 ∧ c ∉ (cut1 c l).1 := by
  induction l with
  | nil => simp [cut1] at h
  | cons b r ih =>
    unfold cut1 at h ⊢
    by_cases e : b = c
    · simp [e]
    · rw [if_neg e] at h ⊢
      obtain ⟨h1, h2⟩ := ih h
      refine ⟨?_, ?_⟩
      · simp only [List.cons_append]; rw [← h1]
      · simp; exact ⟨fun x => e x.symm, h2⟩
theorem cut1_false (c : UInt8) (l : List UInt8) (h : (cut1 c l).2.2 = false) : c ∉ l := by
  induction l with
  | nil => simp
  | cons b r ih =>
    unfold cut1 at h
    by_cases e : b = c
    · rw [if_pos e] at h; cases h
    · rw [if_neg e] at h
      simp; exact ⟨fun x => e x.symm, ih h⟩
theorem splitK_C (c : UInt8) : ∀ (n : Nat) (l : List UInt8), l.length ≤ n → Lib.splitK [c] 0 (Lib.count l [c]) l = splitC c l := by
  intro n
  induction n with
  | zero =>
    intro l hl
    have : l = [] := List.eq_nil_of_length_eq_zero (by omega)
    subst this; rfl
  | succ n ih =>
    intro l hl
    rcases cut1_index c l with ⟨h1, h2⟩ | ⟨i, h1, h2⟩
    · rw [Lib.count_miss h1, splitC_none c l (cut1_false c l (by rw [h2]))]; rfl
    · have ht := cut1_true c l (by rw [h2])
      rw [h2] at ht
      simp only at ht
      have hlen := congrArg List.length ht.1
      simp at hlen
      rw [Lib.count_hit (by simp) h1, Nat.add_comm, Lib.splitK, if_neg (by rw [h1]; simp), h1]
      simp only [Int.toNat_natCast, List.length_cons, List.length_nil, Nat.zero_add, Nat.add_zero]
      rw [ih _ (by rw [List.length_drop]; omega)]
      conv => rhs; rw [ht.1]
      rw [splitC_cut c _ _ ht.2]
end Ost
theorem split_data (s : ByteArray) : (Lib.splitB ⟨#[44]⟩ 0 (Lib.countB s ⟨#[44]⟩) s).map (·.data.toList) = Ost.splitC 44 s.data.toList := by
  rw [Lib.splitB_data]
  exact Ost.splitK_C 44 _ _ (Nat.le_refl _)
theorem mk_data (s : ByteArray) : ByteArray.mk s.data.toList.toArray = s := by cases s; rfl
theorem split_cells (s : ByteArray) : (Lib.splitB ⟨#[44]⟩ 0 (Lib.countB s ⟨#[44]⟩) s).map Value.string = (Ost.splitC 44 s.data.toList).map fun (b : List UInt8) => Value.string ⟨b.toArray⟩ := by
  rw [← split_data, List.map_map]
  apply List.map_congr_left
  intro x _
  show Value.string x = Value.string ⟨x.data.toList.toArray⟩
  rw [mk_data]
theorem splitB_len (s : ByteArray) : ∀ n, s.size ≤ n → (Lib.splitB ⟨#[44]⟩ 0 (Lib.countB s ⟨#[44]⟩) s).length = Lib.countB s ⟨#[44]⟩ + 1 := by
  intro n
  induction n generalizing s with
  | zero =>
    intro h
    rcases Lib.indexB_cases s ⟨#[44]⟩ with h1 | ⟨i, h1, h2⟩
    · rw [Lib.countB_miss s _ h1]; rfl
    · exfalso; have : (ByteArray.mk #[44]).size = 1 := rfl; omega
  | succ n ih =>
    intro h
    rcases Lib.indexB_cases s ⟨#[44]⟩ with h1 | ⟨i, h1, h2⟩
    · rw [Lib.countB_miss s _ h1]; rfl
    · have e1 : (ByteArray.mk #[44]).size = 1 := rfl
      rw [Lib.countB_hit s _ i (by omega) h1, Nat.add_comm 1, Lib.splitB_hit _ 0 _ s i h1, List.length_cons, ih _ (by rw [ByteArray.size_extract]; omega)]
theorem split_any (s : ByteArray) (w : World) (hs : s.size < 4294967281) (hm : Mx w) :
    Calls Tryz.prog 69 #[.string s, .string ⟨#[44]⟩] w fun e w' =>
      e = .returned (.slice (some ⟨w.heap.size, 0, none⟩) (Ost.splitC 44 s.data.toList).length (Ost.splitC 44 s.data.toList).length) ∧ w' = w.alloc (.cells ((Ost.splitC 44 s.data.toList).map fun (b : List UInt8) => Value.string ⟨b.toArray⟩).toArray 9) := by
  obtain ⟨m, hm⟩ := hm
  have := Tryz.strings_Split s ⟨#[44]⟩ m w hs hm (by decide)
  have hl : Lib.countB s ⟨#[44]⟩ + 1 = (Ost.splitC 44 s.data.toList).length := by
    rw [← split_data, List.length_map, splitB_len s _ (Nat.le_refl _)]
  rw [split_cells, hl] at this
  exact this
set_option maxHeartbeats 1000000 in
theorem readSpan_yes (s : ByteArray) (f l : Int) (w : World) (hs : s.size < 4294967281) (hm : Mx w) (h : Ost.spanOf s.data.toList = some (f, l)) :
    Calls Tryz.prog 137 #[.string s] w fun e w' => e = .returned (.tuple #[.int .i64 f, .int .i64 l, .bool true]) ∧ ∃ n, w' = w.drewN n := by
  have HL : Hid (s.data.toList.length = s.size) := by unfold Hid; simp
  have hle := cut1_le 45 s.data.toList
  have HS1 : (ByteArray.mk (Ost.cut1 45 s.data.toList).1.toArray).size ≤ maxLen := by
    have := hle.1; rw [HL.out] at this; show (Ost.cut1 45 s.data.toList).1.toArray.size ≤ _; unfold maxLen; simp; omega
  have HS2 : (ByteArray.mk (Ost.cut1 45 s.data.toList).2.1.toArray).size ≤ maxLen := by
    have := hle.2; rw [HL.out] at this; show (Ost.cut1 45 s.data.toList).2.1.toArray.size ≤ _; unfold maxLen; simp; omega
  clear hle
  unfold Ost.spanOf at h
  rcases two' (Ost.cut1 45 s.data.toList).2.2 with hf | hf
  · rw [if_pos hf] at h
    split at h
    · rename_i hg
      rw [Bool.and_eq_true, Bool.and_eq_true, decide_eq_true_eq] at hg
      obtain ⟨⟨g1, g2⟩, hv⟩ := hg
      simp only [Option.some.injEq, Prod.mk.injEq] at h
      obtain ⟨rfl, rfl⟩ := h
      go_enter Tryz.func137, Tryz.ntmps137
      go_wp2_with fail
      refine (cut_yes s 45 _ hs hm hf).mono ?_; rintro e w' ⟨rfl, n, rfl⟩
      go_wp2_with fail
      refine (read_yes _ 19 _ HS1 g1).mono ?_; rintro e w' ⟨rfl, rfl⟩
      go_wp2_with fail
      refine (read_yes _ 19 _ HS2 g2).mono ?_; rintro e w' ⟨rfl, rfl⟩
      go_wp2_with fail
      go_ret3
      exact ⟨rfl, n, rfl⟩
    · cases h
  · rw [if_neg (by rw [hf]; simp)] at h
    split at h
    · rename_i g1
      simp only [Option.some.injEq, Prod.mk.injEq] at h
      obtain ⟨rfl, rfl⟩ := h
      go_enter Tryz.func137, Tryz.ntmps137
      go_wp2_with fail
      refine (cut_no s 45 _ hs hm hf).mono ?_; rintro e w' ⟨rfl, n, rfl⟩
      go_wp2_with fail
      refine (read_yes _ 19 _ HS1 g1).mono ?_; rintro e w' ⟨rfl, rfl⟩
      go_wp2_with fail
      go_ret3
      exact ⟨rfl, n, rfl⟩
    · cases h
set_option maxHeartbeats 2000000 in
theorem readSpan_no (s : ByteArray) (w : World) (hs : s.size < 4294967281) (hm : Mx w) (h : Ost.spanOf s.data.toList = none) :
    Calls Tryz.prog 137 #[.string s] w fun e w' => (∃ a b, e = .returned (.tuple #[.int .i64 a, .int .i64 b, .bool false])) ∧ ∃ n, w' = w.drewN n := by
  have HL : Hid (s.data.toList.length = s.size) := by unfold Hid; simp
  have hle := cut1_le 45 s.data.toList
  have HS1 : (ByteArray.mk (Ost.cut1 45 s.data.toList).1.toArray).size ≤ maxLen := by
    have := hle.1; rw [HL.out] at this; show (Ost.cut1 45 s.data.toList).1.toArray.size ≤ _; unfold maxLen; simp; omega
  have HS2 : (ByteArray.mk (Ost.cut1 45 s.data.toList).2.1.toArray).size ≤ maxLen := by
    have := hle.2; rw [HL.out] at this; show (Ost.cut1 45 s.data.toList).2.1.toArray.size ≤ _; unfold maxLen; simp; omega
  clear hle
  unfold Ost.spanOf at h
  rcases two' (Ost.cut1 45 s.data.toList).2.2 with hf | hf
  · rw [if_pos hf] at h
    split at h
    · cases h
    · rename_i hg
      clear h
      rcases two' (Ost.good 19 (Ost.cut1 45 s.data.toList).1) with g1 | g1
      · rcases two' (Ost.good 19 (Ost.cut1 45 s.data.toList).2.1) with g2 | g2
        · have hv : ¬ Ost.val (Ost.cut1 45 s.data.toList).1 ≤ Ost.val (Ost.cut1 45 s.data.toList).2.1 := by
            intro hv; rw [g1, g2, decide_eq_true hv] at hg; exact hg rfl
          have hv2 : decide (Ost.val (Ost.cut1 45 s.data.toList).1 ≤ Ost.val (Ost.cut1 45 s.data.toList).2.1) = false := decide_eq_false hv
          clear hg hv
          go_enter Tryz.func137, Tryz.ntmps137
          go_wp2_with fail
          refine (cut_yes s 45 _ hs hm hf).mono ?_; rintro e w' ⟨rfl, n, rfl⟩
          go_wp2_with fail
          refine (read_yes _ 19 _ HS1 g1).mono ?_; rintro e w' ⟨rfl, rfl⟩
          go_wp2_with fail
          refine (read_yes _ 19 _ HS2 g2).mono ?_; rintro e w' ⟨rfl, rfl⟩
          go_wp2_with fail
          go_ret3
          exact ⟨⟨_, _, rfl⟩, n, rfl⟩
        · clear hg
          go_enter Tryz.func137, Tryz.ntmps137
          go_wp2_with fail
          refine (cut_yes s 45 _ hs hm hf).mono ?_; rintro e w' ⟨rfl, n, rfl⟩
          go_wp2_with fail
          refine (read_yes _ 19 _ HS1 g1).mono ?_; rintro e w' ⟨rfl, rfl⟩
          go_wp2_with fail
          refine (read_no _ 19 _ HS2 g2).mono ?_; rintro e w' ⟨rfl, rfl⟩
          go_wp2_with fail
          go_ret3
          exact ⟨⟨_, _, rfl⟩, n, rfl⟩
      · clear hg
        rcases two' (Ost.good 19 (Ost.cut1 45 s.data.toList).2.1) with g2 | g2
        · skip
          go_enter Tryz.func137, Tryz.ntmps137
          go_wp2_with fail
          refine (cut_yes s 45 _ hs hm hf).mono ?_; rintro e w' ⟨rfl, n, rfl⟩
          go_wp2_with fail
          refine (read_no _ 19 _ HS1 g1).mono ?_; rintro e w' ⟨rfl, rfl⟩
          go_wp2_with fail
          refine (read_yes _ 19 _ HS2 g2).mono ?_; rintro e w' ⟨rfl, rfl⟩
          go_wp2_with fail
          go_ret3
          exact ⟨⟨_, _, rfl⟩, n, rfl⟩
        · skip
          go_enter Tryz.func137, Tryz.ntmps137
          go_wp2_with fail
          refine (cut_yes s 45 _ hs hm hf).mono ?_; rintro e w' ⟨rfl, n, rfl⟩
          go_wp2_with fail
          refine (read_no _ 19 _ HS1 g1).mono ?_; rintro e w' ⟨rfl, rfl⟩
          go_wp2_with fail
          refine (read_no _ 19 _ HS2 g2).mono ?_; rintro e w' ⟨rfl, rfl⟩
          go_wp2_with fail
          go_ret3
          exact ⟨⟨_, _, rfl⟩, n, rfl⟩
  · rw [if_neg (by rw [hf]; simp)] at h
    split at h
    · cases h
    · rename_i g0
      clear h
      have g1 : Ost.good 19 (Ost.cut1 45 s.data.toList).1 = false := by simpa using g0
      clear g0
      go_enter Tryz.func137, Tryz.ntmps137
      go_wp2_with fail
      refine (cut_no s 45 _ hs hm hf).mono ?_; rintro e w' ⟨rfl, n, rfl⟩
      go_wp2_with fail
      refine (read_no _ 19 _ HS1 g1).mono ?_; rintro e w' ⟨rfl, rfl⟩
      go_wp2_with fail
      go_ret3
      exact ⟨⟨_, _, rfl⟩, n, rfl⟩
end Go.Proofs.YtlljniaobbbjgaaGreatDoor.S1
namespace Go.Proofs.YtlljniaobbbjgaaGreatDoor.S1
open Go.RowKit
theorem m0 : Ost.M0 8 = 6148914691236517205 := by decide +kernel
theorem m1 : Ost.M1 8 = 3689348814741910323 := by decide +kernel
theorem m2 : Ost.M2 8 = 1085102592571150095 := by decide +kernel
theorem andN (a : Nat) (m : Nat) (ha : a < 18446744073709551616) (hm : m < 18446744073709551616) (z : Int) (hz : z = (a : Int)) : bits BinOp.and IntKind.u64 z (m : Int) = ((a &&& m : Nat) : Int) := by
  rw [hz]; exact bits_and_u64_nat a m ha hm
theorem wrapN (n : Nat) (z : Int) (hz : z = (n : Int)) (h : n < 18446744073709551616) : IntKind.u64.wrap z = (n : Int) := by
  rw [IntKind.wrap_u64, hz]; omega
theorem ones1 (A : Nat) (hA : A < 18446744073709551616) : IntKind.u64.wrap (bits BinOp.and IntKind.u64 ((A : Int) / 2) 6148914691236517205 + bits BinOp.and IntKind.u64 (A : Int) 6148914691236517205) = ((Ost.p1 8 A : Nat) : Int) ∧ Ost.p1 8 A < 18446744073709551616 := by
  have e1 := andN (A / 2) 6148914691236517205 (by omega) (by omega) ((A : Int) / 2) (by omega)
  have e2 := andN A 6148914691236517205 hA (by omega) (A : Int) rfl
  have l1 : A / 2 &&& 6148914691236517205 ≤ 6148914691236517205 := Nat.and_le_right
  have l2 : A &&& 6148914691236517205 ≤ 6148914691236517205 := Nat.and_le_right
  have hp : Ost.p1 8 A = (A / 2 &&& 6148914691236517205) + (A &&& 6148914691236517205) := by unfold Ost.p1; rw [m0]
  rw [hp]
  refine ⟨?_, by omega⟩
  apply wrapN _ _ _ (by omega)
  rw [show (6148914691236517205 : Int) = ((6148914691236517205 : Nat) : Int) from rfl, e1, e2]
  omega
theorem ones2 (x : Nat) (hx : x < 18446744073709551616) : IntKind.u64.wrap (bits BinOp.and IntKind.u64 ((x : Int) / 4) 3689348814741910323 + bits BinOp.and IntKind.u64 (x : Int) 3689348814741910323) = ((Ost.p2 8 x : Nat) : Int) ∧ Ost.p2 8 x ≤ 7378697629483820646 := by
  have e1 := andN (x / 4) 3689348814741910323 (by omega) (by omega) ((x : Int) / 4) (by omega)
  have e2 := andN x 3689348814741910323 hx (by omega) (x : Int) rfl
  have l1 : x / 4 &&& 3689348814741910323 ≤ 3689348814741910323 := Nat.and_le_right
  have l2 : x &&& 3689348814741910323 ≤ 3689348814741910323 := Nat.and_le_right
  have hp : Ost.p2 8 x = (x / 4 &&& 3689348814741910323) + (x &&& 3689348814741910323) := by unfold Ost.p2; rw [m1]
  rw [hp]
  refine ⟨?_, by omega⟩
  apply wrapN _ _ _ (by omega)
  rw [show (3689348814741910323 : Int) = ((3689348814741910323 : Nat) : Int) from rfl, e1, e2]
  omega
theorem ones3 (x : Nat) (hx : x ≤ 7378697629483820646) : bits BinOp.and IntKind.u64 (IntKind.u64.wrap ((x : Int) / 16 + (x : Int))) 1085102592571150095 = ((Ost.p3 8 x : Nat) : Int) := by
  have hw := wrapN (x / 16 + x) ((x : Int) / 16 + (x : Int)) (by omega) (by omega)
  rw [hw]
  have hp : Ost.p3 8 x = (x / 16 + x) &&& 1085102592571150095 := by unfold Ost.p3; rw [m2]
  rw [hp]
  exact andN (x / 16 + x) 1085102592571150095 (by omega) (by omega) _ rfl
/-- Eight small numbers, in the eight bytes of one. -/
def num8 (a b c d e f g h : Nat) : Nat := a + 256 * (b + 256 * (c + 256 * (d + 256 * (e + 256 * (f + 256 * (g + 256 * h))))))
theorem num8_lt (a b c d e f g h : Nat) (_ha : a ≤ 64) (_hb : b ≤ 64) (_hc : c ≤ 64) (_hd : d ≤ 64) (_he : e ≤ 64) (_hf : f ≤ 64) (_hg : g ≤ 64) (_hh : h ≤ 64) : num8 a b c d e f g h < 4700000000000000000 := by unfold num8; omega
theorem sh8 (a b c d e f g h : Nat) (_ha : a ≤ 8) (_hb : b ≤ 8) (_hc : c ≤ 8) (_hd : d ≤ 8) (_he : e ≤ 8) (_hf : f ≤ 8) (_hg : g ≤ 8) (_hh : h ≤ 8) :
    num8 a b c d e f g h + num8 a b c d e f g h / 256 = num8 (a + b) (b + c) (c + d) (d + e) (e + f) (f + g) (g + h) h := by
  have : num8 a b c d e f g h / 256 = b + 256 * (c + 256 * (d + 256 * (e + 256 * (f + 256 * (g + 256 * h))))) := by unfold num8; omega
  rw [this]; unfold num8; omega
theorem sh16 (a b c d e f g h : Nat) (_ha : a ≤ 16) (_hb : b ≤ 16) (_hc : c ≤ 16) (_hd : d ≤ 16) (_he : e ≤ 16) (_hf : f ≤ 16) (_hg : g ≤ 16) (_hh : h ≤ 16) :
    num8 a b c d e f g h + num8 a b c d e f g h / 65536 = num8 (a + c) (b + d) (c + e) (d + f) (e + g) (f + h) g h := by
  have : num8 a b c d e f g h / 65536 = c + 256 * (d + 256 * (e + 256 * (f + 256 * (g + 256 * h)))) := by unfold num8; omega
  rw [this]; unfold num8; omega
theorem sh32 (a b c d e f g h : Nat) (_ha : a ≤ 32) (_hb : b ≤ 32) (_hc : c ≤ 32) (_hd : d ≤ 32) (_he : e ≤ 32) (_hf : f ≤ 32) (_hg : g ≤ 32) (_hh : h ≤ 32) :
    num8 a b c d e f g h + num8 a b c d e f g h / 4294967296 = num8 (a + e) (b + f) (c + g) (d + h) e f g h := by
  have : num8 a b c d e f g h / 4294967296 = e + 256 * (f + 256 * (g + 256 * h)) := by unfold num8; omega
  rw [this]; unfold num8; omega
theorem num8_mod (a b c d e f g h : Nat) (_ha : a ≤ 64) : num8 a b c d e f g h % 128 = a := by unfold num8; omega
/-- All steps' numbers. -/
theorem steps (A : Nat) (hA : A < 18446744073709551616) : ∃ x1 x2 X Y Z V : Nat,
    IntKind.u64.wrap (bits BinOp.and IntKind.u64 ((A : Int) / 2) 6148914691236517205 + bits BinOp.and IntKind.u64 (A : Int) 6148914691236517205) = (x1 : Int) ∧
    IntKind.u64.wrap (bits BinOp.and IntKind.u64 ((x1 : Int) / 4) 3689348814741910323 + bits BinOp.and IntKind.u64 (x1 : Int) 3689348814741910323) = (x2 : Int) ∧
    bits BinOp.and IntKind.u64 (IntKind.u64.wrap ((x2 : Int) / 16 + (x2 : Int))) 1085102592571150095 = (X : Int) ∧
    IntKind.u64.wrap ((X : Int) + (X : Int) / 256) = (Y : Int) ∧ IntKind.u64.wrap ((Y : Int) + (Y : Int) / 65536) = (Z : Int) ∧ IntKind.u64.wrap ((Z : Int) + (Z : Int) / 4294967296) = (V : Int) ∧
    V % 128 = (Ost.listTo A 64).length ∧ V < 4700000000000000000 := by
  obtain ⟨a, b, c, d, e, f, g, h, ha, hb, hc, hd, he, hf, hg, hh, hX, hS⟩ := Ost.pop_sum A
  have h1 := ones1 A hA
  have h2 := ones2 (Ost.p1 8 A) h1.2
  have h3 := ones3 (Ost.p2 8 (Ost.p1 8 A)) h2.2
  have hX2 : Ost.p3 8 (Ost.p2 8 (Ost.p1 8 A)) = num8 a b c d e f g h := hX
  rw [hX2] at h3
  have l1 := num8_lt a b c d e f g h (by omega) (by omega) (by omega) (by omega) (by omega) (by omega) (by omega) (by omega)
  have s1 := sh8 a b c d e f g h ha hb hc hd he hf hg hh
  have l2 := num8_lt (a + b) (b + c) (c + d) (d + e) (e + f) (f + g) (g + h) h (by omega) (by omega) (by omega) (by omega) (by omega) (by omega) (by omega) (by omega)
  have s2 := sh16 (a + b) (b + c) (c + d) (d + e) (e + f) (f + g) (g + h) h (by omega) (by omega) (by omega) (by omega) (by omega) (by omega) (by omega) (by omega)
  have l3 := num8_lt (a + b + (c + d)) (b + c + (d + e)) (c + d + (e + f)) (d + e + (f + g)) (e + f + (g + h)) (f + g + h) (g + h) h (by omega) (by omega) (by omega) (by omega) (by omega) (by omega) (by omega) (by omega)
  have s3 := sh32 (a + b + (c + d)) (b + c + (d + e)) (c + d + (e + f)) (d + e + (f + g)) (e + f + (g + h)) (f + g + h) (g + h) h (by omega) (by omega) (by omega) (by omega) (by omega) (by omega) (by omega) (by omega)
  have l4 := num8_lt (a + b + (c + d) + (e + f + (g + h))) (b + c + (d + e) + (f + g + h)) (c + d + (e + f) + (g + h)) (d + e + (f + g) + h) (e + f + (g + h)) (f + g + h) (g + h) h (by omega) (by omega) (by omega) (by omega) (by omega) (by omega) (by omega) (by omega)
  refine ⟨_, _, _, num8 (a + b) (b + c) (c + d) (d + e) (e + f) (f + g) (g + h) h, num8 (a + b + (c + d)) (b + c + (d + e)) (c + d + (e + f)) (d + e + (f + g)) (e + f + (g + h)) (f + g + h) (g + h) h, _, h1.1, h2.1, h3, ?_, ?_, ?_, num8_mod (a + b + (c + d) + (e + f + (g + h))) (b + c + (d + e) + (f + g + h)) (c + d + (e + f) + (g + h)) (d + e + (f + g) + h) (e + f + (g + h)) (f + g + h) (g + h) h (by omega) |>.trans (by rw [hS]; omega), l4⟩
  · exact wrapN _ _ (by rw [← s1]; simp) (by omega)
  · exact wrapN _ _ (by rw [← s2]; simp) (by omega)
  · exact wrapN _ _ (by rw [← s3]; simp) (by omega)
end Go.Proofs.YtlljniaobbbjgaaGreatDoor.S1
namespace Go.Proofs.YtlljniaobbbjgaaGreatDoor.S1
open Go.RowKit
/-- What 'digits' answers. -/
def digOut (m : Int) (l : List UInt8) : Value := if Ost.isNum l then .tuple #[.int .i64 (min (Ost.val l) (m + 1)), .bool true] else .tuple #[.int .i64 0, .bool false]
theorem digOut_yes {m : Int} {l : List UInt8} (h : Ost.isNum l = true) : digOut m l = .tuple #[.int .i64 (min (Ost.val l) (m + 1)), .bool true] := by simp [digOut, h]
theorem digOut_no {m : Int} {l : List UInt8} (h : Ost.isNum l = false) : digOut m l = .tuple #[.int .i64 0, .bool false] := by simp [digOut, h]
/-- The running number, held still once it is above a bound. -/
def sat (m : Int) (n : Int) (b : UInt8) : Int := if n ≤ m then Ost.step n b else n
def satv (m : Int) (l : List UInt8) : Int := l.foldl (sat m) 0
theorem satv_snoc (m : Int) (l : List UInt8) (b : UInt8) : satv m (l ++ [b]) = sat m (satv m l) b := by simp [satv]
theorem satv_min (m : Int) (hm : 0 ≤ m) (l : List UInt8) (h : Ost.allDig l = true) : 0 ≤ satv m l ∧ satv m l ≤ 10 * m + 9 ∧ (satv m l ≤ m → satv m l = Ost.val l) ∧ (m < satv m l → m < Ost.val l) := by
  have key : ∀ r : List UInt8, Ost.allDig r.reverse = true → 0 ≤ satv m r.reverse ∧ satv m r.reverse ≤ 10 * m + 9 ∧ (satv m r.reverse ≤ m → satv m r.reverse = Ost.val r.reverse) ∧ (m < satv m r.reverse → m < Ost.val r.reverse) := by
    intro r
    induction r with
    | nil => intro _; simp [satv, Ost.val]; omega
    | cons b r ih =>
      intro hd
      rw [List.reverse_cons, Ost.allDig_snoc, Bool.and_eq_true] at hd
      obtain ⟨a1, a2, a3, a4⟩ := ih hd.1
      have hb := (Ost.isDig_iff b).1 hd.2
      rw [List.reverse_cons, satv_snoc, Ost.val_snoc]
      unfold sat
      by_cases hle : satv m r.reverse ≤ m
      · have e := a3 hle
        rw [if_pos hle]
        unfold Ost.step
        rw [e] at a1 hle ⊢
        omega
      · have e := a4 (by omega)
        rw [if_neg hle]
        unfold Ost.step
        omega
  have := key l.reverse (by simpa using h)
  simpa using this
set_option maxHeartbeats 400000 in
theorem digits_any (s : ByteArray) (m : Int) (w : World) (hs : s.size ≤ maxLen) (hm0 : 0 ≤ m) (hm1 : m ≤ 2000000000000000) :
    Calls Tryz.prog 73 #[.string s, .int .i64 m] w fun e w' => e = .returned (digOut m s.data.toList) ∧ w' = w := by
  unfold maxLen at hs
  have HL : Hid (s.data.toList.length = s.size) := by unfold Hid; simp
  by_cases he : s.size = 0
  · have hem : s.toList.isEmpty = true := by rw [Ost.toList_isEmpty]; simp [he]
    have H : Hid (digOut m s.data.toList = .tuple #[.int .i64 0, .bool false]) := digOut_no (by
      cases hh : Ost.isNum s.data.toList with
      | false => rfl
      | true => exact absurd (List.eq_nil_of_length_eq_zero (HL.out.trans he)) ((Ost.isNum_iff _).1 hh).1)
    clear he
    go_enter Tryz.func73, Tryz.ntmps73
    go_wp2_with fail
    go_ret2
    exact ⟨congrArg Ending.returned H.out.symm, rfl⟩
  have hem : s.toList.isEmpty = false := by rw [Ost.toList_isEmpty]; simp [he]
  have he' : 0 < s.size := by omega
  clear he
  by_cases hz : 1 < s.size ∧ s[0].toNat = 48
  · have H : Hid (digOut m s.data.toList = .tuple #[.int .i64 0, .bool false]) := digOut_no (by
      cases hh : Ost.isNum s.data.toList with
      | false => rfl
      | true => exact absurd ⟨by rw [HL.out]; exact hz.1, by rw [Ost.head_s s he']; exact (Ost.u8_eq _ 48 (by omega)).2 hz.2⟩ ((Ost.isNum_iff _).1 hh).2.1)
    have h1 : 1 < s.size := hz.1
    have h2 : ((s[0].toNat : Int) == 48) = true := by simp; omega
    clear hz
    go_enter Tryz.func73, Tryz.ntmps73
    go_wp2_with fail
    go_ret2
    exact ⟨congrArg Ending.returned H.out.symm, rfl⟩
  have HZ : Hid (¬ (1 < s.data.toList.length ∧ s.data.toList.headD 0 = 48)) := by
    rintro ⟨a, b⟩
    rw [Ost.head_s s he'] at b
    exact hz ⟨by rw [HL.out] at a; exact a, (Ost.u8_eq _ 48 (by omega)).1 b⟩
  have key : ((s[0].toNat : Int) == 48) = false ∨ (((s[0].toNat : Int) == 48) = true ∧ ¬ 1 < s.size) := by
    by_cases h : s[0].toNat = 48
    · exact .inr ⟨by simp; omega, fun a => hz ⟨a, h⟩⟩
    · exact .inl (by simp; omega)
  clear hz
  rcases key with h2 | ⟨h2, h1⟩
  all_goals
    go_enter Tryz.func73, Tryz.ntmps73
    go_wp2_with fail
    go_loop [6, 7] (fun n i => ∃ k : Nat, k ≤ s.size ∧ i = .int .i64 k ∧ Hid (Ost.allDig (s.data.toList.take k) = true) ∧ n = .int .i64 (satv m (s.data.toList.take k))) (fun _ i => s.size - (intOf i).toNat)
    case atStart => exact ⟨0, Nat.zero_le _, rfl, rfl, rfl⟩
    case round =>
      obtain ⟨k, hk, rfl, HD, rfl⟩ := hrel
      have hv := satv_min m hm0 (s.data.toList.take k) HD.out
      have hv0 := hv.1
      have hv1 := hv.2.1
      have HV2 := hideIt hv.2.2
      clear hv
      by_cases hlt : k < s.size
      · have hts := Ost.take_snoc s k hlt
        rcases two (Ost.isDig s[k]) with hb | hb
        · have hb1 := ((Ost.isDig_iff s[k]).1 hb).1
          have hb2 := ((Ost.isDig_iff s[k]).1 hb).2
          have HA : Hid (Ost.allDig (s.data.toList.take (k + 1)) = true) := by
            rw [hts, Ost.allDig_snoc, HD.out, hb]; rfl
          have HW : Hid (satv m (s.data.toList.take (k + 1)) = sat m (satv m (s.data.toList.take k)) s[k]) := by
            rw [hts, satv_snoc]; rfl
          clear hts hb
          by_cases hle : satv m (s.data.toList.take k) ≤ m
          · have HS : Hid (satv m (s.data.toList.take (k + 1)) = 10 * satv m (s.data.toList.take k) + ((s[k].toNat : Int) - 48)) := by
              rw [HW.out, sat, if_pos hle]; unfold Ost.step Hid; omega
            go_wp2_with fail
            go_round
            case rel => exact ⟨k + 1, by omega, by go_num, HA, by rw [HS.out]⟩
            case measure => simp [intOf]; omega
          · have HS : Hid (satv m (s.data.toList.take (k + 1)) = satv m (s.data.toList.take k)) := by
              rw [HW.out, sat, if_neg hle]; rfl
            go_wp2_with fail
            go_round
            case rel => exact ⟨k + 1, by omega, by go_num, HA, by rw [HS.out]⟩
            case measure => simp [intOf]; omega
        · have H : Hid (digOut m s.data.toList = .tuple #[.int .i64 0, .bool false]) := digOut_no (by
            cases hh : Ost.isNum s.data.toList with
            | false => rfl
            | true =>
              have := ((Ost.isNum_iff _).1 hh).2.2
              rw [Ost.allDig_get s.data.toList k (by rw [HL.out]; exact hlt) hb] at this
              cases this)
          have hb1 := (Ost.isDig_not s[k]).1 hb
          have hb2 : s[k].toNat < 48 ∨ (48 ≤ s[k].toNat ∧ 57 < s[k].toNat) := by omega
          clear hts hb hb1
          rcases hb2 with hb2 | ⟨hb1, hb2⟩
          all_goals
            go_wp2_with fail
            go_ret2
            exact ⟨congrArg Ending.returned H.out.symm, rfl⟩
      · have H : Hid (digOut m s.data.toList = .tuple #[.int .i64 (min (satv m (s.data.toList.take k)) (m + 1)), .bool true]) := by
          have hfull : s.data.toList.take k = s.data.toList := List.take_of_length_le (by rw [HL.out]; omega)
          have hg : Ost.isNum s.data.toList = true := by
            rw [Ost.isNum_iff]
            refine ⟨fun h0 => ?_, HZ.out, ?_⟩
            · have := HL.out; rw [h0] at this; simp at this; omega
            · have := HD.out; rw [hfull] at this; exact this
          unfold Hid
          rw [digOut_yes hg]
          have h4 := HV2.out
          rw [hfull] at h4 ⊢
          have : min (Ost.val s.data.toList) (m + 1) = min (satv m s.data.toList) (m + 1) := by
            by_cases h5 : satv m s.data.toList ≤ m
            · rw [h4.1 h5]
            · have := h4.2 (by omega); omega
          rw [this]
        go_wp2_with fail
        go_ret2
        exact ⟨congrArg Ending.returned H.out.symm, rfl⟩
theorem digits_yes (s : ByteArray) (m k : Int) (w : World) (hs : s.size ≤ maxLen) (hm0 : 0 ≤ m) (hm1 : m ≤ 2000000000000000) (h : Ost.isNum s.data.toList = true) (hk : min (Ost.val s.data.toList) (m + 1) = k) :
    Calls Tryz.prog 73 #[.string s, .int .i64 m] w fun e w' => e = .returned (.tuple #[.int .i64 k, .bool true]) ∧ w' = w := by
  have := digits_any s m w hs hm0 hm1
  rw [digOut_yes h, hk] at this; exact this
theorem digits_no (s : ByteArray) (m : Int) (w : World) (hs : s.size ≤ maxLen) (hm0 : 0 ≤ m) (hm1 : m ≤ 2000000000000000) (h : Ost.isNum s.data.toList = false) :
    Calls Tryz.prog 73 #[.string s, .int .i64 m] w fun e w' => e = .returned (.tuple #[.int .i64 0, .bool false]) ∧ w' = w := by
  have := digits_any s m w hs hm0 hm1
  rw [digOut_no h] at this; exact this
end Go.Proofs.YtlljniaobbbjgaaGreatDoor.S1
namespace Go.Proofs.YtlljniaobbbjgaaGreatDoor
open Go.RowKit
open Dvs (Dv dv0 dv nth isLet isNum okB allTo nameMay)
set_option maxHeartbeats 400000 in
theorem letter_any (x : UInt8) (w : World) : Calls Tryz.prog 107 #[.int .u8 x.toNat] w fun e w' => e = .returned (.bool (isLet x)) ∧ w' = w := by
  unfold isLet
  by_cases h1 : 97 ≤ x.toNat
  all_goals by_cases h2 : x.toNat ≤ 122
  · go_enter Tryz.func107, Tryz.ntmps107
    go_wp2_with fail
    go_ret
    refine ⟨?_, rfl⟩
    simp [h1, h2]
    try omega
  · go_enter Tryz.func107, Tryz.ntmps107
    go_wp2_with fail
    go_ret
    refine ⟨?_, rfl⟩
    simp [h1, h2]
    try omega
  · go_enter Tryz.func107, Tryz.ntmps107
    go_wp2_with fail
    go_ret
    refine ⟨?_, rfl⟩
    simp
    try omega
  · omega
theorem digit_bool (x : UInt8) (w : World) : Calls Tryz.prog 106 #[.int .u8 x.toNat] w fun e w' => (∃ n, e = .returned (.tuple #[.int .i64 n, .bool (isNum x)])) ∧ w' = w := by
  cases h : isNum x
  · exact (digit_no x w h).mono fun e w' ⟨he, hw⟩ => ⟨⟨_, he⟩, hw⟩
  · exact (digit_yes x w h).mono fun e w' ⟨he, hw⟩ => ⟨⟨_, he⟩, hw⟩
set_option maxHeartbeats 1000000 in
theorem name_any (s : ByteArray) (w : World) : Calls Tryz.prog 83 #[.string s] w fun e w' => e = .returned (.bool (nameMay s)) ∧ w' = w := by
  by_cases he : s.size = 0
  · have hem : s.toList.isEmpty = true := by rw [Ost.toList_isEmpty]; simp [he]
    rw [Dvs.nameMay_none he]
    clear he
    go_enter Tryz.func83, Tryz.ntmps83
    go_wp2_with fail
    go_ret
    exact ⟨rfl, rfl⟩
  have hem : s.toList.isEmpty = false := by rw [Ost.toList_isEmpty]; simp [he]
  by_cases h8 : 8 < s.size
  · rw [Dvs.nameMay_long h8]
    go_enter Tryz.func83, Tryz.ntmps83
    go_wp2_with fail
    go_ret
    exact ⟨rfl, rfl⟩
  have h8' : s.size ≤ 8 := by omega
  rw [Dvs.nameMay_all (by omega) h8']
  clear h8 he
  go_enter Tryz.func83, Tryz.ntmps83
  go_wp2_with fail
  go_loop [15] (fun i => ∃ k : Nat, k ≤ s.size ∧ i = .int .i64 k ∧ Hid (allTo (okB s) k = true)) (fun i => s.size - (intOf i).toNat)
  case atStart => exact ⟨0, Nat.zero_le _, rfl, rfl⟩
  case round =>
    obtain ⟨k, hk, rfl, HA⟩ := hrel
    by_cases hlt : k < s.size
    · have HO := hideIt (Dvs.okB_at s k hlt)
      rcases two (isLet s[k]) with hl | hl
      · have HN : Hid (allTo (okB s) (k + 1) = true) := Dvs.allTo_yes HA.out (by rw [HO.out, hl]; rfl)
        go_wp2_with fail
        refine (digit_bool _ _).mono ?_
        rintro e w1 ⟨⟨n, rfl⟩, rfl⟩
        go_wp2_with fail
        refine (letter_any _ _).mono ?_
        rintro e w1 ⟨rfl, rfl⟩
        rw [hl]
        go_wp2_with fail
        go_round
        case rel => exact ⟨k + 1, by omega, by go_num, HN⟩
        case measure => simp [intOf]; omega
      · rcases two (isNum s[k]) with hn | hn
        · by_cases h0 : 0 < k
          · have HN : Hid (allTo (okB s) (k + 1) = true) := Dvs.allTo_yes HA.out (by rw [HO.out, hl, hn, decide_eq_true h0]; rfl)
            go_wp2_with fail
            refine (digit_bool _ _).mono ?_
            rintro e w1 ⟨⟨n, rfl⟩, rfl⟩
            rw [hn]
            go_wp2_with fail
            refine (letter_any _ _).mono ?_
            rintro e w1 ⟨rfl, rfl⟩
            rw [hl]
            go_wp2_with fail
            go_round
            case rel => exact ⟨k + 1, by omega, by go_num, HN⟩
            case measure => simp [intOf]; omega
          · have HN : Hid (allTo (okB s) s.size = false) := Dvs.allTo_no (k := k) (by rw [HO.out, hl, hn, decide_eq_false h0]; rfl) hlt
            have hk0 : k = 0 := by omega
            subst hk0
            go_wp2_with fail
            refine (digit_bool _ _).mono ?_
            rintro e w1 ⟨⟨n, rfl⟩, rfl⟩
            rw [hn]
            go_wp2_with fail
            refine (letter_any _ _).mono ?_
            rintro e w1 ⟨rfl, rfl⟩
            rw [hl]
            go_wp2_with fail
            go_ret
            exact ⟨congrArg (fun b => Ending.returned (.bool b)) HN.out.symm, rfl⟩
        · have HN : Hid (allTo (okB s) s.size = false) := Dvs.allTo_no (k := k) (by rw [HO.out, hl, hn]; rfl) hlt
          go_wp2_with fail
          refine (digit_bool _ _).mono ?_
          rintro e w1 ⟨⟨n, rfl⟩, rfl⟩
          rw [hn]
          go_wp2_with fail
          refine (letter_any _ _).mono ?_
          rintro e w1 ⟨rfl, rfl⟩
          rw [hl]
          go_wp2_with fail
          go_ret
          exact ⟨congrArg (fun b => Ending.returned (.bool b)) HN.out.symm, rfl⟩
    · have hke : k = s.size := by omega
      have HN : Hid (allTo (okB s) s.size = true) := by rw [← hke]; exact HA
      clear hke HA
      go_wp2_with fail
      go_ret
      exact ⟨congrArg (fun b => Ending.returned (.bool b)) HN.out.symm, rfl⟩
set_option maxHeartbeats 1000000 in
theorem may_any (s : ByteArray) (w : World) : Calls Tryz.prog 52 #[.string s] w fun e w' => e = .returned (.bool (nameMay s)) ∧ w' = w := by
  by_cases he : s.size = 0
  · rw [Dvs.nameMay_none he]
    go_enter Tryz.func52, Tryz.ntmps52
    go_wp2_with fail
    all_goals
      go_ret
      exact ⟨rfl, rfl⟩
  have he' : 1 ≤ s.size := by omega
  by_cases h8 : 8 < s.size
  · rw [Dvs.nameMay_long h8]
    clear he
    go_enter Tryz.func52, Tryz.ntmps52
    go_wp2_with fail
    all_goals
      go_ret
      exact ⟨rfl, rfl⟩
  have h8' : s.size ≤ 8 := by omega
  rw [Dvs.nameMay_all (by omega) h8']
  clear h8 he
  have HB := hideIt (Dvs.okB_at s 0 (by omega))
  by_cases hf : 97 ≤ s[0].toNat ∧ s[0].toNat ≤ 122
  · obtain ⟨f1, f2⟩ := hf
    have HF := hideIt f1
    go_enter Tryz.func52, Tryz.ntmps52
    go_wp2_with fail
    go_loop [3] (fun i => ∃ k : Nat, k ≤ s.size ∧ i = .int .i64 k ∧ Hid (allTo (okB s) k = true)) (fun i => s.size - (intOf i).toNat)
    case atStart => exact ⟨0, Nat.zero_le _, rfl, rfl⟩
    case round =>
      obtain ⟨k, hk, rfl, HA⟩ := hrel
      by_cases hlt : k < s.size
      · have HO := hideIt (Dvs.okB_at s k hlt)
        have HD : Hid (s[k].toNat ≤ 57 → 0 < k) := fun h => by
          rcases Nat.eq_zero_or_pos k with e | e
          · subst e; have := HF.out; omega
          · exact e
        clear f1 f2
        unfold isLet isNum at HO
        have key : (97 ≤ s[k].toNat ∧ s[k].toNat ≤ 122) ∨ (97 ≤ s[k].toNat ∧ 122 < s[k].toNat) ∨ (s[k].toNat < 97 ∧ 48 ≤ s[k].toNat ∧ s[k].toNat ≤ 57) ∨ (s[k].toNat < 97 ∧ 48 ≤ s[k].toNat ∧ 57 < s[k].toNat) ∨ (s[k].toNat < 97 ∧ s[k].toNat < 48) := by omega
        rcases key with ⟨g1, g2⟩ | ⟨g1, g2⟩ | ⟨g1, g2, g3⟩ | ⟨g1, g2, g3⟩ | ⟨g1, g2⟩
        · have b0 : decide ((s[k].toNat : Int) ≤ 122) = true := by simp; omega
          have HN : Hid (allTo (okB s) (k + 1) = true) := Dvs.allTo_yes HA.out (by rw [HO.out]; simp; omega)
          clear HO HD
          go_wp2_with fail
          go_round
          case rel => exact ⟨k + 1, by omega, by go_num, HN⟩
          case measure => simp [intOf]; omega
        · have b0 : decide ((s[k].toNat : Int) ≤ 122) = false := by simp; omega
          have b1 : decide ((s[k].toNat : Int) ≤ 57) = false := by simp; omega
          have HN : Hid (allTo (okB s) s.size = false) := Dvs.allTo_no (k := k) (by rw [HO.out]; simp; omega) hlt
          clear HO HD
          go_wp2_with fail
          go_ret
          exact ⟨congrArg (fun b => Ending.returned (.bool b)) HN.out.symm, rfl⟩
        · have b0 : decide ((s[k].toNat : Int) ≤ 57) = true := by simp; omega
          have HN : Hid (allTo (okB s) (k + 1) = true) := Dvs.allTo_yes HA.out (by rw [HO.out]; have := HD.out g3; simp; omega)
          clear HO HD
          go_wp2_with fail
          go_round
          case rel => exact ⟨k + 1, by omega, by go_num, HN⟩
          case measure => simp [intOf]; omega
        · have b0 : decide ((s[k].toNat : Int) ≤ 57) = false := by simp; omega
          have HN : Hid (allTo (okB s) s.size = false) := Dvs.allTo_no (k := k) (by rw [HO.out]; simp; omega) hlt
          clear HO HD
          go_wp2_with fail
          go_ret
          exact ⟨congrArg (fun b => Ending.returned (.bool b)) HN.out.symm, rfl⟩
        · have HN : Hid (allTo (okB s) s.size = false) := Dvs.allTo_no (k := k) (by rw [HO.out]; simp; omega) hlt
          clear HO HD
          go_wp2_with fail
          go_ret
          exact ⟨congrArg (fun b => Ending.returned (.bool b)) HN.out.symm, rfl⟩
      · have hke : k = s.size := by omega
        have HN : Hid (allTo (okB s) s.size = true) := by rw [← hke]; exact HA
        clear hke HA
        go_wp2_with fail
        go_ret
        exact ⟨congrArg (fun b => Ending.returned (.bool b)) HN.out.symm, rfl⟩
  · have HN : Hid (allTo (okB s) s.size = false) := Dvs.allTo_no (k := 0) (by rw [HB.out]; unfold isLet; simp; omega) (by omega)
    have key : s[0].toNat < 97 ∨ (97 ≤ s[0].toNat ∧ 122 < s[0].toNat) := by omega
    clear hf HB
    rcases key with g1 | ⟨g1, g2⟩
    all_goals
      go_enter Tryz.func52, Tryz.ntmps52
      go_wp2_with fail
      all_goals
        go_ret
        exact ⟨congrArg (fun b => Ending.returned (.bool b)) HN.out.symm, rfl⟩
end Go.Proofs.YtlljniaobbbjgaaGreatDoor
namespace Go.Proofs.YtlljniaobbbjgaaGreatDoor
open Go.RowKit
open Dvs (Dv dv0 dv nth)
/-- A pool: its devices, and which of them are used. -/
structure PoolAt (w : World) (pb db : Nat) (ao : Option Addr) (c : Nat) (ds : List Dv) (us : Nat → Bool) : Prop where
  row : w.cell? ⟨pb, 0, none⟩ = some (.slice ao ds.length c)
  at0 : 0 < ds.length → ao = some ⟨db, 0, none⟩ ∧ db ≠ pb ∧ db < w.heap.size
  cells : ∀ k, k < ds.length → w.cell? ⟨db, k * 3, none⟩ = some (.string (dv ds k).kind) ∧ w.cell? ⟨db, k * 3 + 1, none⟩ = some (.int .i64 (dv ds k).node) ∧ w.cell? ⟨db, k * 3 + 2, none⟩ = some (.bool (dv ds k).sick) ∧ w.frozen? ⟨db, k * 3 + 2, none⟩ = false
  used : ∀ j, j < 16 → w.cell? ⟨pb, 1 + j, none⟩ = some (.bool (us j)) ∧ w.frozen? ⟨pb, 1 + j, none⟩ = false
theorem PoolAt.lt {w : World} {pb db : Nat} {ao : Option Addr} {c : Nat} {ds : List Dv} {us : Nat → Bool} (h : PoolAt w pb db ao c ds us) : pb < w.heap.size := World.block_lt_of_cell? w _ h.row
theorem PoolAt.kept {w w' : World} {pb db : Nat} {ao : Option Addr} {c : Nat} {ds : List Dv} {us : Nat → Bool} {g : Option Nat} (h : PoolAt w pb db ao c ds us) (hg : w.grownBy w' g) (h1 : some pb ≠ g) (h2 : 0 < ds.length → some db ≠ g) : PoolAt w' pb db ao c ds us := by
  refine ⟨(hg.cell_far _ h.lt h1).trans h.row, fun h0 => ⟨(h.at0 h0).1, (h.at0 h0).2.1, Nat.lt_of_lt_of_le (h.at0 h0).2.2 hg.size⟩, fun k hk => ?_, fun j hj => ?_⟩
  · obtain ⟨c1, c2, c3, c4⟩ := h.cells k hk
    have h0 : 0 < ds.length := by omega
    have hlt := (h.at0 h0).2.2
    exact ⟨(hg.cell_far _ hlt (h2 h0)).trans c1, (hg.cell_far _ hlt (h2 h0)).trans c2, (hg.cell_far _ hlt (h2 h0)).trans c3, (hg.frozen_far _ hlt (h2 h0)).trans c4⟩
  · obtain ⟨c1, c2⟩ := h.used j hj
    exact ⟨(hg.cell_far _ h.lt h1).trans c1, (hg.frozen_far _ h.lt h1).trans c2⟩
theorem grown_setCell (w : World) (a : Addr) (u : Value) : w.grownBy (w.setCell a u) (some a.block) :=
  ⟨rfl, rfl, rfl, by simp, fun k _ hne => Below.heap_setCell _ _ _ _ (fun e => hne (by rw [e]))⟩
theorem grown_below {w w' : World} (h : Below w.heap.size w w') (g : Option Nat) : w.grownBy w' g := ⟨h.os, h.tape, h.output, h.size, fun k hk _ => h.block k hk⟩
theorem below_grown {w w' : World} {g : Option Nat} (h : w.grownBy w' g) {K : Nat} (hK : K ≤ w.heap.size) (hg : ∀ j, g = some j → K ≤ j) : Below K w w' :=
  ⟨h.os, h.tape, h.output, h.size, fun k hk => h.block k (by omega) (fun e => by have := hg k e.symm; omega)⟩
theorem grown_refl (w : World) (g : Option Nat) : w.grownBy w g := ⟨rfl, rfl, rfl, Nat.le_refl _, fun _ _ _ => rfl⟩
theorem grown_drewN {w w' : World} {g : Option Nat} (h : w.grownBy w' g) (n : Nat) : w.grownBy (w'.drewN n) g := ⟨h.os, h.tape, h.output, h.size, h.block⟩
theorem PoolAt.below {w w' : World} {pb db : Nat} {ao : Option Addr} {c : Nat} {ds : List Dv} {us : Nat → Bool} (h : PoolAt w pb db ao c ds us) (hb : Below w.heap.size w w') : PoolAt w' pb db ao c ds us := h.kept (grown_below hb none) (by simp) (by simp)
theorem PoolAt.drewN {w : World} {pb db : Nat} {ao : Option Addr} {c : Nat} {ds : List Dv} {us : Nat → Bool} (h : PoolAt w pb db ao c ds us) (n : Nat) : PoolAt (w.drewN n) pb db ao c ds us := h.below (below_drewN (Below.refl _ w) n)
theorem PoolAt.alloc {w : World} {pb db : Nat} {ao : Option Addr} {c : Nat} {ds : List Dv} {us : Nat → Bool} (h : PoolAt w pb db ao c ds us) (o : Obj) : PoolAt (w.alloc o) pb db ao c ds us := h.below ((Below.refl _ w).alloc (Nat.le_refl _) o)
/-- One is used, or is not any more. -/
theorem PoolAt.set {w : World} {pb db : Nat} {ao : Option Addr} {c : Nat} {ds : List Dv} {us vs : Nat → Bool} (h : PoolAt w pb db ao c ds us) {m : Nat} (hm : m < 16) (b : Bool) (hv : ∀ j, j < 16 → vs j = if j = m then b else us j) : PoolAt (w.setCell ⟨pb, 1 + m, none⟩ (.bool b)) pb db ao c ds vs := by
  have hne : ∀ x, x ≠ 1 + m → (⟨pb, 1 + m, none⟩ : Addr) ≠ ⟨pb, x, none⟩ := fun x hx e => by cases e; exact hx rfl
  refine ⟨?_, fun h0 => ⟨(h.at0 h0).1, (h.at0 h0).2.1, by simpa using (h.at0 h0).2.2⟩, fun k hk => ?_, fun j hj => ?_⟩
  · rw [World.cell?_setCell_other (h := hne 0 (by omega))]
    exact h.row
  · obtain ⟨c1, c2, c3, c4⟩ := h.cells k hk
    have h0 : 0 < ds.length := by omega
    have hd := (h.at0 h0).2.1
    have hlt := (h.at0 h0).2.2
    have hg := grown_setCell w ⟨pb, 1 + m, none⟩ (.bool b)
    have hn : some db ≠ some pb := by simpa using hd
    exact ⟨(hg.cell_far _ hlt hn).trans c1, (hg.cell_far _ hlt hn).trans c2, (hg.cell_far _ hlt hn).trans c3, (hg.frozen_far _ hlt hn).trans c4⟩
  · obtain ⟨cj, z⟩ := h.used j hj
    obtain ⟨cm, _⟩ := h.used m hm
    refine ⟨?_, (World.frozen?_setCell ..).trans z⟩
    rw [hv j hj]
    by_cases e : j = m
    · subst e
      simp
      clear cj hv hne
      go_simp
    · rw [if_neg e, World.cell?_setCell_other (h := hne (1 + j) (by omega))]
      exact cj
/-- One is sick, or is not any more. -/
theorem PoolAt.sicken {w : World} {pb db : Nat} {ao : Option Addr} {c : Nat} {ds : List Dv} {us : Nat → Bool} (h : PoolAt w pb db ao c ds us) {n : Nat} (hn : n < ds.length) (b : Bool) : PoolAt (w.setCell ⟨db, n * 3 + 2, none⟩ (.bool b)) pb db ao c (Dvs.sicken ds n b) us := by
  have h0 : 0 < ds.length := by omega
  obtain ⟨ha, hd, hlt⟩ := h.at0 h0
  have hg := grown_setCell w ⟨db, n * 3 + 2, none⟩ (.bool b)
  have hnp : some pb ≠ some db := by simpa using fun e => hd e.symm
  have hne : ∀ x, x ≠ n * 3 + 2 → (⟨db, n * 3 + 2, none⟩ : Addr) ≠ ⟨db, x, none⟩ := fun x hx e => by cases e; exact hx rfl
  refine ⟨?_, fun _ => ⟨ha, hd, by simpa using hlt⟩, fun k hk => ?_, fun j hj => ?_⟩
  · rw [Dvs.sicken_len]
    exact (hg.cell_far _ h.lt hnp).trans h.row
  · rw [Dvs.sicken_len] at hk
    obtain ⟨c1, c2, c3, c4⟩ := h.cells k hk
    rw [Dvs.sicken_at hn]
    refine ⟨?_, ?_, ?_, (World.frozen?_setCell ..).trans c4⟩
    · rw [World.cell?_setCell_other (h := hne _ (by omega)), c1]; split
      · rename_i e; rw [e]
      · rfl
    · rw [World.cell?_setCell_other (h := hne _ (by omega)), c2]; split
      · rename_i e; rw [e]
      · rfl
    · by_cases e : k = n
      · subst e
        simp
        clear hne hg
        go_simp
      · rw [if_neg e, World.cell?_setCell_other (h := hne _ (by omega)), c3]
  · obtain ⟨c1, c2⟩ := h.used j hj
    exact ⟨(hg.cell_far _ h.lt hnp).trans c1, (hg.frozen_far _ h.lt hnp).trans c2⟩
theorem NumsAt.kept {w w' : World} {v : Value} {g o : Nat} {l : List Int} {r : Option Nat} (h : NumsAt w v g o l) (hg : w.grownBy w' r) (hr : 0 < l.length → some g ≠ r) : NumsAt w' v g o l := by
  obtain ⟨ao, c, hv, hc⟩ := h
  refine ⟨ao, c, hv, fun h0 => ?_⟩
  obtain ⟨h1, h2, h3⟩ := hc h0
  exact ⟨h1, Nat.lt_of_lt_of_le h2 hg.size, fun k hk => (hg.cell_far _ h2 (hr h0)).trans (h3 k hk)⟩
theorem NumsAt.below {w w' : World} {v : Value} {g o : Nat} {l : List Int} (h : NumsAt w v g o l) (hb : Below w.heap.size w w') : NumsAt w' v g o l := h.kept (grown_below hb none) (by simp)
theorem DevsAt.below {w w' : World} {v : Value} {g o : Nat} {ds : List Dv} (h : DevsAt w v g o ds) (hb : Below w.heap.size w w') : DevsAt w' v g o ds := by
  obtain ⟨ao, c, hv, hc⟩ := h
  refine ⟨ao, c, hv, fun h0 => ?_⟩
  obtain ⟨h1, h2, h3⟩ := hc h0
  refine ⟨h1, Nat.lt_of_lt_of_le h2 hb.size, fun k hk => ?_⟩
  obtain ⟨c1, c2, c3⟩ := h3 k hk
  exact ⟨(hb.cell (p := ⟨g, o + k * 3, none⟩) h2).trans c1, (hb.cell (p := ⟨g, o + k * 3 + 1, none⟩) h2).trans c2, (hb.cell (p := ⟨g, o + k * 3 + 2, none⟩) h2).trans c3⟩
end Go.Proofs.YtlljniaobbbjgaaGreatDoor
namespace Go.Proofs.YtlljniaobbbjgaaGreatDoor
open Go.RowKit Go.Sort
open S1 (Tab below_grow)
theorem holds_zero0 (w : World) (T : TypeId) (n : Nat) (hs : n ≤ 24) : Holds (fun (b : UInt8) => Value.int .u8 (b.toNat : Int)) (w.alloc (.cells Lib.zeros24 T)) w.heap.size 0 (Array.replicate n (0 : UInt8)) := fun j hj => by
  have hj' : j < n := by simpa using hj
  refine ⟨?_, World.frozen?_alloc_new _ _ _ _⟩
  rw [World.cell?_alloc_new, Lib.zeros24_at _ (by omega), getElem!_pos _ j hj]
  simp
theorem fin_pos0 (w : World) (o : Obj) (dk : Array UInt8) (k : Nat) : ∃ os, (putRow (fun (b : UInt8) => Value.int .u8 (b.toNat : Int)) (w.alloc o) w.heap.size 0 dk).drewN k = grow (w.drewN k) os := by
  rw [alloc_eq_grow]
  obtain ⟨os', _, e⟩ := putRow_grow_new (fun (b : UInt8) => Value.int .u8 (b.toNat : Int)) w #[o] w.heap.size 0 dk (Nat.le_refl _)
  exact ⟨os', by rw [e]; rfl⟩
set_option maxRecDepth 100000 in
set_option maxHeartbeats 6400000 in
theorem intFormatUint (u : Nat) (w : World) (hu64 : u < 18446744073709551616) (htab : Tab w) :
    Calls Tryz.prog 82 #[.int .u64 u, .int .i64 10] w fun e w' => e = .returned (.string ⟨(Lib.decDigits u).toArray⟩) ∧ Below w.heap.size w w' := by
  by_cases hs : u < 100
  · have hd : decide ((u : Int) < 100) = true := decide_eq_true (by omega)
    go_enter Tryz.func82, Tryz.ntmps82
    go_wp2_with fail
    refine (Tryz.internal_strconv_small u hs _).mono ?_
    rintro e w' ⟨rfl, rfl⟩
    go_wp2_with fail
    go_ret
    exact ⟨rfl, Below.refl _ _⟩
  · have hu1 : 1 ≤ u := by omega
    have hd : decide ((u : Int) < 100) = false := decide_eq_false (by omega)
    have hnd20 : Lib.nDigits u ≤ 20 := by have := Lib.numDigits_eq u hu1 hu64; split at this <;> omega
    have hsl1 : ∀ W, (Instr.sliceAt 161 (.pointer (some ⟨w.heap.size, 0, none⟩)) none (some (.int .i64 (Lib.nDigits u : Int))) none).run Tryz.prog W = .ok (.slice (some ⟨w.heap.size, 0, none⟩) (Lib.nDigits u) 24) W := fun W => by
      have hal : Tryz.prog.arrayLen 161 = 24 := by kernel_rfl
      rw [run_sliceAt_array_h W 161 ⟨w.heap.size, 0, none⟩ (by kernel_rfl) .i64 (Lib.nDigits u : Int) (by omega) (by rw [hal]; omega)]
      go_simp
    have hH0 := holds_zero0 w 161 (Lib.nDigits u) (by omega)
    have hfmt := Tryz.internal_strconv_formatBase10 w.heap.size 0 24 u (Array.replicate (Lib.nDigits u) 0) (w.alloc (.cells Lib.zeros24 161)) hH0 (by rw [Array.size_replicate]; exact Lib.lt_pow_nDigits u) hu64 (by rw [Array.size_replicate]; omega)
    rw [Array.size_replicate] at hfmt
    have HH0 := Lib.hid hH0
    have HFM := hideIt hfmt
    have HTB := hideIt (Lib.tabIs_alloc htab (.cells Lib.zeros24 161))
    clear hH0 hfmt htab
    go_enter Tryz.func82, Tryz.ntmps82
    go_wp2_with fail
    refine (Tryz.internal_strconv_numDigits u hu1 hu64 _ HTB.out).mono ?_
    rintro e w' ⟨rfl, rfl⟩
    go_wp2_with fail
    refine HFM.out.mono ?_
    rintro e w' ⟨rfl, k, v', dk, rfl, hF⟩
    have hcv : (convert 71 9 (.slice (some ⟨w.heap.size, 0, none⟩) (Lib.nDigits u) 24)).run Tryz.prog ((putRow (fun (b : UInt8) => Value.int .u8 (b.toNat : Int)) (w.alloc (.cells Lib.zeros24 161)) w.heap.size 0 dk).drewN k) = .ok (.string ⟨(Lib.decDigits u).toArray⟩) ((putRow (fun (b : UInt8) => Value.int .u8 (b.toNat : Int)) (w.alloc (.cells Lib.zeros24 161)) w.heap.size 0 dk).drewN k) := by
      have h := run_convert_bytes_back (P := Tryz.prog) ((putRow (fun (b : UInt8) => Value.int .u8 (b.toNat : Int)) (w.alloc (.cells Lib.zeros24 161)) w.heap.size 0 dk).drewN k) 71 9 5 ⟨w.heap.size, 0, none⟩ 24 (Lib.decDigits u) Tryz.underlying71 Tryz.underlying5 Tryz.underlying9 (fun j hj => by
        rw [Lib.row_is_numeral hF j hj, Lib.add_plain, World.cell?_drewN]
        exact cell?_putRow (fun (b : UInt8) => Value.int .u8 (b.toNat : Int)) _ w.heap.size 0 _ dk HH0.out (by rw [hF.size, Array.size_replicate]) j (by rw [hF.size]; rw [Lib.decDigits_length] at hj; exact hj))
      rw [Lib.decDigits_length] at h
      exact h
    go_wp2_with fail
    go_ret
    obtain ⟨os, eo⟩ := fin_pos0 w (.cells Lib.zeros24 161) dk k
    exact ⟨rfl, by rw [eo]; exact below_grow _ w (Nat.le_refl _) k os⟩
theorem formatUint_any (u : Nat) (w : World) (hu64 : u < 18446744073709551616) (htab : Tab w) :
    Calls Tryz.prog 61 #[.int .u64 u, .int .i64 10] w fun e w' => e = .returned (.string ⟨(Lib.decDigits u).toArray⟩) ∧ Below w.heap.size w w' := by
  have HT := hideIt htab
  clear htab
  go_enter Tryz.func61, Tryz.ntmps61
  go_wp2_with fail
  refine (intFormatUint u w hu64 HT.out).mono ?_
  rintro e w1 ⟨rfl, hb⟩
  go_wp2_with fail
  go_ret
  exact ⟨rfl, hb⟩
theorem strcat (a b : List UInt8) : (ByteArray.mk a.toArray) ++ (ByteArray.mk b.toArray) = ByteArray.mk (a ++ b).toArray := by
  apply ByteArray.ext; simp
set_option maxHeartbeats 1000000 in
theorem sumLine_any (b : List UInt8) (w : World) (hb : b.length ≤ 1000000) (htab : Tab w) :
    Calls Tryz.prog 32 #[.string ⟨b.toArray⟩] w fun e w' => e = .returned (.string ⟨(Sv.sumTxt b).toArray⟩) ∧ Below w.heap.size w w' := by
  have HT := hideIt htab
  clear htab
  have HS := hideIt (sum_any ⟨b.toArray⟩ w (by unfold maxLen; simp [ByteArray.size]; omega))
  have hlt : Sv.fnv b < 4294967296 := Sv.fnv_lt b
  have hle := Sv.dd_le (Sv.fnv b) (by omega)
  have HE : Hid (Sv.sumTxt b = [115, 117, 109, 32] ++ Lib.decDigits (Sv.fnv b) ++ [10]) := rfl
  have e0 : (ByteArray.mk b.toArray).data.toList = b := by simp
  rw [e0] at HS
  generalize Sv.fnv b = H at *
  generalize Sv.sumTxt b = S at *
  have ea := strcat [115, 117, 109, 32] (Lib.decDigits H)
  have eb := strcat ([115, 117, 109, 32] ++ Lib.decDigits H) [10]
  go_enter Tryz.func32, Tryz.ntmps32
  go_wp2_with fail
  refine HS.out.mono ?_
  rintro e w1 ⟨rfl, rfl⟩
  go_wp2_with fail
  refine (formatUint_any H _ (by omega) HT.out).mono ?_
  rintro e w1 ⟨rfl, hb1⟩
  go_wp2_with fail
  go_ret
  exact ⟨by rw [HE.out]; exact congrArg (fun x => Ending.returned (Value.string x)) eb, hb1⟩
theorem orNothing_any (l : List UInt8) (w : World) : Calls Tryz.prog 58 #[.string ⟨l.toArray⟩] w fun e w' => e = .returned (.string ⟨(Sv.orNo l).toArray⟩) ∧ w' = w := by
  have h0 : ((ByteArray.mk l.toArray).toList.isEmpty) = l.isEmpty := by rw [ByteArray.toList_eq]
  by_cases h : l = []
  · subst h
    go_enter Tryz.func58, Tryz.ntmps58
    go_wp2_with fail
    go_ret
    exact ⟨rfl, rfl⟩
  · have h1 : l.isEmpty = false := by simpa using h
    rw [h1] at h0
    have HE : Hid (Sv.orNo l = l) := by unfold Hid Sv.orNo; rw [if_neg h]
    rw [HE.out]
    go_enter Tryz.func58, Tryz.ntmps58
    go_wp2_with fail
    go_ret
    exact ⟨rfl, rfl⟩
end Go.Proofs.YtlljniaobbbjgaaGreatDoor
namespace Go.Proofs.YtlljniaobbbjgaaGreatDoor
open Go.RowKit Go.Shelf
open Ost (splitC)
attribute [local go_sem] Oper.semAt_some
theorem indexByte_cases (c : UInt8) (l : List UInt8) : (Lib.indexByte l c = -1 ∧ c ∉ l) ∨ ∃ i : Nat, Lib.indexByte l c = i ∧ i < l.length ∧ l = l.take i ++ c :: l.drop (i + 1) ∧ c ∉ l.take i := by
  induction l with
  | nil => exact .inl ⟨rfl, by simp⟩
  | cons b r ih =>
    by_cases h : b = c
    · subst h
      exact .inr ⟨0, by simp [Lib.indexByte], by simp, by simp, by simp⟩
    · have hb : (b == c) = false := by simpa using h
      rcases ih with ⟨h1, h2⟩ | ⟨i, h1, h2, h3, h4⟩
      · exact .inl ⟨by simp [Lib.indexByte, hb, h1], by simp only [List.mem_cons, not_or]; exact ⟨fun e => h e.symm, h2⟩⟩
      · refine .inr ⟨i + 1, ?_, by simp only [List.length_cons]; omega, ?_, ?_⟩
        · have hn : ((i : Int) == -1) = false := by simp
          simp [Lib.indexByte, hb, h1, hn]
        · simp only [List.take_succ_cons, List.drop_succ_cons, List.cons_append]; exact congrArg (b :: ·) h3
        · simp only [List.take_succ_cons, List.mem_cons, not_or]; exact ⟨fun e => h e.symm, h4⟩
theorem ext_take (r : List UInt8) (i : Nat) : (ByteArray.mk r.toArray).extract 0 i = ⟨(r.take i).toArray⟩ := by apply ByteArray.ext; simp
theorem ext_drop (r : List UInt8) (i : Nat) : (ByteArray.mk r.toArray).extract i r.length = ⟨(r.drop i).toArray⟩ := by
  apply ByteArray.ext
  simp
  exact List.take_of_length_le (by simp)
/-- The three boxes of the iterator. -/
def KSp (h j : Nat) : Prop := j = h ∨ j = h + 1 ∨ j = h + 2
structure SpBox (W : World) (h : Nat) (c : UInt8) (s : List UInt8) : Prop where
  s : Boxed W h 9 (.string ⟨s.toArray⟩)
  p : Boxed W (h + 1) 9 (.string ⟨#[c]⟩)
  z : Boxed W (h + 2) 3 (.int .i64 0)
theorem SpBox.kept {W W' : World} {h : Nat} {c : UInt8} {s : List UInt8} (b : SpBox W h c s) (hk : ∀ j, KSp h j → W'.heap[j]? = W.heap[j]?) : SpBox W' h c s :=
  ⟨(hk h (.inl rfl)).trans b.s, (hk (h + 1) (.inr (.inl rfl))).trans b.p, (hk (h + 2) (.inr (.inr rfl))).trans b.z⟩
theorem SpBox.set {W : World} {h : Nat} {c : UInt8} {s : List UInt8} (b : SpBox W h c s) (t : List UInt8) : SpBox (W.setCell ⟨h, 0, none⟩ (.string ⟨t.toArray⟩)) h c t :=
  ⟨b.s.set _, (Below.heap_setCell W ⟨h, 0, none⟩ _ (h + 1) (by simp)).trans b.p, (Below.heap_setCell W ⟨h, 0, none⟩ _ (h + 2) (by simp)).trans b.z⟩
theorem splitSeq_new (s : ByteArray) (c : UInt8) (w : World) : Calls Tryz.prog 120 #[.string s, .string ⟨#[c]⟩] w fun e w' =>
    e = .returned (.func (.func 145) #[] #[.pointer (some ⟨w.heap.size + 1, 0, none⟩), .pointer (some ⟨w.heap.size, 0, none⟩), .pointer (some ⟨w.heap.size + 2, 0, none⟩)]) ∧ SpBox w' w.heap.size c s.data.toList ∧ Below w.heap.size w w' ∧ w'.heap.size = w.heap.size + 3 := by
  have hi : Calls Tryz.prog 135 #[.string s, .string ⟨#[c]⟩, .int .i64 0] w fun e w' =>
    e = .returned (.func (.func 145) #[] #[.pointer (some ⟨w.heap.size + 1, 0, none⟩), .pointer (some ⟨w.heap.size, 0, none⟩), .pointer (some ⟨w.heap.size + 2, 0, none⟩)]) ∧ w' = ((w.alloc (.cells #[.string s] 9)).alloc (.cells #[.string ⟨#[c]⟩] 9)).alloc (.cells #[.int .i64 0] 3) := by
    go_enter Tryz.func135, Tryz.ntmps135
    go_wp2_with fail
    go_ret
    exact ⟨rfl, rfl⟩
  go_enter Tryz.func120, Tryz.ntmps120
  go_wp2_with fail
  refine hi.mono ?_
  rintro e w1 ⟨rfl, rfl⟩
  go_wp2_with fail
  go_ret
  have b1 := ((Boxed.new w 9 (.string s)).alloc (.cells #[.string ⟨#[c]⟩] 9)).alloc (.cells #[.int .i64 0] 3)
  have b2 := (Boxed.new (w.alloc (.cells #[.string s] 9)) 9 (.string ⟨#[c]⟩)).alloc (.cells #[.int .i64 0] 3)
  have b3 := Boxed.new ((w.alloc (.cells #[.string s] 9)).alloc (.cells #[.string ⟨#[c]⟩] 9)) 3 (.int .i64 0)
  simp only [World.size_alloc] at b2 b3
  exact ⟨rfl, ⟨b1, b2, b3⟩, (((Below.refl _ _).alloc (Nat.le_refl _) _).alloc (by simp) _).alloc (by simp; omega) _, by simp⟩
def restLen (W : World) (h : Nat) : Nat := match W.cell? ⟨h, 0, none⟩ with
  | some (.string b) => b.size
  | _ => 0
theorem restLen_at {W : World} {h : Nat} {c : UInt8} {s : List UInt8} (b : SpBox W h c s) : restLen W h = s.length := by
  unfold restLen; rw [b.s.cell]; rfl
def spTs (c : UInt8) (s : List UInt8) : List (Array Value) := (splitC c s).map fun (x : List UInt8) => #[Value.string ⟨x.toArray⟩]
theorem drop_split1 {c : UInt8} {s r : List UInt8} {k i : Nat} (h : splitC c r = (splitC c s).drop k) (h3 : r = r.take i ++ c :: r.drop (i + 1)) (h4 : c ∉ r.take i) : (∃ hk : k < (spTs c s).length, (spTs c s)[k] = #[Value.string ⟨(r.take i).toArray⟩]) ∧ k + 1 < (spTs c s).length ∧ splitC c (r.drop (i + 1)) = (splitC c s).drop (k + 1) := by
  have e : splitC c r = r.take i :: splitC c (r.drop (i + 1)) := by
    conv => lhs; rw [h3]
    exact Ost.splitC_cut c _ _ h4
  rw [e] at h
  have hk : k < (splitC c s).length := by
    refine Nat.lt_of_not_le fun hc => ?_
    rw [List.drop_eq_nil_of_le hc] at h; cases h
  rw [List.drop_eq_getElem_cons hk] at h
  injection h with h1 h2
  have hk2 : k + 1 < (splitC c s).length := by
    refine Nat.lt_of_not_le fun hc => ?_
    rw [List.drop_eq_nil_of_le hc] at h2
    exact Ost.splitC_ne _ _ h2
  exact ⟨⟨by simpa [spTs] using hk, by simp only [spTs, List.getElem_map, ← h1]⟩, by simpa [spTs] using hk2, h2⟩
theorem drop_split2 {c : UInt8} {s r : List UInt8} {k : Nat} (h : splitC c r = (splitC c s).drop k) (h4 : c ∉ r) : (∃ hk : k < (spTs c s).length, (spTs c s)[k] = #[Value.string ⟨r.toArray⟩]) ∧ k + 1 = (spTs c s).length := by
  rw [Ost.splitC_none c r h4] at h
  have hk : k < (splitC c s).length := by
    refine Nat.lt_of_not_le fun hc => ?_
    rw [List.drop_eq_nil_of_le hc] at h; cases h
  rw [List.drop_eq_getElem_cons hk] at h
  injection h with h1 h2
  have hk2 : (splitC c s).length ≤ k + 1 := List.drop_eq_nil_iff.1 h2.symm
  exact ⟨⟨by simpa [spTs] using hk, by simp only [spTs, List.getElem_map, ← h1]⟩, by simp only [spTs, List.length_map]; omega⟩
set_option maxRecDepth 100000 in
set_option maxHeartbeats 2000000 in
theorem splitSeq_iter (n : Nat) (hn : 1 ≤ n) (h : Nat) (c : UInt8) (s : List UInt8) (w : World) (hb : SpBox w h c s) (hl : s.length ≤ 1000000) :
    IterW Fence.wide n Tryz.prog 145 #[.pointer (some ⟨h + 1, 0, none⟩), .pointer (some ⟨h, 0, none⟩), .pointer (some ⟨h + 2, 0, none⟩)] (KSp h) (spTs c s) w := by
  intro l J Jx W hW hJ hY h0
  have hbW := hb.kept hW
  have hp0 := hbW.p.cell
  refine callsIn_of_wp Tryz.func145 rfl trivial ?_ rfl
  simp only [Tryz.ntmps145, List.size_toArray, List.length_cons, List.length_nil, Nat.reduceAdd, Nat.reduceSub, Array.replicate_succ, Array.replicate_zero, List.push_toArray, List.append_toArray, List.nil_append, List.cons_append]
  have HY := hideIt hY
  have HJ := hideIt hJ
  have HB := hideIt hbW
  have H0 := hideIt h0
  clear hY hJ hb hW h0 hbW
  gi_wp2_with fail
  gi_loopw [] (fun wr => ∃ k r, SpBox wr h c r ∧ splitC c r = (splitC c s).drop k ∧ r.length ≤ s.length ∧ J k wr) (fun wr => restLen wr h)
  case atStart => exact ⟨0, s, HB.out, rfl, Nat.le_refl _, H0.out⟩
  case round =>
    obtain ⟨k, r, hbx, hsp, hle, hJk⟩ := hrel
    have hs1 := hbx.s.cell
    have hs2 := hbx.p.cell
    have hs3 := hbx.z.cell
    have hf := hbx.s.frozen
    have HX := hideIt (Tryz.strings_Index_one ⟨r.toArray⟩ c wr)
    have e0 : (ByteArray.mk r.toArray).data.toList = r := by simp
    rw [e0] at HX
    have HBX := hideIt hbx
    have HRL := hideIt (restLen_at hbx)
    rcases indexByte_cases c r with ⟨hi, hni⟩ | ⟨i, hi, hil, h3, h4⟩
    · obtain ⟨⟨hk, hts⟩, hend⟩ := drop_split2 hsp hni
      obtain ⟨fn, tmps, assign, body, hy, hR⟩ := HY.out k wr hk hJk
      rw [hts] at hy
      rw [hi] at HX
      clear hbx hsp hni HY HJ e0
      gi_wp2_with fail
      refine ⟨trivial, (callsIn_wide.2 HX.out).mono ?_⟩
      rintro e w1 ⟨rfl, rfl⟩
      gi_wp2_with fail
      refine hR.mono ?_
      rintro e W3 (⟨rfl, hJ3, hk3⟩ | ⟨rfl, hJx3⟩)
      · gi_wp2_with fail
        go_end0
        exact ⟨⟨_, rfl⟩, .inl (by rw [← hend]; exact hJ3)⟩
      · gi_wp2_with fail
        go_end0
        exact ⟨⟨_, rfl⟩, .inr hJx3⟩
    · obtain ⟨⟨hk, hts⟩, hk2, hsp2⟩ := drop_split1 hsp h3 h4
      obtain ⟨fn, tmps, assign, body, hy, hR⟩ := HY.out k wr hk hJk
      rw [hts] at hy
      rw [hi] at HX
      have hx1 := ext_take r i
      have hx2 := ext_drop r (i + 1)
      have HSP := hideIt hsp2
      clear hbx hsp h3 h4 e0 hsp2 hts hi hk2
      gi_wp2_with fail
      refine ⟨trivial, (callsIn_wide.2 HX.out).mono ?_⟩
      rintro e w1 ⟨rfl, rfl⟩
      gi_wp2_with fail
      refine hR.mono ?_
      rintro e W3 (⟨rfl, hJ3, hk3⟩ | ⟨rfl, hJx3⟩)
      · have hb3 := HBX.out.kept hk3
        have t1 := hb3.s.cell
        have t2 := hb3.p.cell
        have t4 := hb3.s.frozen
        have HB3 := hideIt (hb3.set (r.drop (i + 1)))
        have HJ4 := hideIt (HJ.out (k + 1) W3 _ hJ3 (Apart.setCell (b := h) (.inl rfl) W3 0 (.string ⟨(r.drop (i + 1)).toArray⟩)))
        clear hb3 hk3 hJ3 HBX hR hy hs1 hs2 hs3 hf hJk
        gi_wp2_with fail
        go_roundw
        case rel => exact ⟨k + 1, r.drop (i + 1), HB3.out, HSP.out, by rw [List.length_drop]; omega, HJ4.out⟩
        case measure => rw [restLen_at HB3.out, HRL.out, List.length_drop]; omega
      · gi_wp2_with fail
        refine bodyPost_ret (results_none rfl _ _ _) rfl ?_
        exact ⟨⟨_, rfl⟩, .inr hJx3⟩
end Go.Proofs.YtlljniaobbbjgaaGreatDoor
namespace Go.Proofs.YtlljniaobbbjgaaGreatDoor.S1
open Go.RowKit
/-- Two numbers: what is read, and an error's. -/
def twoNums (p : Int × Int) : Value := .tuple #[.int .i64 p.1, .int .i64 p.2]
theorem extract_list (s : ByteArray) (a b : Nat) : (s.extract a b).data.toList = (s.data.toList.take b).drop a := by
  rw [ByteArray.data_extract, Array.toList_extract, List.extract_eq_take_drop]
  rw [List.drop_take]
theorem isNum_long (m : Int) (l : List UInt8) (hm : m ≤ 18) (h : (Ost.isNum l && decide ((l.length : Int) ≤ m)) = true) : Ost.good m l = true := by
  rw [Ost.good_of_num m l hm]; exact h
/-- The parting of a text that bears no letter m behind it. -/
theorem milliOut_dot (l : List UInt8) (hl : Lib.hasSuffix l [109] = false) (p : Int × Int)
    (h : (Ost.bound (if Ost.isNum (l.take (Ost.dotAt l 0)) = true ∧ Ost.dotAt l 0 ≤ 6 then (if Ost.dotAt l 0 < l.length then (if Ost.placesOk (l.drop (Ost.dotAt l 0 + 1)) then some (Ost.val (l.take (Ost.dotAt l 0)) * 1000 + Ost.val (Ost.pad (l.drop (Ost.dotAt l 0 + 1)))) else none) else some (Ost.val (l.take (Ost.dotAt l 0)) * 1000)) else none)) = p) : Ost.milliOut l = p := by
  have hle := Ost.dotAt_le l 0 (by omega)
  rw [← h, Ost.milliOut, Ost.milliRaw, hl, Ost.cut1_dotAt, Ost.good_of_num 6 _ (by omega)]
  simp only [List.length_take, Nat.min_eq_left hle, Bool.and_eq_true, decide_eq_true_eq]
  simp only [Bool.false_eq_true, if_false]
  have e : ((Ost.dotAt l 0 : Int) ≤ 6) ↔ Ost.dotAt l 0 ≤ 6 := by omega
  simp only [e]
end Go.Proofs.YtlljniaobbbjgaaGreatDoor.S1
