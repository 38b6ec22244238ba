/- Pods and what they use in memory, and among what comes in. -/
import Derived.Test.YthekalhceamcoaaDEnv
import Derived.Test.YthekalhceamcoaaQMath
namespace Go.Proofs.Ythekalhceamcoaa
open Go.ChangeShapes Go.WideShapes Go.ChangeAt Go.RowKit
open Qos (Nd Ct Pd nd0 ct0 pd0 nd ct pd)
/-- A slice of needs that is read. -/
def NeedsAt (w : World) (v : Value) (ds : List Nd) : Prop :=
  ∃ ao c, v = .slice ao ds.length c ∧ ds.length ≤ maxLen ∧ (0 < ds.length → ∃ b o, ao = some ⟨b, o, none⟩ ∧ b < w.heap.size ∧ ∀ k, k < ds.length → w.cell? ⟨b, o + k * 2, none⟩ = some (.string (nd ds k).kind) ∧ w.cell? ⟨b, o + k * 2 + 1, none⟩ = some (.int .i64 (nd ds k).many))
/-- The six cells of a container. -/
def contCells (c : Ct) (dv : Value) : List Value := [.string c.nm, .int .i64 c.am, .int .i64 c.ab, .int .i64 c.cm, .int .i64 c.cb, dv]
/-- A slice of containers that is read, at a place. -/
def ConsIn (w : World) (b o : Nat) (cs : List Ct) (dv : Nat → Value) : Prop :=
  b < w.heap.size ∧ ∀ k, k < cs.length → (∀ j, j < 6 → w.cell? ⟨b, o + k * 6 + j, none⟩ = (contCells (ct cs k) (dv k))[j]?) ∧ NeedsAt w (dv k) (ct cs k).ds
def ConsAt (w : World) (v : Value) (cs : List Ct) : Prop :=
  ∃ ao c, v = .slice ao cs.length c ∧ (cs.length ≤ c ∧ c ≤ maxLen) ∧ (0 < cs.length → ∃ b o dv, ao = some ⟨b, o, none⟩ ∧ ConsIn w b o cs dv)
/-- A pod as a value. -/
def podV (p : Pd) (cv : Value) : Value := .agg #[.string p.nm, .int .i64 p.pr, cv]
def PodsIn (w : World) (b o : Nat) (ps : List Pd) (cv : Nat → Value) : Prop :=
  b < w.heap.size ∧ ∀ k, k < ps.length → (w.cell? ⟨b, o + k * 3, none⟩ = some (.string (pd ps k).nm) ∧ w.cell? ⟨b, o + k * 3 + 1, none⟩ = some (.int .i64 (pd ps k).pr) ∧ w.cell? ⟨b, o + k * 3 + 2, none⟩ = some (cv k)) ∧ ConsAt w (cv k) (pd ps k).cs
def PodsAt (w : World) (v : Value) (ps : List Pd) : Prop :=
  ∃ ao c, v = .slice ao ps.length c ∧ ps.length ≤ maxLen ∧ (0 < ps.length → ∃ b o cv, ao = some ⟨b, o, none⟩ ∧ PodsIn w b o ps cv)
theorem NeedsAt.below {w w' : World} {v : Value} {ds : List Nd} (h : NeedsAt w v ds) (hb : Below w.heap.size w w') : NeedsAt w' v ds := by
  obtain ⟨ao, c, hv, hm, hr⟩ := h
  refine ⟨ao, c, hv, hm, fun h0 => ?_⟩
  obtain ⟨b, o, ha, hlt, hc⟩ := hr h0
  refine ⟨b, o, ha, Nat.lt_of_lt_of_le hlt hb.size, fun k hk => ?_⟩
  obtain ⟨h1, h2⟩ := hc k hk
  exact ⟨(hb.cell (p := ⟨b, o + k * 2, none⟩) hlt).trans h1, (hb.cell (p := ⟨b, o + k * 2 + 1, none⟩) hlt).trans h2⟩
theorem ConsIn.below {w w' : World} {b o : Nat} {cs : List Ct} {dv : Nat → Value} (h : ConsIn w b o cs dv) (hb : Below w.heap.size w w') : ConsIn w' b o cs dv :=
  ⟨Nat.lt_of_lt_of_le h.1 hb.size, fun k hk => ⟨fun j hj => (hb.cell (p := ⟨b, o + k * 6 + j, none⟩) h.1).trans ((h.2 k hk).1 j hj), (h.2 k hk).2.below hb⟩⟩
theorem ConsAt.below {w w' : World} {v : Value} {cs : List Ct} (h : ConsAt w v cs) (hb : Below w.heap.size w w') : ConsAt w' v cs := by
  obtain ⟨ao, c, hv, hm, hr⟩ := h
  refine ⟨ao, c, hv, hm, fun h0 => ?_⟩
  obtain ⟨b, o, dv, ha, hc⟩ := hr h0
  exact ⟨b, o, dv, ha, hc.below hb⟩
theorem PodsIn.below {w w' : World} {b o : Nat} {ps : List Pd} {cv : Nat → Value} (h : PodsIn w b o ps cv) (hb : Below w.heap.size w w') : PodsIn w' b o ps cv :=
  ⟨Nat.lt_of_lt_of_le h.1 hb.size, fun k hk => by
    obtain ⟨⟨h1, h2, h3⟩, h4⟩ := h.2 k hk
    exact ⟨⟨(hb.cell (p := ⟨b, o + k * 3, none⟩) h.1).trans h1, (hb.cell (p := ⟨b, o + k * 3 + 1, none⟩) h.1).trans h2, (hb.cell (p := ⟨b, o + k * 3 + 2, none⟩) h.1).trans h3⟩, h4.below hb⟩⟩
theorem PodsAt.below {w w' : World} {v : Value} {ps : List Pd} (h : PodsAt w v ps) (hb : Below w.heap.size w w') : PodsAt w' v ps := by
  obtain ⟨ao, c, hv, hm, hr⟩ := h
  refine ⟨ao, c, hv, hm, fun h0 => ?_⟩
  obtain ⟨b, o, dv, ha, hc⟩ := hr h0
  exact ⟨b, o, dv, ha, hc.below hb⟩
theorem needs_of_rows {W : World} {v : Value} (h : RowsOf W v 2 pairP) : ∃ ds, NeedsAt W v ds := by
  obtain ⟨ao, len, c, rfl, hm, hr⟩ := h
  by_cases h0 : len = 0
  · subst h0
    exact ⟨[], ao, c, rfl, by simp, fun h => by simp at h⟩
  · obtain ⟨b, o, rfl, hlt, hc⟩ := hr (by omega)
    obtain ⟨f, hf⟩ := Deep.choose_lt (α := Nd) (n := len) (p := fun k d => W.cell? ⟨b, o + k * 2, none⟩ = some (.string d.kind) ∧ W.cell? ⟨b, o + k * 2 + 1, none⟩ = some (.int .i64 d.many)) (fun k hk => by
      obtain ⟨cs, _, hcs, s, x, rfl⟩ := hc k hk
      exact ⟨⟨s, x⟩, hcs 0 (by decide), hcs 1 (by decide)⟩)
    refine ⟨(List.range len).map f, _, c, by simp, by simpa using hm, fun _ => ⟨b, o, rfl, hlt, fun k hk => ?_⟩⟩
    have hk' : k < len := by simpa using hk
    have e : nd ((List.range len).map f) k = f k := by simp [nd, hk']
    rw [e]
    exact hf k hk'
/-- A slice's length is no more than what it may have. -/
def CapOk (v : Value) : Prop := ∃ ao len c, v = .slice ao len c ∧ len ≤ c ∧ c ≤ maxLen
theorem cap_of_trod {H : Type} {enc : TypeId × Value → H} {P : Program} {W : World} {t e : TypeId} {fuel : Nat} {v : Value} {x : DataW H × List MemPlace} (ht : P.underlying t = some (.slice e)) (h : DataW.trod enc P W 0 (fun _ => true) true fuel t [v] = some x) : CapOk v := by
  rcases Deep.open_slice ht h with ⟨hcs, _⟩ | ⟨a, len, cap, m, n, D, Pl, hcs, _, hl, hm, hmm, _, hx⟩
  · simp at hcs
    subst hcs
    exact ⟨none, 0, 0, rfl, by omega, by omega⟩
  · simp at hcs
    subst hcs
    exact ⟨_, len, cap, rfl, hl, hm⟩
theorem cons_of_rows {W : World} {v : Value} (h : RowsOf W v 6 (contP W)) (hcap : CapOk v) : ∃ cs, ConsAt W v cs := by
  obtain ⟨ao, len, c, rfl, hm, hr⟩ := h
  obtain ⟨_, _, _, hv, hl1, hl2⟩ := hcap
  cases hv
  by_cases h0 : len = 0
  · subst h0
    exact ⟨[], ao, c, rfl, ⟨by simp, hl2⟩, fun h => by simp at h⟩
  · obtain ⟨b, o, rfl, hlt, hc⟩ := hr (by omega)
    obtain ⟨f, hf⟩ := Deep.choose_lt (α := Ct × Value) (n := len) (p := fun k d => (∀ j, j < 6 → W.cell? ⟨b, o + k * 6 + j, none⟩ = (contCells d.1 d.2)[j]?) ∧ NeedsAt W d.2 d.1.ds) (fun k hk => by
      obtain ⟨cs, _, hcs, nm, x1, x2, x3, x4, dv, rfl, hdv⟩ := hc k hk
      obtain ⟨ds, hds⟩ := needs_of_rows hdv
      exact ⟨⟨⟨nm, x1, x2, x3, x4, ds⟩, dv⟩, hcs, hds⟩)
    refine ⟨(List.range len).map fun k => (f k).1, _, c, by simp, ⟨by simpa using hl1, hl2⟩, fun _ => ⟨b, o, fun k => (f k).2, rfl, hlt, fun k hk => ?_⟩⟩
    have hk' : k < len := by simpa using hk
    have e : ct ((List.range len).map fun k => (f k).1) k = (f k).1 := by simp [ct, hk']
    rw [e]
    exact hf k hk'
def podP (W : World) (cs : List Value) : Prop := ∃ (nm : ByteArray) (pr : Int) (cv : Value), cs = [.string nm, .int .i64 pr, cv] ∧ RowsOf W cv 6 (contP W) ∧ CapOk cv
theorem pods_of_rows {W : World} {v : Value} (h : RowsOf W v 3 (podP W)) : ∃ ps, PodsAt W v ps := by
  obtain ⟨ao, len, c, rfl, hm, hr⟩ := h
  by_cases h0 : len = 0
  · subst h0
    exact ⟨[], ao, c, rfl, by simp, fun h => by simp at h⟩
  · obtain ⟨b, o, rfl, hlt, hc⟩ := hr (by omega)
    obtain ⟨f, hf⟩ := Deep.choose_lt (α := Pd × Value) (n := len) (p := fun k d => (W.cell? ⟨b, o + k * 3, none⟩ = some (.string d.1.nm) ∧ W.cell? ⟨b, o + k * 3 + 1, none⟩ = some (.int .i64 d.1.pr) ∧ W.cell? ⟨b, o + k * 3 + 2, none⟩ = some d.2) ∧ ConsAt W d.2 d.1.cs) (fun k hk => by
      obtain ⟨cs, _, hcs, nm, pr, cv, rfl, hcv, hcap⟩ := hc k hk
      obtain ⟨ds, hds⟩ := cons_of_rows hcv hcap
      exact ⟨⟨⟨nm, pr, ds⟩, cv⟩, ⟨hcs 0 (by decide), hcs 1 (by decide), hcs 2 (by decide)⟩, hds⟩)
    refine ⟨(List.range len).map fun k => (f k).1, _, c, by simp, by simpa using hm, fun _ => ⟨b, o, fun k => (f k).2, rfl, hlt, fun k hk => ?_⟩⟩
    have hk' : k < len := by simpa using hk
    have e : pd ((List.range len).map fun k => (f k).1) k = (f k).1 := by simp [pd, hk']
    rw [e]
    exact hf k hk'
section
variable {H : Type} {enc : TypeId × Value → H} {W : World}
set_option maxRecDepth 100000 in
theorem podP_of_trod {n : Nat} {cs : List Value} {y : DataW H × List MemPlace} (hl : cs.length = 3) (h : DataW.trod enc Try.prog W 0 (fun _ => true) true n 60 cs = some y) : podP W cs := by
  obtain ⟨nm, pr, cv, rfl, h1⟩ := pod_of_trod hl h
  obtain ⟨_, _, h2⟩ := trod_field Try.underlying60 h 2 58 2 _ c_conts rfl
  exact ⟨nm, pr, cv, rfl, h1, cap_of_trod Try.underlying58 h2⟩
theorem podOne_of_trod {n : Nat} {cs : List Value} {y : DataW H × List MemPlace} (hl : cs.length = 3) (h : DataW.trod enc Try.prog W 0 (fun _ => true) true n 60 cs = some y) : ∃ (p : Pd) (cv : Value), cs = [.string p.nm, .int .i64 p.pr, cv] ∧ ConsAt W cv p.cs := by
  obtain ⟨nm, pr, cv, rfl, h1, h2⟩ := podP_of_trod hl h
  obtain ⟨ds, hds⟩ := cons_of_rows h1 h2
  exact ⟨⟨nm, pr, ds⟩, cv, rfl, hds⟩
theorem pods_of_trod {n : Nat} {v : Value} {y : DataW H × List MemPlace} (h : DataW.trod enc Try.prog W 0 (fun _ => true) true n 84 [v] = some y) : ∃ ps, PodsAt W v ps :=
  pods_of_rows (rows_of_trod Try.underlying84 c_Pod (by decide) h fun _ _ _ hl h => podP_of_trod hl h)
/-- What is used, by whom. -/
theorem uses_of_trod {n : Nat} {v : Value} {y : DataW H × List MemPlace} (h : DataW.trod enc Try.prog W 0 (fun _ => true) true n 61 [v] = some y) : ∃ us, NeedsAt W v us :=
  needs_of_rows (rows_of_trod Try.underlying61 c_Use (by decide) h fun _ _ _ hl h => use_of_trod hl h)
end
theorem ConsIn.at {w : World} {b o : Nat} {cs : List Ct} {dv : Nat → Value} (h : ConsIn w b o cs dv) {k : Nat} (hk : k < cs.length) :
    w.cell? ⟨b, o + k * 6, none⟩ = some (.string (ct cs k).nm) ∧ w.cell? ⟨b, o + k * 6 + 1, none⟩ = some (.int .i64 (ct cs k).am) ∧ w.cell? ⟨b, o + k * 6 + 2, none⟩ = some (.int .i64 (ct cs k).ab) ∧ w.cell? ⟨b, o + k * 6 + 3, none⟩ = some (.int .i64 (ct cs k).cm) ∧ w.cell? ⟨b, o + k * 6 + 4, none⟩ = some (.int .i64 (ct cs k).cb) ∧ w.cell? ⟨b, o + k * 6 + 5, none⟩ = some (dv k) := by
  have hc := (h.2 k hk).1
  exact ⟨hc 0 (by decide), hc 1 (by decide), hc 2 (by decide), hc 3 (by decide), hc 4 (by decide), hc 5 (by decide)⟩
end Go.Proofs.Ythekalhceamcoaa
