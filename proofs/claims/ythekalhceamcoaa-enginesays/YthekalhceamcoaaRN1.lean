/- What the loop of 'EngineSays' holds to. -/
import Derived.Test.YthekalhceamcoaaRL2
namespace Go.Proofs.Ythekalhceamcoaa
open Go.RowKit
/-- What runs by the statement's own list: its devices are the arguments'. -/
def ArgRun (w wr : World) (x : RV) : Prop := x.Short ∧ DevsOk wr x ∧ x.dn ≤ 30 ∧ (0 < x.dn → ∀ g o, x.da = some ⟨g, o, none⟩ → g < w.heap.size)
structure EInv (w : World) (s : Nat) (wr : World) (v : Value) (k : Nat) (l : Int) (d : Bool) (fu : Int) (rd : Bool) (n : Nat) (xs rs : List RV) : Prop where
  bel : Below w.heap.size w wr
  sz : s + 5 ≤ wr.heap.size
  ws : w.heap.size ≤ s
  disk : DiskZ wr s l d
  map : MapR wr (s + 1) n xs
  eng : EngAt wr (s + 2) s (s + 1)
  ref : RefZ wr (s + 3) fu rd
  nms : wr.heap[s + 4]? = some (.cells #[.string ⟨#[120]⟩, .string ⟨#[121]⟩, .string ⟨#[122, 122]⟩] 9 (0, 0))
  row : RRow (s + 5) wr v rs
  asc : Asc rs
  nk : n ≤ k
  lk : rs.length ≤ k
  lb : -9223372036854775808 ≤ l ∧ l ≤ 9223372036854775807
  fb : -9223372036854775808 ≤ fu ∧ fu ≤ 9223372036854775807
  rsok : ∀ x ∈ rs, ArgRun w wr x
  xsok : ∀ x ∈ xs, DevOwn wr x ∧ x.dn ≤ 30
theorem argRun_keep {w wr wr' : World} {x : RV} (h : ArgRun w wr x) (hb : Below w.heap.size w wr) (hb' : Below w.heap.size w wr') (hs : wr.heap.size ≤ wr'.heap.size) : ArgRun w wr' x ∧ absR wr' x = absR wr x := by
  obtain ⟨h1, h2, h3, h4⟩ := h
  by_cases h0 : 0 < x.dn
  · obtain ⟨p, q⟩ := devs_kept (w' := wr') h2 (fun g o e _ => (hb'.block g (h4 h0 g o e)).trans (hb.block g (h4 h0 g o e)).symm) hs
    exact ⟨⟨h1, p, h3, h4⟩, by unfold absR; rw [q]⟩
  · have e0 : x.dn = 0 := by omega
    exact ⟨⟨h1, fun hp => absurd hp h0, h3, h4⟩, by unfold absR devsOf; rw [e0]; rfl⟩
theorem devOwn_keep {wr wr' : World} {x : RV} (h : DevOwn wr x ∧ x.dn ≤ 30) (hk : KInt wr wr') : (DevOwn wr' x ∧ x.dn ≤ 30) ∧ absR wr' x = absR wr x := by
  obtain ⟨p, q⟩ := h.1.kept hk
  exact ⟨⟨p, h.2⟩, by unfold absR; rw [q]⟩
theorem map_abs {wr wr' : World} {ys : List RV} (h : ∀ x ∈ ys, absR wr' x = absR wr x) : ys.map (absR wr') = ys.map (absR wr) := List.map_congr_left h
section
variable {w : World} {s : Nat} {wr wr' : World} {v : Value} {k : Nat} {l : Int} {d : Bool} {fu : Int} {rd : Bool} {n : Nat} {xs rs : List RV}
/-- What is said of both lists stays. -/
theorem EInv.rsmap (h : EInv w s wr v k l d fu rd n xs rs) (hb' : Below w.heap.size w wr') (hs : wr.heap.size ≤ wr'.heap.size) : rs.map (absR wr') = rs.map (absR wr) := map_abs fun x hx => (argRun_keep (h.rsok x hx) h.bel hb' hs).2
theorem EInv.xsmap (h : EInv w s wr v k l d fu rd n xs rs) (hk : KInt wr wr') : xs.map (absR wr') = xs.map (absR wr) := map_abs fun x hx => (devOwn_keep (h.xsok x hx) hk).2
theorem EInv.below (h : EInv w s wr v k l d fu rd n xs rs) (hb : Below wr.heap.size wr wr') : EInv w s wr' v k l d fu rd n xs rs := by
  have hsz := h.sz
  have hbw := h.bel.trans (hb.mono h.bel.size)
  exact ⟨hbw, Nat.le_trans hsz hb.size, h.ws, (hb.block _ (by omega)).trans h.disk, h.map.block (hb.block _ (by omega)), h.eng.block (hb.block _ (by omega)), (hb.block _ (by omega)).trans h.ref, (hb.block _ (by omega)).trans h.nms,
    World.ownsRow.kept (row := none) h.row ⟨hb.os, hb.tape, hb.output, hb.size, fun j hj _ => hb.block j hj⟩ (by cases hv : v.ownBlock <;> simp), h.asc, h.nk, h.lk, h.lb, h.fb, fun x hx => (argRun_keep (h.rsok x hx) h.bel hbw hb.size).1, fun x hx => (devOwn_keep (h.xsok x hx) (KInt.below hb)).1⟩
theorem EInv.up (h : EInv w s wr v k l d fu rd n xs rs) : EInv w s wr v (k + 1) l d fu rd n xs rs := ⟨h.bel, h.sz, h.ws, h.disk, h.map, h.eng, h.ref, h.nms, h.row, h.asc, Nat.le_succ_of_le h.nk, Nat.le_succ_of_le h.lk, h.lb, h.fb, h.rsok, h.xsok⟩
theorem RefZ.notInt {w : World} {B : Nat} {l : Int} {d : Bool} (h : RefZ w B l d) : ∀ (arr : Array Value) (z : Nat × Nat), w.heap[B]? ≠ some (Obj.cells arr 3 z) := fun arr z e => by
  have := (show w.heap[B]? = _ from h).symm.trans e
  simp at this
theorem row_far {base : Nat} {w w' : World} {v : Value} {ys : List RV} {b : Nat} (h : RRow base w v ys) (hg : w.grownBy w' (some b)) (hb : b < base) : RRow base w' v ys := by
  refine World.ownsRow.kept h hg ?_
  rcases h.2 with ⟨rfl, _⟩ | ⟨g', cap, cur, rfl, hb', _⟩
  · exact .inl rfl
  · refine .inr fun e => ?_
    have : g' = b := by simpa [Value.ownBlock] using e
    omega
theorem EInv.refd (h : EInv w s wr v k l d fu rd n xs rs) {fu' : Int} {rd' : Bool} (ho : Only (s + 3) wr wr') (hr : RefZ wr' (s + 3) fu' rd') (hf : -9223372036854775808 ≤ fu' ∧ fu' ≤ 9223372036854775807) : EInv w s wr' v k l d fu' rd' n xs rs := by
  have hsz := h.sz
  have hws := h.ws
  obtain ⟨hg, he⟩ := ho
  have hB : ∀ b, b < s + 3 ∨ b = s + 4 → wr'.heap[b]? = wr.heap[b]? := fun b hb => hg.block b (by omega) (fun e => by have := Option.some.inj e; omega)
  have hbw : Below w.heap.size w wr' := ⟨hg.os.trans h.bel.os, hg.tape.trans h.bel.tape, hg.output.trans h.bel.output, by rw [he]; exact h.bel.size, fun b hb => (hB b (by omega)).trans (h.bel.block b hb)⟩
  exact ⟨hbw, by omega, h.ws, (hB _ (by omega)).trans h.disk, h.map.block (hB _ (by omega)), h.eng.block (hB _ (by omega)), hr, (hB _ (by omega)).trans h.nms, row_far h.row hg (by omega), h.asc, h.nk, h.lk, h.lb, hf, fun x hx => (argRun_keep (h.rsok x hx) h.bel hbw (by omega)).1, fun x hx => (devOwn_keep (h.xsok x hx) (KInt.grown hg h.ref.notInt)).1⟩
theorem EInv.kref (h : EInv w s wr v k l d fu rd n xs rs) (ho : Only (s + 3) wr wr') : Below w.heap.size w wr' ∧ KInt wr wr' := by
  have hsz := h.sz
  have hws := h.ws
  obtain ⟨hg, he⟩ := ho
  exact ⟨⟨hg.os.trans h.bel.os, hg.tape.trans h.bel.tape, hg.output.trans h.bel.output, by rw [he]; exact h.bel.size, fun b hb => (hg.block b (by omega) (fun e => by have := Option.some.inj e; omega)).trans (h.bel.block b hb)⟩, KInt.grown hg h.ref.notInt⟩
theorem EInv.kout (h : EInv w s wr v k l d fu rd n xs rs) (ho : OutR s (s + 1) wr wr') : Below w.heap.size w wr' ∧ KInt wr wr' := by
  have hsz := h.sz
  have hws := h.ws
  exact ⟨h.bel.trans (ho.below h.ws (by omega) (by have := h.bel.size; omega)), ho.kint h.disk.notInt h.map.notInt⟩
/-- Behind a turn of the disk and the map. -/
theorem EInv.turn (h : EInv w s wr v k l d fu rd n xs rs) {l' : Int} {d' : Bool} {n' : Nat} {xs' : List RV} (ho : OutR s (s + 1) wr wr') (hd : DiskZ wr' s l' d') (hl : -9223372036854775808 ≤ l' ∧ l' ≤ 9223372036854775807) (hm : MapR wr' (s + 1) n' xs') (hn : n' ≤ k + 1) (hx : ∀ x ∈ xs', DevOwn wr' x ∧ x.dn ≤ 30) : EInv w s wr' v (k + 1) l' d' fu rd n' xs' rs := by
  have hsz := h.sz
  obtain ⟨hbw, hk⟩ := h.kout ho
  have hB : ∀ b, s + 1 < b → b < wr.heap.size → wr'.heap[b]? = wr.heap[b]? := fun b h1 h2 => ho.block b h2 (by omega) (by omega)
  have hrow : RRow (s + 5) wr' v rs := by
    refine World.ownsRow.kept (row := none) h.row ⟨rfl, rfl, rfl, Nat.le_refl _, fun _ _ _ => rfl⟩ (by cases hv : v.ownBlock <;> simp) |> fun hr => ?_
    rcases hr with ⟨hl1, hc⟩
    refine ⟨hl1, ?_⟩
    rcases hc with hc | ⟨g, cap, cur, hv, hb1, hg1, rest⟩
    · exact .inl hc
    · exact .inr ⟨g, cap, cur, hv, hb1, (hB g (by omega) (Array.getElem?_eq_some_iff.1 hg1).1).trans hg1, rest⟩
  exact ⟨hbw, Nat.le_trans hsz ho.size, h.ws, hd, hm, h.eng.block (hB _ (by omega) (by omega)), (hB _ (by omega) (by omega)).trans h.ref, (hB _ (by omega) (by omega)).trans h.nms, hrow, h.asc, hn, Nat.le_succ_of_le h.lk, hl, h.fb, fun x hx => (argRun_keep (h.rsok x hx) h.bel hbw ho.size).1, hx⟩
/-- Behind a turn of the list. -/
theorem EInv.list (h : EInv w s wr v k l d fu rd n xs rs) {v' : Value} {rs' : List RV} (hb : Below (s + 5) wr wr') (hk : KInt wr wr') (hr : RRow (s + 5) wr' v' rs') (ha : Asc rs') (hl : rs'.length ≤ k) (hx : ∀ x ∈ rs', ArgRun w wr' x) : EInv w s wr' v' k l d fu rd n xs rs' := by
  have hsz := h.sz
  have hws := h.ws
  have hbw := h.bel.trans (hb.mono (by omega))
  exact ⟨hbw, Nat.le_trans hsz hb.size, h.ws, (hb.block _ (by omega)).trans h.disk, h.map.block (hb.block _ (by omega)), h.eng.block (hb.block _ (by omega)), (hb.block _ (by omega)).trans h.ref, (hb.block _ (by omega)).trans h.nms, hr, ha, h.nk, hl, h.lb, h.fb, hx, fun x hx => (devOwn_keep (h.xsok x hx) hk).1⟩
end
/-- Both disks go on alike. -/
def Syn (l : Int) (d : Bool) (fu : Int) (rd : Bool) : Prop := d = rd ∧ (d = false → (l < 0 ∧ fu < 0) ∨ l = fu)
theorem Syn.step {l fu : Int} {d rd : Bool} (h : Syn l d fu rd) : stepErr fu rd = stepErr l d ∧ Syn (stepL l d) (stepD l d) (refL fu rd) (stepD fu rd) := by
  obtain ⟨rfl, hs⟩ := h
  cases d with
  | true =>
    refine ⟨by simp [stepErr], by simp [stepD], fun h => ?_⟩
    simp [stepD] at h
  | false =>
    rcases hs rfl with ⟨h1, h2⟩ | rfl
    · have n1 : ¬ l = 0 := by omega
      have n2 : ¬ fu = 0 := by omega
      have n3 : ¬ 0 < l := by omega
      have n4 : ¬ 0 < fu := by omega
      refine ⟨by simp [stepErr, n1, n2], by simp [stepD, n1, n2], fun _ => .inl ⟨?_, ?_⟩⟩
      · unfold stepL; rw [if_neg (by simp [n1]), if_neg n3]; exact h1
      · unfold refL; rw [if_neg (by simp), if_neg n2, if_neg n4]; exact h2
    · refine ⟨rfl, rfl, fun h => .inr ?_⟩
      have h0 : ¬ l = 0 := by simpa [stepD] using h
      unfold stepL refL
      simp [h0]
theorem stepL_in {l : Int} {d : Bool} (h : -9223372036854775808 ≤ l ∧ l ≤ 9223372036854775807) : -9223372036854775808 ≤ stepL l d ∧ stepL l d ≤ 9223372036854775807 := by
  unfold stepL; repeat' split
  all_goals omega
theorem refL_in {l : Int} {d : Bool} (h : -9223372036854775808 ≤ l ∧ l ≤ 9223372036854775807) : -9223372036854775808 ≤ refL l d ∧ refL l d ≤ 9223372036854775807 := by
  unfold refL; repeat' split
  all_goals omega
end Go.Proofs.Ythekalhceamcoaa
