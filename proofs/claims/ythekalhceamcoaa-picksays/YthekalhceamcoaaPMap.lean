/- A map of numbers by numbers, as package pick keeps one: how it is made, read and written. -/
import Derived.Test.YthekalhceamcoaaPBase
namespace Go.Proofs.Ythekalhceamcoaa
open Go.RowKit Go.ChangeMaps
open Go.Maps (Keyed int_keyed keyOf_int_mk)
/-- A map of numbers, as far as there may be cores. -/
def LeftIs (w : World) (B n : Nat) (f : Int → Int) : Prop :=
  ∃ D : DataW Unit, w.ownsMap Try.prog 3 (plainElem Try.prog 3) B n D ∧ ∀ k : Int, 0 ≤ k → k < 64 → D.atKey (.int .i64 k) (.lit (.int .i64 0)) = .lit (.int .i64 (f k))
theorem LeftIs.alloc {w : World} {B n : Nat} {f : Int → Int} (h : LeftIs w B n f) (o : Obj) : LeftIs (w.alloc o) B n f := by
  obtain ⟨D, ho, hk⟩ := h
  exact ⟨D, ho.alloc o, hk⟩
theorem LeftIs.below {w w' : World} {B K n : Nat} {f : Int → Int} (h : LeftIs w B n f) (hb : Below K w w') (hK : B < K) : LeftIs w' B n f := by
  obtain ⟨D, ⟨es, clock, hh, r⟩, hk⟩ := h
  exact ⟨D, ⟨es, clock, (hb.block B hK).trans hh, r⟩, hk⟩
theorem LeftIs.lt {w : World} {B n : Nat} {f : Int → Int} (h : LeftIs w B n f) : B < w.heap.size := by
  obtain ⟨D, ho, _⟩ := h
  exact ho.lt
theorem LeftIs.made (w : World) : LeftIs (w.alloc (.map #[] 0)) w.heap.size 0 (fun _ => 0) :=
  ⟨.map [], World.ownsMap_made w _ _ _, fun _ _ _ => rfl⟩
theorem zeroInt (w : World) : (zeroValue 3).run Try.prog w = .ok (.int .i64 0) w := by kernel_rfl
theorem wpList_lookLeft {ops : Array Oper} {rest : List Oper} {o : Oper} {a : Act} {Q : Exit → Act → World → Prop} (w : World) (hg : o.guard = none) (m x : Operand) (hop : o.op = Op.lookup 229 m x false)
    (B n : Nat) (f : Int → Int) (k : Int) (h0 : 0 ≤ k) (h64 : k < 64) (hm : a.eval m = .map (some B)) (hx : a.eval x = .int .i64 k) (hM : LeftIs w B n f)
    (hK : wpList Try.prog ops Q rest (a.put o.dst (.int .i64 (f k))) w) :
    wpList Try.prog ops Q (o :: rest) a w := by
  obtain ⟨D, ho, hk⟩ := hM
  refine wpList_lookup_own_int w hg m x 229 hop 3 3 .i64 keyLaw Try.underlying229 Try.underlying3 (zeroInt w) B n D hm ho _ (.int .i64 k) hx (keyOf_int_mk Try.underlying3 (wf64 h0 h64)) ?_
  intro c hc _
  rw [hk k h0 h64] at hc
  simp only [DataW.lit.injEq, Lit.int.injEq, true_and] at hc
  rw [← hc]
  exact hK
theorem wpList_putLeft {ops : Array Oper} {rest : List Oper} {o : Oper} {a : Act} {Q : Exit → Act → World → Prop} (w : World) (hg : o.guard = none) (m x v : Operand) (hop : o.op = Op.mapUpdate 229 m x v)
    (B n : Nat) (f : Int → Int) (k : Int) (h0 : 0 ≤ k) (h64 : k < 64) (y : Nat) (hy : y ≤ 64) (hm : a.eval m = .map (some B)) (hx : a.eval x = .int .i64 k) (hv : a.eval v = .int .i64 y) (hM : LeftIs w B n f) (hn : n < maxLen)
    (hK : ∀ w', LeftIs w' B (n + 1) (fun j => if k = j then y else f j) → w.grownBy w' (some B) → wpList Try.prog ops Q rest (a.put o.dst undef) w') :
    wpList Try.prog ops Q (o :: rest) a w := by
  obtain ⟨D, ho, hk⟩ := hM
  refine wpList_mapUpdate_own w hg m x v 229 hop 3 3 keyLaw Try.underlying229 (plainElem Try.prog 3) B n D hm ho hn _ _ (.int .i64 k) hx hv (keyOf_int_mk Try.underlying3 (wf64 h0 h64)) (.lit (.int .i64 y)) [] (plainElem_int Try.underlying3 (WalkArith.wf_i64 (by omega))) ?_
  intro w' ho' hgr
  refine hK w' ⟨_, ho', fun j j0 j64 => ?_⟩ hgr
  by_cases e : k = j
  · subst e
    have hkl : WideAt.IsKeyLit (Lit.int .i64 k) := trivial
    rw [Maps.atKey_put_same ho.isMap hkl]
    simp
  · have hne : (Lit.int .i64 j) ≠ (Lit.int .i64 k) := by simp; omega
    rw [Maps.atKey_put_other hne]
    simp only [if_neg e]
    exact hk j j0 j64
end Go.Proofs.Ythekalhceamcoaa
