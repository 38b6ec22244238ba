/- slices.Backward over pods: the contract of the iterator. -/
import Derived.Test.YthekalhceamcoaaQW3
import Derived.Test.YthekalhceamcoaaEMath7
import Derived.RangeFuncNested
import Derived.RangeFuncBound
import Derived.RangeFuncCalls
import Derived.RangeFuncLeaves
import Derived.RangeFuncBox
import Derived.Shelf.Abstract
import Derived.Shelf.RegionOpen
import Derived.WalkKit
import Derived.OwnWalkIn
import Derived.TacticsInMore
import Derived.LoopNIn
import Derived.LoopIn
import Derived.Maps.OwnIn
namespace Go.Proofs.Ythekalhceamcoaa
open Go.RowKit Go.Shelf
open Qos (Nd Ct Pd pd0 nd ct pd downs downs_succ downs_length)
attribute [local go_sem] Oper.semAt_some
/-- Two blocks lie as they lay. -/
def KpB (b Bs : Nat) (W W' : World) : Prop := W'.heap[b]? = W.heap[b]? ∧ W'.heap[Bs]? = W.heap[Bs]?
theorem KpB.refl (b Bs : Nat) (W : World) : KpB b Bs W W := ⟨rfl, rfl⟩
theorem KpB.trans {b Bs : Nat} {A B C : World} (h : KpB b Bs A B) (k : KpB b Bs B C) : KpB b Bs A C := ⟨k.1.trans h.1, k.2.trans h.2⟩
theorem cell_of_block {W W' : World} {a : Addr} (h : W'.heap[a.block]? = W.heap[a.block]?) : W'.cell? a = W.cell? a := by
  unfold World.cell?; rw [h]
/-- The iterator's pods: what lies there. -/
def RowP (W : World) (b o : Nat) (qs : List Pd) (cv : Nat → Value) : Prop :=
  ∀ k, k < qs.length → W.cell? ⟨b, o + k * 3, none⟩ = some (.string (pd qs k).nm) ∧ W.cell? ⟨b, o + k * 3 + 1, none⟩ = some (.int .i64 (pd qs k).pr) ∧ W.cell? ⟨b, o + k * 3 + 2, none⟩ = some (cv k)
theorem RowP.kept {W W' : World} {b o : Nat} {qs : List Pd} {cv : Nat → Value} (h : RowP W b o qs cv) (hb : W'.heap[b]? = W.heap[b]?) : RowP W' b o qs cv := fun k hk => by
  obtain ⟨h0, h1, h2⟩ := h k hk
  exact ⟨(cell_of_block (a := ⟨b, o + k * 3, none⟩) hb).trans h0, (cell_of_block (a := ⟨b, o + k * 3 + 1, none⟩) hb).trans h1, (cell_of_block (a := ⟨b, o + k * 3 + 2, none⟩) hb).trans h2⟩
theorem downs_next {n j : Nat} (h : j < n) : downs n (n - j) = downs n (n - (j + 1)) ++ [j] := by
  have e : n - j = n - (j + 1) + 1 := by omega
  rw [e, downs_succ]
  congr 2
  omega
set_option maxRecDepth 100000 in
set_option maxHeartbeats 2000000 in
theorem back1_in (F : Fence) (n : Nat) (h7 : F.fn 150) (hro : F.round = none) (hn : 1 ≤ n) (l Bs b o cap : Nat) (qs : List Pd) (cv : Nat → Value) (hlen : qs.length ≤ 16) (hcv : ∀ k, ∃ a m c, cv k = .slice a m c) (J Jx : List Nat → World → Prop)
    (hY : ∀ pre (x : Nat) W, J pre W → pre.length < qs.length → YieldAt F (n - 1) Try.prog l #[.int .i64 (x : Int), .agg #[.string (pd qs x).nm, .int .i64 (pd qs x).pr, cv x]] W fun e W' =>
      (e = .returned (.bool true) ∧ J (pre ++ [x]) W' ∧ KpB b Bs W W') ∨ (e = .returned (.bool false) ∧ Jx (pre ++ [x]) W'))
    (W : World) (hBs : W.cell? ⟨Bs, 0, none⟩ = some (.slice (some ⟨b, o, none⟩) qs.length cap)) (hc : RowP W b o qs cv) (h0 : J [] W) :
    CallsIn F n Try.prog 150 #[.func (.yield l) #[] #[], .pointer (some ⟨Bs, 0, none⟩)] W fun e W' => (∃ v, e = .returned v) ∧
      ((∃ ys, ys = downs qs.length qs.length ∧ J ys W') ∨ (∃ pre, True ∧ Jx pre W')) := by
  have hwr : wrap64 ((qs.length : Int) - 1) = (qs.length : Int) - 1 := by unfold wrap64; omega
  refine callsIn_of_wp Try.func150 rfl h7 ?_ hro
  simp only [Try.ntmps150, List.size_toArray, List.length_cons, List.length_nil, Nat.reduceAdd, Nat.reduceSub, Array.replicate_succ, Array.replicate_zero, List.push_toArray, List.append_toArray, List.nil_append, List.cons_append]
  gi_wp2
  gi_loopw [3] (fun i wr => ∃ j : Nat, j ≤ qs.length ∧ i = .int .i64 ((j : Int) - 1) ∧ J (downs qs.length (qs.length - j)) wr ∧ KpB b Bs W wr)
    (fun i _ => (intOf i + 1).toNat)
  case atStart => exact ⟨qs.length, Nat.le_refl _, rfl, by rw [Nat.sub_self]; exact h0, KpB.refl _ _ _⟩
  case round =>
    obtain ⟨j, hj, rfl, hJs, hkp⟩ := hrel
    clear hwr
    cases j with
    | zero =>
      rw [show ((0 : Nat) : Int) - 1 = -1 from rfl]
      have HJ := hideIt hJs
      clear hJs
      gi_wp2
      go_end0
      exact ⟨⟨_, rfl⟩, .inl ⟨_, rfl, by have := HJ.out; rwa [Nat.sub_zero] at this⟩⟩
    | succ j =>
      rw [show ((j + 1 : Nat) : Int) - 1 = (j : Int) by omega]
      have hjl : j < qs.length := by omega
      obtain ⟨c0, c1, c2⟩ := hc.kept hkp.1 j hjl
      have hB' : wr.cell? ⟨Bs, 0, none⟩ = some (.slice (some ⟨b, o, none⟩) qs.length cap) := (cell_of_block (a := ⟨Bs, 0, none⟩) hkp.2).trans hBs
      obtain ⟨fn, tmps, assign, body, hy, hR⟩ := hY _ j wr hJs (by rw [downs_length]; omega)
      have HD := hideIt (downs_next hjl)
      have HK := hideIt hkp
      have hwj : wrap64 ((j : Int) - 1) = (j : Int) - 1 := by unfold wrap64; omega
      obtain ⟨ca, cm, cc, hce⟩ := hcv j
      rw [hce] at c2 hy
      generalize pd qs j = x at *
      clear hJs hkp hY hcv hce
      gi_wp2
      refine hR.mono ?_
      rintro e W3 (⟨rfl, hJ3, hk3⟩ | ⟨rfl, hJx3⟩)
      · gi_wp2
        go_roundw
        case rel => exact ⟨j, by omega, rfl, by rw [HD.out]; exact hJ3, HK.out.trans hk3⟩
        case measure => simp [intOf]
      · gi_wp2
        refine bodyPost_ret (results_none rfl _ _ _) rfl ?_
        exact ⟨⟨_, rfl⟩, .inr ⟨_, trivial, hJx3⟩⟩
end Go.Proofs.Ythekalhceamcoaa
