/- maps.Values over what runs, slices.AppendSeq, slices.Collect: contracts. -/
import Derived.Test.YthekalhceamcoaaRK2
import Derived.Test.YthekalhceamcoaaTBase
import Derived.RangeFuncNested
import Derived.RangeFuncBound
import Derived.RangeFuncCalls
import Derived.RangeFuncLeaves
import Derived.RangeFuncBox
import Derived.RangeFuncMany
import Derived.Sort.MapsRangeIn
import Derived.Shelf.Abstract
import Derived.Shelf.RegionOpen
import Derived.WalkKit
import Derived.OwnWalkIn
import Derived.TacticsInMore
import Derived.LoopNIn
import Derived.LoopIn
import Derived.Maps.OwnIn
import Derived.Maps.AppendAt
namespace Go.Proofs.Ythekalhceamcoaa
open Go.RowKit Go.Shelf Go.Maps
attribute [local go_sem] Oper.semAt_some
set_option maxRecDepth 100000 in
theorem nameOf_inv {key : Value} {kl : Lit} (h : keyOf Try.prog 189 key = some kl) : ∃ cs : Array Value, key = .agg cs := by
  unfold keyOf at h
  rw [Try.underlying189] at h
  simp only at h
  split at h
  · rename_i hf
    cases key <;> simp [Value.formed, Try.underlying189] at hf
    exact ⟨_, rfl⟩
  · cases h
set_option maxRecDepth 100000 in
set_option maxHeartbeats 2000000 in
theorem values1_in (F : Fence) (n : Nat) (h8 : F.fn 154) (hro : F.round = none) (hn : 1 ≤ n) (l Bm b nn : Nat) (xs : List RV) (J Jx : List RV → World → Prop)
    (hY : ∀ pre (x : RV) W, J pre W → pre.length < xs.length → YieldAt F (n - 1) Try.prog l #[.agg #[.string x.pod, .string x.cont, .int .u64 x.cpus, .slice x.da x.dn x.dc]] W fun e W' =>
      (e = .returned (.bool true) ∧ J (pre ++ [x]) W' ∧ KeepsWalks W W') ∨ (e = .returned (.bool false) ∧ Jx (pre ++ [x]) W'))
    (W : World) (hJ : AbidesFrom W.heap.size J) (hm : W.cell? ⟨Bm, 0, none⟩ = some (.map (some b))) (hown : MapR W b nn xs) (h0 : J [] W) :
    CallsIn F n Try.prog 154 #[.func (.yield l) #[] #[], .pointer (some ⟨Bm, 0, none⟩)] W fun e W' => (∃ v, e = .returned v) ∧
      ((∃ ys, ys.Perm xs ∧ J ys W') ∨ (∃ pre, True ∧ Jx pre W')) := by
  have hkn := hown.keys
  obtain ⟨hsh, es, ho, he⟩ := hown
  have hsz : Maps.size (.map es : DataW Value) = xs.length := by rw [Maps.size_eq, he.length_eq, ents, List.length_map]
  refine callsIn_of_wp Try.func154 rfl h8 ?_ hro
  simp only [Try.ntmps154, List.size_toArray, List.length_cons, List.length_nil, Nat.reduceAdd, Nat.reduceSub, Array.replicate_succ, Array.replicate_zero, List.push_toArray, List.append_toArray, List.nil_append, List.cons_append]
  gi_wp2_with (first
    | (gi_at_range; refine wpListIn_range_own _ rfl _ 184 rfl 189 119 keyN Try.underlying184 _ b nn _ rfl ho ?_; intro w0 hrg0 hg0 hs0)
    | gi_in)
  go_frame
  gi_loopw [4] (fun _ wr => ∃ (left : Lit → Bool) (cnt : Nat) (pre : List RV), wr.ranges Try.prog 189 rvElem b W.heap.size nn (.map es) left cnt ∧ pre.length + cnt ≤ xs.length ∧ Came left xs pre ∧ J pre wr)
    (fun _ wr => wr.rangeLeft b W.heap.size)
  case atStart =>
    exact ⟨_, _, [], hrg0, by rw [hsz]; simp, Came.start he, hJ [] W w0 none h0 hg0 (fun r e => by cases e)⟩
  case round =>
    obtain ⟨left, cnt, pre, hrg, hcs, hC, hJs⟩ := hrel
    gi_wp2_with (first
      | (gi_at_next; refine wpListIn_next_ranges _ rfl _ rfl 189 keyN rvElem (fun cs : Array Value => Value.agg cs) RV.val (fun key kl hk => nameOf_inv hk) (fun v y hv => by obtain ⟨c, rfl, _⟩ := rvElem_inv hv; exact ⟨c, rfl⟩) b W.heap.size nn _ _ _ rfl hrg ?_ ?_)
      | gi_in)
    · intro hc0 hl0
      gi_wp2
      go_end0
      exact ⟨⟨_, rfl⟩, .inl ⟨pre, hC.finish hl0, hJs⟩⟩
    · intro x c kl yd yp w2 cnt2 hkey hlk hv hat hrg2 hlt hg2 hs2 hen
      rw [rvElem_mk] at hv
      obtain ⟨rfl, rfl⟩ := Prod.mk.inj (Option.some.inj hv)
      obtain ⟨hC2, _⟩ := hC.step he hkn hlk hat
      have hJ2 : J pre w2 := hJ pre wr w2 (some W.heap.size) hJs hg2 (fun r e => by cases e; exact ⟨Nat.le_refl _, hrg.iter_walk⟩)
      have hJ3 : J pre (w2.alloc (.cells #[.string c.pod, .string c.cont, .int .u64 c.cpus, .slice c.da c.dn c.dc] 119)) := hJ pre w2 _ none hJ2 (World.grownBy_alloc _ _ _) (fun r e => by cases e)
      have hrg3 := hrg2.alloc (.cells #[.string c.pod, .string c.cont, .int .u64 c.cpus, .slice c.da c.dn c.dc] 119)
      obtain ⟨fn, tmps, assign, body, hy, hR⟩ := hY pre c _ hJ3 (by omega)
      clear hs2 hv
      unfold RV.val at hen ⊢
      gi_wp2
      refine hR.mono ?_
      rintro e W3 (⟨rfl, hJ4, hk3⟩ | ⟨rfl, hJx3⟩)
      · have hrg4 := hrg3.of_walks hk3
        have HC2 := hideIt hC2
        have HLT := hideIt hlt
        clear hC2 hat hen hy hR
        gi_wp2
        go_roundw
        case rel => exact ⟨_, cnt2, pre ++ [c], hrg4, by simp; omega, HC2.out, hJ4⟩
        case measure => rw [hrg4.left_eq, hrg.left_eq]; exact HLT.out
      · clear hen hy hR
        gi_wp2
        refine bodyPost_ret (results_none rfl _ _ _) rfl ?_
        exact ⟨⟨_, rfl⟩, .inr ⟨_, trivial, hJx3⟩⟩
/-- maps.Values: a function that has the map in a box. -/
theorem values_any (m : Option Nat) (w : World) :
    Calls Try.prog 122 #[.map m] w fun e w' => e = .returned (.func (.func 154) #[] #[.pointer (some ⟨w.heap.size, 0, none⟩)]) ∧ w' = w.alloc (.cells #[.map m] 184) := by
  go_enter Try.func122, Try.ntmps122
  go_wp2_with fail
  go_ret
  exact ⟨rfl, rfl⟩
def encR (x : RV) : Array Value := #[.agg #[.string x.pod, .string x.cont, .int .u64 x.cpus, .slice x.da x.dn x.dc]]
theorem values_stops (F : Fence) (n : Nat) (h8 : F.fn 154) (hro : F.round = none) (hn : 1 ≤ n) (Bm b nn : Nat) (xs : List RV) (w : World) (hBm : Bm < w.heap.size) (hm : w.cell? ⟨Bm, 0, none⟩ = some (.map (some b))) (hown : MapR w b nn xs) :
    SeqStopsK F n Try.prog 154 #[.pointer (some ⟨Bm, 0, none⟩)] encR KeepsWalks (fun ys => ys.Perm xs) (fun _ => True) xs.length w := fun l J Jx W hW hJ _ hY h0 =>
  values1_in F n h8 hro hn l Bm b nn xs J Jx hY W hJ ((hW.cell (p := ⟨Bm, 0, none⟩) hBm).trans hm) (hown.block (hW.block b hown.lt)) h0
/-- A row of its own of what runs. -/
def RRow (base : Nat) (w : World) (v : Value) (ys : List RV) : Prop := w.ownsRow base 119 4 v ys.length (ys.flatMap RV.cells)
theorem infoRun : (Try.prog.info? 119).map (fun i => (i.zero, i.size, i.bytes)) = some (some (.agg #[.string ByteArray.empty, .string ByteArray.empty, .int .u64 0, .slice none 0 0]), 4, 64) := by kernel_rfl
theorem new_run (w : World) (x : RV) (t : TypeId) : ∀ j u, (RV.cells x)[j]? = some u → (w.alloc (.cells #[.string x.pod, .string x.cont, .int .u64 x.cpus, .slice x.da x.dn x.dc] t)).cell? ((⟨w.heap.size, 0, none⟩ : Addr).add j) = some u := by
  intro j u hu
  rw [Addr.add_lit, Nat.zero_add]
  match j, hu with
  | 0, hu => simp [RV.cells] at hu; subst hu; simp
  | 1, hu => simp [RV.cells] at hu; subst hu; simp
  | 2, hu => simp [RV.cells] at hu; subst hu; simp
  | 3, hu => simp [RV.cells] at hu; subst hu; simp
  | n + 4, hu => simp [RV.cells] at hu
theorem RRow.push {base : Nat} {w : World} {v : Value} {ys : List RV} {x : RV} (h : w.ownsRow base 119 4 v (ys.length + 1) (ys.flatMap RV.cells ++ RV.cells x)) : RRow base w v (ys ++ [x]) := by
  unfold RRow
  rw [List.length_append, List.flatMap_append]
  simpa using h
set_option maxRecDepth 100000 in
set_option maxHeartbeats 2000000 in
theorem appendSeq_any (Bm b nn : Nat) (xs : List RV) (w : World) (hm : w.cell? ⟨Bm, 0, none⟩ = some (.map (some b))) (hown : MapR w b nn xs) (hl : xs.length ≤ 1000) :
    Calls Try.prog 176 #[.slice none 0 0, .func (.func 154) #[] #[.pointer (some ⟨Bm, 0, none⟩)]] w fun e w' => (∃ v ys, e = .returned v ∧ ys.Perm xs ∧ RRow w.heap.size w' v ys) ∧ Below w.heap.size w w' := by
  obtain ⟨i0, hi, hz0, hz1, hz2⟩ := info_parts infoRun
  refine (callsIn_wide (n := 3)).1 ?_
  refine callsIn_of_wp_marks Try.func176 rfl trivial ?_ rfl
  simp only [Try.ntmps176, List.size_toArray, List.length_cons, List.length_nil, Nat.reduceAdd, Nat.reduceSub, Array.replicate_succ, Array.replicate_zero, List.push_toArray, List.append_toArray, List.nil_append, List.cons_append]
  gi_wp2_with fail
  have hBmlt := World.block_lt_of_cell? w _ hm
  have HB0 := hideIt ((Below.refl w.heap.size w).alloc (Nat.le_refl _) (.cells #[.slice none 0 0] 117))
  have HSEQ := hideIt (values_stops Fence.wide (3 - 1) trivial rfl (by omega) Bm b nn xs (w.alloc (.cells #[.slice none 0 0] 117)) (by simp; exact Nat.lt_succ_of_lt hBmlt) ((HB0.out.cell (p := ⟨Bm, 0, none⟩) hBmlt).trans hm) (hown.block (HB0.out.block b hown.lt)))
  have HX0 := hideIt (Boxed.new w 117 (.slice none 0 0))
  have hsA : (w.alloc (.cells #[.slice none 0 0] 117)).heap.size = w.heap.size + 1 := by simp
  generalize w.alloc (.cells #[.slice none 0 0] 117) = A at *
  refine wpIn_rangeFunc_ownH (α := RV) rfl (by omega) (gf := 154) (lb := #[.pointer (some ⟨Bm, 0, none⟩)]) rfl trivial (enters_of Try.func154 (by kernel_rfl) rfl)
    HSEQ.out walksK_t walksK_b (Below.refl _ _) (fun _ => rfl)
    (fun pre W => (∃ v, Boxed W w.heap.size 117 v ∧ W.ownsRow w.heap.size 119 4 v pre.length (pre.flatMap RV.cells) ∧ True) ∧ Below w.heap.size w W)
    (fun _ _ _ => False)
    (OwnFrom.and (Own.from (holdsRow_own w.heap.size w.heap.size 117 119 4 (fun pre : List RV => pre.length) (fun pre => pre.flatMap RV.cells) (fun _ _ => True)) _) (ownFrom_below (Nat.le_refl _) (by omega)))
    (fun _ _ _ _ _ hs _ _ => hs)
    ⟨⟨_, HX0.out, World.ownsRow_nil _ _ _ _, trivial⟩, HB0.out⟩
    (fun x a' W => ∃ Bx, A.heap.size ≤ Bx ∧ W.heap[Bx]? = some (.cells #[.string x.pod, .string x.cont, .int .u64 x.cpus, .slice x.da x.dn x.dc] 119 (0, 0)) ∧ a' = { tmps := #[Value.slice none 0 0, Value.func (Fn.func 154) #[] #[Value.pointer (some { block := Bm, off := 0 })], Value.pointer (some { block := w.heap.size, off := 0 }), undef, Value.slice none 0 0, .pointer (some ⟨Bx, 0, none⟩), Value.func (Fn.func 154) #[] #[Value.pointer (some { block := Bm, off := 0 })], .agg #[.string x.pod, .string x.cont, .int .u64 x.cpus, .slice x.da x.dn x.dc], undef, undef, undef, undef, undef], defers := [] })
    (fun x a' => Own.from (fun u W W' row hs hg hr => by
      obtain ⟨Bx, h1, h2, h3⟩ := hs
      refine ⟨Bx, h1, (hg.block Bx (Array.getElem?_eq_some_iff.1 h2).1 (fun e => ?_)).trans h2, h3⟩
      obtain ⟨o, ho, hc⟩ := hr Bx e.symm
      rw [h2] at ho
      cases ho
      cases hc) _) ?assign ?body ?done ?stop
  case assign =>
    rintro l pre x W K ⟨⟨v, hbx, hrow, _⟩, hB⟩ hK
    have HK := hideIt hK
    clear hK
    unfold encR
    gi_wp2_with fail
    exact HK.out _ _ ((KeepsOthers.alloc _ _).from _) (KeepsWalks.alloc _ _) ⟨⟨v, hbx.alloc _, hrow.alloc _, trivial⟩, hB.alloc hB.size _⟩ ⟨W.heap.size, by have := hbx.lt; have := hB.size; omega, World.alloc_heap_new W _, rfl⟩
  case body =>
    rintro l pre x a' W hl0 ⟨r, hr⟩ ⟨⟨v, hbx, hrow, _⟩, hB⟩ ⟨Bx, hBx, hpx, rfl⟩ hlt
    have c0 : W.cell? ⟨Bx, 0, none⟩ = some (.string x.pod) := by simp [World.cell?, hpx]
    have c1 : W.cell? ⟨Bx, 1, none⟩ = some (.string x.cont) := by simp [World.cell?, hpx]
    have c2 : W.cell? ⟨Bx, 2, none⟩ = some (.int .u64 x.cpus) := by simp [World.cell?, hpx]
    have c3 : W.cell? ⟨Bx, 3, none⟩ = some (.slice x.da x.dn x.dc) := by simp [World.cell?, hpx]
    have hcb := hbx.cell
    have HN := hideIt (new_run W x 119)
    have HROW := hideIt hrow
    have HBX := hideIt hbx
    have HB := hideIt hB
    have hpl : pre.length ≤ 1000 := by omega
    clear hrow hbx hB hpx hr
    gi_wp2_with (gi_at_builtin; refine wpListIn_append_own _ rfl _ _ 117 rfl w.heap.size 119 i0 (.agg #[.string ByteArray.empty, .string ByteArray.empty, .int .u64 0, .slice none 0 0]) 4 64 Try.underlying117 hi hz0 hz1 hz2 rfl (by decide) _ _ _ rfl (HROW.out.alloc _) ⟨W.heap.size, 0, none⟩ 1 1 (RV.cells x) rfl rfl HN.out (by intro u hu; simp [RV.cells] at hu; rcases hu with rfl | rfl | rfl | rfl <;> rfl) (by unfold maxLen; omega) (by omega) (by have := HB.out.size; simp; omega) ?_; intro v' w1 hown' hgrow _; obtain ⟨g', cap', rfl⟩ := ownsRow_succ hown'; obtain ⟨hv1, hv2, hr2, hk2, hb2⟩ := HBX.out.appended (by decide) HROW.out HB.out.size (Nat.le_refl _) hown' hgrow; have hc1 := hv1.cell; have hf1 := hv1.frozen)
    exact ⟨hk2.from _, ⟨hk2.size, fun k o hk ho => hk2.same k o hk (Obj.not_cells_of_walk ho)⟩, ⟨_, hv2, RRow.push hr2⟩, HB.out.trans hb2⟩
  case done =>
    rintro D ys W hD hp ⟨⟨v, hbx, hrow, _⟩, hB⟩ hK
    have hc := hbx.cell
    have HROW := hideIt hrow
    have HB := hideIt hB
    clear hrow hbx hB
    gi_wp2_with fail
    refine ⟨by simp, .inl ⟨_, _, rfl, run_takeDeferred hK, ?_⟩⟩
    refine ⟨_, results_tmp rfl _ _ _, ?_⟩
    exact ⟨⟨v, rfl, ys, hp, ownsRow_putObj HROW.out _ hK rfl⟩, HB.out.trans (belowK_b (w := w) (Nat.le_refl _) _ D _ _ (by omega) hK rfl rfl)⟩
  case stop => exact fun _ _ _ _ _ _ h _ => h.elim
theorem RRow.slice {base : Nat} {w : World} {v : Value} {ys : List RV} (h : RRow base w v ys) : ∃ a c, v = .slice a ys.length c ∧ ys.length ≤ c := by
  rcases h.2 with ⟨hv, hn⟩ | ⟨g, cap, cur, hv, _, _, hc1, _⟩
  · exact ⟨none, 0, by rw [hv, hn], by omega⟩
  · exact ⟨_, cap, hv, hc1⟩
set_option maxRecDepth 100000 in
set_option maxHeartbeats 1000000 in
theorem collect_any (Bm b nn : Nat) (xs : List RV) (w : World) (hm : w.cell? ⟨Bm, 0, none⟩ = some (.map (some b))) (hown : MapR w b nn xs) (hl : xs.length ≤ 1000) :
    Calls Try.prog 152 #[.func (.func 154) #[] #[.pointer (some ⟨Bm, 0, none⟩)]] w fun e w' => (∃ v ys, e = .returned v ∧ ys.Perm xs ∧ RRow w.heap.size w' v ys) ∧ Below w.heap.size w w' := by
  have HA := hideIt (appendSeq_any Bm b nn xs w hm hown hl)
  clear hm hown
  go_enter Try.func152, Try.ntmps152
  go_wp2_with fail
  refine HA.out.mono ?_
  rintro e w1 ⟨⟨v, ys, rfl, hp, hr⟩, hb⟩
  have HR := hideIt hr
  have HP := hideIt hp
  have HB := hideIt hb
  obtain ⟨a, c, rfl, _⟩ := hr.slice
  clear hr hp hb
  go_wp2_with fail
  go_ret
  exact ⟨⟨_, ys, rfl, HP.out, HR.out⟩, HB.out⟩
end Go.Proofs.Ythekalhceamcoaa
