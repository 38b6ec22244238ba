/- What slices.SortFunc answers with package pick's own comparison: contracts. -/
import Derived.Test.YtgooigfdlbpkeabPMap
import Derived.Shelf.SlSortCmp.NoneTotal
import Derived.Shelf.SlicesG.Cmp
import Derived.Shelf.Lay
import Derived.Ground.SlsfProg
import Derived.Ground.SlgcProg
namespace Go.Proofs
open Go.Shelf
shelf_lay_g SlLaysF.n6 Slsf 6 at Try 27 as Try.sortL
shelf_lay_g SlLaysC2.n5 Slgc 5 at Try 30 as Try.cmpL
end Go.Proofs
namespace Go.Proofs.Ytgooigfdlbpkeab
open Go.RowKit
open Ost (Cpu cpu0 chosen cnt dif less order)
open Go.Sort
/-- A world that has grown alone. -/
def Grows (w w' : World) : Prop := ∃ q os, w' = grow (w.drewN q) os
theorem Grows.refl (w : World) : Grows w w := ⟨0, #[], by rw [grow_empty]; rfl⟩
theorem Grows.alloc {w w' : World} (h : Grows w w') (o : Obj) : Grows w (w'.alloc o) := by
  obtain ⟨q, os, rfl⟩ := h
  exact ⟨q, os ++ #[o], by rw [alloc_eq_grow, grow_grow]⟩
theorem Grows.drewN {w w' : World} (h : Grows w w') (n : Nat) : Grows w (w'.drewN n) := by
  obtain ⟨q, os, rfl⟩ := h
  exact ⟨q + n, os, by simp only [World.drewN, grow, Nat.add_assoc]⟩
theorem Grows.trans {a b c : World} (h : Grows a b) (k : Grows b c) : Grows a c := by
  obtain ⟨q, os, rfl⟩ := h
  obtain ⟨q', os', rfl⟩ := k
  exact ⟨q + q', os ++ os', by simp only [World.drewN, grow, Nat.add_assoc, Array.append_assoc]⟩
theorem Grows.below {w w' : World} (h : Grows w w') : Below w.heap.size w w' := by
  obtain ⟨q, os, rfl⟩ := h
  exact ⟨rfl, rfl, rfl, by simp [World.drewN], fun k hk => by simp [grow, World.drewN, Array.getElem?_append, hk]⟩
/-- The sort's worlds: what lies below the row's block is as it was. -/
theorem below_sort (w : World) (K blk off m : Nat) (dk : Array Nat) (os : Array Obj) (hK : K ≤ blk) (hw : K ≤ w.heap.size) : Below K w (sortWorld (fun n : Nat => Value.int .i64 (n : Int)) w blk off m dk os) := by
  refine ⟨rfl, rfl, rfl, ?_, fun k hk => ?_⟩
  · simp [sortWorld, grow, Sort.putRow, Sort.mapBlock, Sort.ahead]
  · have h1 : k < w.heap.size := by omega
    have h2 : blk ≠ k := by omega
    simp [sortWorld, grow, Sort.putRow, Sort.mapBlock, Sort.ahead, Array.getElem?_append, Array.getElem_modify, h1, h2]
set_option maxHeartbeats 1000000 in
theorem of_here (n : Nat) (tb b o c : Nat) (l : List Cpu) (w : World) (ht : TopoAt w tb b o c l) :
    Calls Try.prog 25 #[.pointer (some ⟨tb, 0, none⟩), .int .i64 n] w fun e w' => (∃ err, e = .returned (.tuple #[.agg #[.int .i64 (l.getD n cpu0).core, .int .i64 (l.getD n cpu0).sock, .int .i64 (l.getD n cpu0).node], err])) ∧ Grows w w' := by
  have hB0 := ((Below.refl w.heap.size w).alloc (Nat.le_refl _) (.cells #[.int .i64 0, .int .i64 0, .int .i64 0] 32))
  have hT := (ht.below hB0).cell
  have hl := ht.len
  by_cases hn : n < l.length
  · obtain ⟨hcell0, hcell1, hcell2⟩ := (ht.below hB0).cells n hn
    clear ht hB0
    generalize l.getD n cpu0 = x at *
    go_enter Try.func25, Try.ntmps25
    go_wp2_with fail
    (try simp only [Exit.inBlock, Exit.then])
    refine bodyPost_ret (v := .tuple #[.agg #[.int .i64 x.core, .int .i64 x.sock, .int .i64 x.node], .nilIface]) ?_ rfl ⟨⟨_, rfl⟩, ?_⟩
    · rw [results_cell_tmp rfl]
      go_simp
    · exact (Grows.refl w).alloc _
  · have hx : l.getD n cpu0 = cpu0 := by simp [show l.length ≤ n by omega]
    rw [hx]
    clear ht hB0 hx
    have h2 : (l.length : Int) ≤ n := by omega
    clear hn
    go_enter Try.func25, Try.ntmps25
    go_wp2_with fail
    (try simp only [Exit.inBlock, Exit.then])
    refine bodyPost_ret (v := .tuple #[.agg #[.int .i64 0, .int .i64 0, .int .i64 0], .iface 41 (.int .i64 1)]) ?_ rfl ⟨⟨_, rfl⟩, ?_⟩
    · rw [results_cell_tmp rfl]
      go_simp
    · exact (Grows.refl w).alloc _
/-- What package pick's comparison stands on: the topology, how many are left of each core, and where the closure's own variables lie. -/
structure Stand (w : World) (tc lc fc tb b o c mb n : Nat) (l : List Cpu) (f : Int → Int) : Prop where
  t : w.cell? ⟨tc, 0, none⟩ = some (.pointer (some ⟨tb, 0, none⟩))
  m : w.cell? ⟨lc, 0, none⟩ = some (.map (some mb))
  fn : w.cell? ⟨fc, 0, none⟩ = some (.func (.func 24) #[] #[.pointer (some ⟨tc, 0, none⟩), .pointer (some ⟨lc, 0, none⟩)])
  topo : TopoAt w tb b o c l
  left : LeftIs w mb n f
theorem Stand.below {w w' : World} {tc lc fc tb b o c mb n K : Nat} {l : List Cpu} {f : Int → Int} (h : Stand w tc lc fc tb b o c mb n l f) (hb : Below K w w') (hK : tc < K ∧ lc < K ∧ fc < K ∧ tb < K ∧ b < K ∧ mb < K) : Stand w' tc lc fc tb b o c mb n l f := by
  obtain ⟨h1, h2, h3, h4, h5, h6⟩ := hK
  exact ⟨(hb.cell (p := ⟨tc, 0, none⟩) h1).trans h.t, (hb.cell (p := ⟨lc, 0, none⟩) h2).trans h.m, (hb.cell (p := ⟨fc, 0, none⟩) h3).trans h.fn,
    ⟨(hb.cell (p := ⟨tb, 0, none⟩) h4).trans h.topo.cell, fun k hk => by
      obtain ⟨a1, a2, a3⟩ := h.topo.cells k hk
      exact ⟨(hb.cell (p := ⟨b, o + k * 3, none⟩) h5).trans a1, (hb.cell (p := ⟨b, o + k * 3 + 1, none⟩) h5).trans a2, (hb.cell (p := ⟨b, o + k * 3 + 2, none⟩) h5).trans a3⟩, Nat.lt_of_lt_of_le h.topo.lt hb.size, h.topo.len⟩,
    h.left.below hb h6⟩
theorem Stand.lts {w : World} {tc lc fc tb b o c mb n : Nat} {l : List Cpu} {f : Int → Int} (h : Stand w tc lc fc tb b o c mb n l f) : tc < w.heap.size ∧ lc < w.heap.size ∧ fc < w.heap.size ∧ tb < w.heap.size ∧ b < w.heap.size ∧ mb < w.heap.size :=
  ⟨World.block_lt_of_cell? w _ h.t, World.block_lt_of_cell? w _ h.m, World.block_lt_of_cell? w _ h.fn, h.topo.tlt, h.topo.lt, h.left.lt⟩
theorem core_in {l : List Cpu} (hg : Good l) (n : Nat) : 0 ≤ (l.getD n cpu0).core ∧ (l.getD n cpu0).core < 64 := by
  by_cases hn : n < l.length
  · have := hg (l.getD n cpu0) (by simp [hn])
    omega
  · have hx : l.getD n cpu0 = cpu0 := by simp [show l.length ≤ n by omega]
    rw [hx]; decide
set_option maxRecDepth 100000 in
set_option maxHeartbeats 1000000 in
/-- 'leftBeside'. -/
theorem beside_any (k : Nat) (tc lc fc tb b o c mb n : Nat) (l : List Cpu) (f : Int → Int) (w : World) (h : Stand w tc lc fc tb b o c mb n l f) (hg : Good l) :
    Calls Try.prog 24 #[.int .i64 k, .pointer (some ⟨tc, 0, none⟩), .pointer (some ⟨lc, 0, none⟩)] w fun e w' => e = .returned (.int .i64 (f (l.getD k cpu0).core)) ∧ Grows w w' := by
  have HO := hideIt (of_here k tb b o c l w h.topo)
  have HS := hideIt h
  have HL := hideIt h.lts
  have ht := h.t
  obtain ⟨h0, h64⟩ := core_in hg k
  clear h hg
  generalize l.getD k cpu0 = x at *
  go_enter Try.func24, Try.ntmps24
  go_wp2_with fail
  refine HO.out.mono ?_
  rintro e w1 ⟨⟨err, rfl⟩, hgr⟩
  have HS1 := hideIt (HS.out.below hgr.below HL.out)
  have hm := cell_alloc HS1.out.m (.cells #[.int .i64 x.core, .int .i64 x.sock, .int .i64 x.node] 32)
  have hM := HS1.out.left.alloc (.cells #[.int .i64 x.core, .int .i64 x.sock, .int .i64 x.node] 32)
  clear HO ht
  go_wp2_with (at_lookup; refine wpList_lookLeft _ rfl _ _ rfl mb n f x.core h0 h64 rfl rfl hM ?_)
  go_ret
  exact ⟨rfl, hgr.alloc _⟩
end Go.Proofs.Ytgooigfdlbpkeab
