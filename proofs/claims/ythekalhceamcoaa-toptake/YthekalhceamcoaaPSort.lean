/- What slices.SortFunc answers with package pick's own comparison: contracts. -/
import Derived.Test.YthekalhceamcoaaPMap
import Derived.Shelf.SlSortCmp.NoneTotal
import Derived.Shelf.SlicesG.Cmp
import Derived.Shelf.Lay
import Derived.Ground.SlsfProg
import Derived.Ground.SlgcProg
namespace Go.Proofs
open Go.Shelf
def Try.sortL_ren : Go.Shelf.Ren := ⟨fun | 6 => 160 | 15 => 135 | 14 => 179 | 28 => 171 | 29 => 172 | 20 => 202 | 21 => 203 | 22 => 204 | 23 => 205 | 24 => 206 | 25 => 207 | 26 => 208 | 27 => 209 | 46 => 217 | 47 => 181 | 48 => 182 | 49 => 218 | 50 => 219 | 57 => 222 | n => n, fun | 22 => 57 | 24 => 3 | 25 => 222 | 3 => 3 | 39 => 152 | 0 => 0 | 53 => 241 | 55 => 23 | 4 => 4 | 46 => 235 | 45 => 234 | 50 => 154 | 5 => 5 | 9 => 9 | 66 => 248 | 70 => 252 | 76 => 269 | 77 => 270 | n => n, fun | n => n⟩
theorem Try.sortL : Go.Proofs.SlLaysF.n6 Try.prog Try.sortL_ren := {
  mixed := by kernel_rfl
  f6 := ⟨Try.f160.name, by decide, Try.func160.trans (congrArg some (by kernel_rfl))⟩
  f14 := ⟨Try.f179.name, by decide, Try.func179.trans (congrArg some (by kernel_rfl))⟩
  f15 := Try.func135.trans (congrArg some (by kernel_rfl))
  f20 := ⟨Try.f202.name, by decide, Try.func202.trans (congrArg some (by kernel_rfl))⟩
  f21 := ⟨Try.f203.name, by decide, Try.func203.trans (congrArg some (by kernel_rfl))⟩
  f22 := ⟨Try.f204.name, by decide, Try.func204.trans (congrArg some (by kernel_rfl))⟩
  f23 := ⟨Try.f205.name, by decide, Try.func205.trans (congrArg some (by kernel_rfl))⟩
  f24 := ⟨Try.f206.name, by decide, Try.func206.trans (congrArg some (by kernel_rfl))⟩
  f25 := ⟨Try.f207.name, by decide, Try.func207.trans (congrArg some (by kernel_rfl))⟩
  f26 := ⟨Try.f208.name, by decide, Try.func208.trans (congrArg some (by kernel_rfl))⟩
  f27 := ⟨Try.f209.name, by decide, Try.func209.trans (congrArg some (by kernel_rfl))⟩
  f28 := Try.func171.trans (congrArg some (by kernel_rfl))
  f29 := Try.func172.trans (congrArg some (by kernel_rfl))
  f46 := ⟨Try.f217.name, by decide, Try.func217.trans (congrArg some (by kernel_rfl))⟩
  f47 := Try.func181.trans (congrArg some (by kernel_rfl))
  f48 := Try.func182.trans (congrArg some (by kernel_rfl))
  f49 := ⟨Try.f218.name, by decide, Try.func218.trans (congrArg some (by kernel_rfl))⟩
  f50 := ⟨Try.f219.name, by decide, Try.func219.trans (congrArg some (by kernel_rfl))⟩
  f57 := ⟨Try.f222.name, by decide, Try.func222.trans (congrArg some (by kernel_rfl))⟩
  t0 := Try.underlying0
  a0 := Try.isAgg0
  z0 := Try.sizeOf0
  v0 := Try.zeroValue0
  t3 := Try.underlying3
  a3 := Try.isAgg3
  z3 := Try.sizeOf3
  v3 := Try.zeroValue3
  t4 := Try.underlying4
  a4 := Try.isAgg4
  z4 := Try.sizeOf4
  v4 := Try.zeroValue4
  t5 := Try.underlying5
  a5 := Try.isAgg5
  z5 := Try.sizeOf5
  v5 := Try.zeroValue5
  t9 := Try.underlying9
  a9 := Try.isAgg9
  z9 := Try.sizeOf9
  v9 := Try.zeroValue9
  t22 := Try.underlying57
  a22 := Try.isAgg57
  z22 := Try.sizeOf57
  v22 := Try.zeroValue57
  a24 := Try.isAgg3
  z24 := Try.sizeOf3
  t25 := Try.underlying222
  a25 := Try.isAgg222
  z25 := Try.sizeOf222
  v25 := Try.zeroValue222
  t39 := Try.underlying152
  a39 := Try.isAgg152
  z39 := Try.sizeOf152
  v39 := Try.zeroValue152
  t45 := Try.underlying234
  a45 := Try.isAgg234
  z45 := Try.sizeOf234
  v45 := Try.zeroValue234
  t46 := Try.underlying235
  a46 := Try.isAgg235
  z46 := Try.sizeOf235
  v46 := Try.zeroValue235
  t50 := Try.underlying154
  a50 := Try.isAgg154
  z50 := Try.sizeOf154
  v50 := Try.zeroValue154
  t53 := Try.underlying241
  a53 := Try.isAgg241
  z53 := Try.sizeOf241
  v53 := Try.zeroValue241
  t55 := Try.underlying23
  a55 := Try.isAgg23
  z55 := Try.sizeOf23
  v55 := Try.zeroValue23
  t66 := Try.underlying248
  a66 := Try.isAgg248
  z66 := Try.sizeOf248
  v66 := Try.zeroValue248
  t70 := Try.underlying252
  a70 := Try.isAgg252
  z70 := Try.sizeOf252
  v70 := Try.zeroValue252
  t76 := Try.underlying269
  a76 := Try.isAgg269
  z76 := Try.sizeOf269
  v76 := Try.zeroValue269
  t77 := Try.underlying270
  a77 := Try.isAgg270
  z77 := Try.sizeOf270
  v77 := Try.zeroValue270 }
def Try.cmpL_ren : Go.Shelf.Ren := ⟨fun | 5 => 148 | 7 => 175 | n => n, fun | 22 => 3 | 3 => 3 | 4 => 4 | n => n, fun | n => n⟩
theorem Try.cmpL : Go.Proofs.SlLaysC2.n5 Try.prog Try.cmpL_ren := {
  mixed := by kernel_rfl
  f5 := ⟨Try.f148.name, by decide, Try.func148.trans (congrArg some (by kernel_rfl))⟩
  f7 := ⟨Try.f175.name, by decide, Try.func175.trans (congrArg some (by kernel_rfl))⟩
  t3 := Try.underlying3
  a3 := Try.isAgg3
  z3 := Try.sizeOf3
  v3 := Try.zeroValue3
  t4 := Try.underlying4
  a4 := Try.isAgg4
  z4 := Try.sizeOf4
  v4 := Try.zeroValue4
  t22 := Try.underlying3
  a22 := Try.isAgg3
  z22 := Try.sizeOf3
  v22 := Try.zeroValue3 }
end Go.Proofs
namespace Go.Proofs.Ythekalhceamcoaa
open Go.RowKit
open Ost (Cpu cpu0 chosen cnt dif less order)
open Go.Sort
/-- A world that has grown alone. -/
def Grows (w w' : World) : Prop := ∃ q os, w' = grow (w.drewN q) os
theorem Grows.refl (w : World) : Grows w w := ⟨0, #[], by rw [grow_empty]; rfl⟩
theorem Grows.alloc {w w' : World} (h : Grows w w') (o : Obj) : Grows w (w'.alloc o) := by
  obtain ⟨q, os, rfl⟩ := h
  exact ⟨q, os ++ #[o], by rw [alloc_eq_grow, grow_grow]⟩
theorem Grows.drewN {w w' : World} (h : Grows w w') (n : Nat) : Grows w (w'.drewN n) := by
  obtain ⟨q, os, rfl⟩ := h
  exact ⟨q + n, os, by simp only [World.drewN, grow, Nat.add_assoc]⟩
theorem Grows.trans {a b c : World} (h : Grows a b) (k : Grows b c) : Grows a c := by
  obtain ⟨q, os, rfl⟩ := h
  obtain ⟨q', os', rfl⟩ := k
  exact ⟨q + q', os ++ os', by simp only [World.drewN, grow, Nat.add_assoc, Array.append_assoc]⟩
theorem Grows.below {w w' : World} (h : Grows w w') : Below w.heap.size w w' := by
  obtain ⟨q, os, rfl⟩ := h
  exact ⟨rfl, rfl, rfl, by simp [World.drewN], fun k hk => by simp [grow, World.drewN, Array.getElem?_append, hk]⟩
/-- The sort's worlds: what lies below the row's block is as it was. -/
theorem below_sort (w : World) (K blk off m : Nat) (dk : Array Nat) (os : Array Obj) (hK : K ≤ blk) (hw : K ≤ w.heap.size) : Below K w (sortWorld (fun n : Nat => Value.int .i64 (n : Int)) w blk off m dk os) := by
  refine ⟨rfl, rfl, rfl, ?_, fun k hk => ?_⟩
  · simp [sortWorld, grow, Sort.putRow, Sort.mapBlock, Sort.ahead]
  · have h1 : k < w.heap.size := by omega
    have h2 : blk ≠ k := by omega
    simp [sortWorld, grow, Sort.putRow, Sort.mapBlock, Sort.ahead, Array.getElem?_append, Array.getElem_modify, h1, h2]
set_option maxHeartbeats 1000000 in
theorem of_here (n : Nat) (tb b o c : Nat) (l : List Cpu) (w : World) (ht : TopoAt w tb b o c l) :
    Calls Try.prog 158 #[.pointer (some ⟨tb, 0, none⟩), .int .i64 n] w fun e w' => (∃ err, e = .returned (.tuple #[.agg #[.int .i64 (l.getD n cpu0).core, .int .i64 (l.getD n cpu0).sock, .int .i64 (l.getD n cpu0).node], err])) ∧ Grows w w' := by
  have hB0 := ((Below.refl w.heap.size w).alloc (Nat.le_refl _) (.cells #[.int .i64 0, .int .i64 0, .int .i64 0] 40))
  have hT := (ht.below hB0).cell
  have hl := ht.len
  by_cases hn : n < l.length
  · obtain ⟨hcell0, hcell1, hcell2⟩ := (ht.below hB0).cells n hn
    clear ht hB0
    generalize l.getD n cpu0 = x at *
    go_enter Try.func158, Try.ntmps158
    go_wp2_with fail
    (try simp only [Exit.inBlock, Exit.then])
    refine bodyPost_ret (v := .tuple #[.agg #[.int .i64 x.core, .int .i64 x.sock, .int .i64 x.node], .nilIface]) ?_ rfl ⟨⟨_, rfl⟩, ?_⟩
    · rw [results_cell_tmp rfl]
      go_simp
    · exact (Grows.refl w).alloc _
  · have hx : l.getD n cpu0 = cpu0 := by simp [show l.length ≤ n by omega]
    rw [hx]
    clear ht hB0 hx
    have h2 : (l.length : Int) ≤ n := by omega
    clear hn
    go_enter Try.func158, Try.ntmps158
    go_wp2_with fail
    (try simp only [Exit.inBlock, Exit.then])
    refine bodyPost_ret (v := .tuple #[.agg #[.int .i64 0, .int .i64 0, .int .i64 0], .iface 133 (.int .i64 1)]) ?_ rfl ⟨⟨_, rfl⟩, ?_⟩
    · rw [results_cell_tmp rfl]
      go_simp
    · exact (Grows.refl w).alloc _
/-- What package pick's comparison stands on: the topology, how many are left of each core, and where the closure's own variables lie. -/
structure Stand (w : World) (tc lc fc tb b o c mb n : Nat) (l : List Cpu) (f : Int → Int) : Prop where
  t : w.cell? ⟨tc, 0, none⟩ = some (.pointer (some ⟨tb, 0, none⟩))
  m : w.cell? ⟨lc, 0, none⟩ = some (.map (some mb))
  fn : w.cell? ⟨fc, 0, none⟩ = some (.func (.func 157) #[] #[.pointer (some ⟨tc, 0, none⟩), .pointer (some ⟨lc, 0, none⟩)])
  topo : TopoAt w tb b o c l
  left : LeftIs w mb n f
theorem Stand.below {w w' : World} {tc lc fc tb b o c mb n K : Nat} {l : List Cpu} {f : Int → Int} (h : Stand w tc lc fc tb b o c mb n l f) (hb : Below K w w') (hK : tc < K ∧ lc < K ∧ fc < K ∧ tb < K ∧ b < K ∧ mb < K) : Stand w' tc lc fc tb b o c mb n l f := by
  obtain ⟨h1, h2, h3, h4, h5, h6⟩ := hK
  exact ⟨(hb.cell (p := ⟨tc, 0, none⟩) h1).trans h.t, (hb.cell (p := ⟨lc, 0, none⟩) h2).trans h.m, (hb.cell (p := ⟨fc, 0, none⟩) h3).trans h.fn,
    ⟨(hb.cell (p := ⟨tb, 0, none⟩) h4).trans h.topo.cell, fun k hk => by
      obtain ⟨a1, a2, a3⟩ := h.topo.cells k hk
      exact ⟨(hb.cell (p := ⟨b, o + k * 3, none⟩) h5).trans a1, (hb.cell (p := ⟨b, o + k * 3 + 1, none⟩) h5).trans a2, (hb.cell (p := ⟨b, o + k * 3 + 2, none⟩) h5).trans a3⟩, Nat.lt_of_lt_of_le h.topo.lt hb.size, h.topo.len⟩,
    h.left.below hb h6⟩
theorem Stand.lts {w : World} {tc lc fc tb b o c mb n : Nat} {l : List Cpu} {f : Int → Int} (h : Stand w tc lc fc tb b o c mb n l f) : tc < w.heap.size ∧ lc < w.heap.size ∧ fc < w.heap.size ∧ tb < w.heap.size ∧ b < w.heap.size ∧ mb < w.heap.size :=
  ⟨World.block_lt_of_cell? w _ h.t, World.block_lt_of_cell? w _ h.m, World.block_lt_of_cell? w _ h.fn, h.topo.tlt, h.topo.lt, h.left.lt⟩
theorem core_in {l : List Cpu} (hg : Good l) (n : Nat) : 0 ≤ (l.getD n cpu0).core ∧ (l.getD n cpu0).core < 64 := by
  by_cases hn : n < l.length
  · have := hg (l.getD n cpu0) (by simp [hn])
    omega
  · have hx : l.getD n cpu0 = cpu0 := by simp [show l.length ≤ n by omega]
    rw [hx]; decide
set_option maxRecDepth 100000 in
set_option maxHeartbeats 1000000 in
/-- 'leftBeside'. -/
theorem beside_any (k : Nat) (tc lc fc tb b o c mb n : Nat) (l : List Cpu) (f : Int → Int) (w : World) (h : Stand w tc lc fc tb b o c mb n l f) (hg : Good l) :
    Calls Try.prog 157 #[.int .i64 k, .pointer (some ⟨tc, 0, none⟩), .pointer (some ⟨lc, 0, none⟩)] w fun e w' => e = .returned (.int .i64 (f (l.getD k cpu0).core)) ∧ Grows w w' := by
  have HO := hideIt (of_here k tb b o c l w h.topo)
  have HS := hideIt h
  have HL := hideIt h.lts
  have ht := h.t
  obtain ⟨h0, h64⟩ := core_in hg k
  clear h hg
  generalize l.getD k cpu0 = x at *
  go_enter Try.func157, Try.ntmps157
  go_wp2_with fail
  refine HO.out.mono ?_
  rintro e w1 ⟨⟨err, rfl⟩, hgr⟩
  have HS1 := hideIt (HS.out.below hgr.below HL.out)
  have hm := cell_alloc HS1.out.m (.cells #[.int .i64 x.core, .int .i64 x.sock, .int .i64 x.node] 40)
  have hM := HS1.out.left.alloc (.cells #[.int .i64 x.core, .int .i64 x.sock, .int .i64 x.node] 40)
  clear HO ht
  go_wp2_with (at_lookup; refine wpList_lookLeft _ rfl _ _ rfl mb n f x.core h0 h64 rfl rfl hM ?_)
  go_ret
  exact ⟨rfl, hgr.alloc _⟩
end Go.Proofs.Ythekalhceamcoaa
