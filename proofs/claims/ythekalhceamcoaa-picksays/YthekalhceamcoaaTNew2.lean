/- What topo.New answers: the contract. -/
import Derived.Test.YthekalhceamcoaaTNew
namespace Go.Proofs.Ythekalhceamcoaa
open Go.RowKit Go.ChangeMaps
open Go.Maps (Keyed int_keyed keyOf_int_mk)
open Ost (Cpu cpu0 inB clashTo faultTo fault)
/-- How a processor reads, as a map's element. -/
def cpuE : Value → Option (DataW Unit × List MemPlace)
  | .agg ⟨[.int .i64 a, .int .i64 b, .int .i64 c]⟩ => some (.agg [.lit (.int .i64 a), .lit (.int .i64 b), .lit (.int .i64 c)], [])
  | _ => none
def cpuD (x : Cpu) : DataW Unit := .agg [.lit (.int .i64 x.core), .lit (.int .i64 x.sock), .lit (.int .i64 x.node)]
theorem cpuE_mk (x : Cpu) : cpuE (.agg #[.int .i64 x.core, .int .i64 x.sock, .int .i64 x.node]) = some (cpuD x, []) := rfl
theorem cpuE_inv {v : Value} {x : Cpu} {ps : List MemPlace} (h : cpuE v = some (cpuD x, ps)) : v = .agg #[.int .i64 x.core, .int .i64 x.sock, .int .i64 x.node] := by
  unfold cpuE at h
  split at h
  · simp only [cpuD, Option.some.injEq, Prod.mk.injEq, DataW.agg.injEq, List.cons.injEq, DataW.lit.injEq, Lit.int.injEq, true_and, and_true] at h
    obtain ⟨⟨rfl, rfl, rfl⟩, _⟩ := h
    rfl
  · cases h
/-- A map of processors by their cores, as far as there may be cores. -/
def MapIs (w : World) (B n : Nat) (f : Int → Option Cpu) : Prop :=
  ∃ D : DataW Unit, w.ownsMap Try.prog 3 cpuE B n D ∧ ∀ k : Int, 0 ≤ k → k < 64 → Maps.has D (.int .i64 k) = (f k).isSome ∧ D.atKey (.int .i64 k) (cpuD cpu0) = cpuD ((f k).getD cpu0)
theorem keyLaw : Keyed Try.prog 3 := int_keyed Try.underlying3
theorem wf64 {k : Int} (h0 : 0 ≤ k) (h : k < 64) : (Lit.int .i64 k).wf = true := WalkArith.wf_i64 (by omega)
theorem MapIs.alloc {w : World} {B n : Nat} {f : Int → Option Cpu} (h : MapIs w B n f) (o : Obj) : MapIs (w.alloc o) B n f := by
  obtain ⟨D, ho, hk⟩ := h
  exact ⟨D, ho.alloc o, hk⟩
theorem MapIs.below {w w' : World} {B K n : Nat} {f : Int → Option Cpu} (h : MapIs w B n f) (hb : Below K w w') (hK : B < K) : MapIs w' B n f := by
  obtain ⟨D, ⟨es, clock, hh, r⟩, hk⟩ := h
  exact ⟨D, ⟨es, clock, (hb.block B hK).trans hh, r⟩, hk⟩
theorem MapIs.lt {w : World} {B n : Nat} {f : Int → Option Cpu} (h : MapIs w B n f) : B < w.heap.size := by
  obtain ⟨D, ho, _⟩ := h
  exact ho.lt
theorem MapIs.made (w : World) : MapIs (w.alloc (.map #[] 0)) w.heap.size 0 (fun _ => none) :=
  ⟨.map [], World.ownsMap_made w _ _ _, fun _ _ _ => ⟨rfl, rfl⟩⟩
theorem zeroCpu (w : World) : (zeroValue 40).run Try.prog w = .ok (.agg #[.int .i64 0, .int .i64 0, .int .i64 0]) w := by kernel_rfl
/-- 'v, ok := m[k]' on such a map. -/
theorem wpList_look {ops : Array Oper} {rest : List Oper} {o : Oper} {a : Act} {Q : Exit → Act → World → Prop} (w : World) (hg : o.guard = none) (m x : Operand) (hop : o.op = Op.lookup 134 m x true)
    (B n : Nat) (f : Int → Option Cpu) (k : Int) (h0 : 0 ≤ k) (h64 : k < 64) (hm : a.eval m = .map (some B)) (hx : a.eval x = .int .i64 k) (hM : MapIs w B n f) (y : Cpu) (ok : Bool) (hy : (f k).getD cpu0 = y) (hok : (f k).isSome = ok)
    (hK : wpList Try.prog ops Q rest (a.put o.dst (.tuple #[.agg #[.int .i64 y.core, .int .i64 y.sock, .int .i64 y.node], .bool ok])) w) :
    wpList Try.prog ops Q (o :: rest) a w := by
  obtain ⟨D, ho, hk⟩ := hM
  refine wpList_lookup_own_ok w hg m x 134 hop 3 40 keyLaw Try.underlying134 cpuE (zeroCpu w) (cpuD cpu0) [] rfl B n D hm ho _ (.int .i64 k) hx (keyOf_int_mk Try.underlying3 (wf64 h0 h64)) ?_
  intro v ps hv
  obtain ⟨h1, h2⟩ := hk k h0 h64
  rw [h2, hy] at hv
  rw [h1, hok, cpuE_inv hv]
  exact hK
theorem wpList_put {ops : Array Oper} {rest : List Oper} {o : Oper} {a : Act} {Q : Exit → Act → World → Prop} (w : World) (hg : o.guard = none) (m x v : Operand) (hop : o.op = Op.mapUpdate 134 m x v)
    (B n : Nat) (f : Int → Option Cpu) (k : Int) (h0 : 0 ≤ k) (h64 : k < 64) (y : Cpu) (hm : a.eval m = .map (some B)) (hx : a.eval x = .int .i64 k) (hv : a.eval v = .agg #[.int .i64 y.core, .int .i64 y.sock, .int .i64 y.node]) (hM : MapIs w B n f) (hn : n < maxLen)
    (hK : ∀ w', MapIs w' B (n + 1) (fun j => if k = j then some y else f j) → w.grownBy w' (some B) → wpList Try.prog ops Q rest (a.put o.dst undef) w') :
    wpList Try.prog ops Q (o :: rest) a w := by
  obtain ⟨D, ho, hk⟩ := hM
  refine wpList_mapUpdate_own w hg m x v 134 hop 3 40 keyLaw Try.underlying134 cpuE B n D hm ho hn _ _ (.int .i64 k) hx hv (keyOf_int_mk Try.underlying3 (wf64 h0 h64)) (cpuD y) [] (cpuE_mk y) ?_
  intro w' ho' hgr
  refine hK w' ⟨_, ho', fun j j0 j64 => ?_⟩ hgr
  by_cases e : k = j
  · subst e
    have hkl : WideAt.IsKeyLit (Lit.int .i64 k) := trivial
    rw [Maps.has_put_same ho.isMap hkl, Maps.atKey_put_same ho.isMap hkl]
    simp
  · have hne : (Lit.int .i64 j) ≠ (Lit.int .i64 k) := by simp; omega
    rw [Maps.has_put_other hne, Maps.atKey_put_other hne]
    simp only [if_neg e]
    exact hk j j0 j64
theorem seen_step (l : List Cpu) (k : Nat) : (fun j => if (l.getD k cpu0).core = j then some (l.getD k cpu0) else Ost.seen l k j) = Ost.seen l (k + 1) := by
  funext j; rw [Ost.seen]
theorem cell_alloc {w : World} {a : Addr} {v : Value} (h : w.cell? a = some v) (o : Obj) : (w.alloc o).cell? a = some v :=
  (((Below.refl w.heap.size w).alloc (Nat.le_refl _) o).cell (World.block_lt_of_cell? w _ h)).trans h
/-- What topo.New leaves. -/
def Newed (w : World) (l : List Cpu) (e : Ending) (w' : World) : Prop :=
  (fault l = 0 → ∃ tb g c, e = .returned (.tuple #[.pointer (some ⟨tb, 0, none⟩), .nilIface]) ∧ TopoAt w' tb g 0 c l) ∧ (fault l ≠ 0 → e = .returned (.tuple #[.pointer none, .iface 133 (.int .i64 (fault l))])) ∧ Below w.heap.size w w'
theorem Newed.bad {w w' : World} {l : List Cpu} {f : Int} (hf : fault l = f) (h0 : f ≠ 0) (hb : Below w.heap.size w w') : Newed w l (.returned (.tuple #[.pointer none, .iface 133 (.int .i64 f)])) w' :=
  ⟨fun h => absurd (hf.symm.trans h) h0, fun _ => by rw [hf], hb⟩
theorem Newed.good {w w' : World} {l : List Cpu} {tb g c : Nat} (hf : fault l = 0) (ht : TopoAt w' tb g 0 c l) (hb : Below w.heap.size w w') : Newed w l (.returned (.tuple #[.pointer (some ⟨tb, 0, none⟩), .nilIface])) w' :=
  ⟨fun _ => ⟨tb, g, c, rfl, ht⟩, fun h => absurd hf h, hb⟩
set_option maxRecDepth 100000 in
set_option maxHeartbeats 1000000 in
theorem new_many (ao : Option Addr) (n c : Nat) (l : List Cpu) (w : World) (hl : l.length = n) (hn : n = 0 ∨ 64 < n) :
    Calls Try.prog 16 #[.slice ao n c] w fun e w' => Newed w l e w' := by
  have HF : Hid (fault l = 2) := by unfold Hid fault; rw [if_pos (by omega)]
  clear hl
  rcases hn with rfl | hn
  · go_enter Try.func16, Try.ntmps16
    go_wp2_with fail
    go_ret2
    exact Newed.bad HF.out (by decide) (Below.refl _ _)
  · have h0 : ((n : Int) == 0) = false := by simp; omega
    go_enter Try.func16, Try.ntmps16
    go_wp2_with fail
    go_ret2
    exact Newed.bad HF.out (by decide) (Below.refl _ _)
set_option maxRecDepth 100000 in
set_option maxHeartbeats 1000000 in
theorem new_some (b o c : Nat) (l : List Cpu) (w : World) (hc : CellsAt w b o l) (hlb : b < w.heap.size) (h0 : 0 < l.length) (h64 : l.length ≤ 64) :
    Calls Try.prog 16 #[.slice (some ⟨b, o, none⟩) l.length c] w fun e w' => Newed w l e w' := by
  have hl0 : ((l.length : Int) == 0) = false := by rw [beq_eq_false_iff_ne]; omega
  have HC := hideIt hc
  have HLB := hideIt hlb
  have HM := hideIt (MapIs.made w)
  have HB0 := hideIt ((Below.refl w.heap.size w).alloc (Nat.le_refl _) (.map #[] 0))
  have hmm := @run_makeMap Try.prog
  clear hc hlb
  go_enter Try.func16, Try.ntmps16
  go_wp2_with fail
  go_loopw [21] (fun i wr => ∃ k : Nat, k ≤ l.length ∧ i = .int .i64 k ∧ Hid (faultTo l k = 0) ∧ MapIs wr w.heap.size k (Ost.seen l k) ∧ Below w.heap.size w wr) (fun i _ => l.length - (intOf i).toNat)
  case atStart => exact ⟨0, by omega, rfl, rfl, HM.out, HB0.out⟩
  case round =>
    obtain ⟨k, hk, rfl, HF, hM, hB⟩ := hrel
    by_cases hlt : k < l.length
    · obtain ⟨hcell0, hcell1, hcell2⟩ := (HC.out.below HLB.out hB) k hlt
      have HS := hideIt (seen_step l k)
      have HBd := hideIt (fun hb => Ost.fault_at l k 1 h0 h64 hlt HF.out (Ost.faultAt_bound (l := l) (k := k) hb) (by decide))
      have HSh := hideIt (fun hb hc => Ost.fault_at l k 3 h0 h64 hlt HF.out (Ost.faultAt_shape (l := l) (k := k) hb hc) (by decide))
      have HN := hideIt (fun hb hc => Ost.faultTo_next (l := l) (k := k) HF.out hb hc)
      have HCn := hideIt (fun h => Ost.clash_none (l := l) (k := k) (x := l.getD k cpu0) h)
      have HCs := hideIt (fun y h => Ost.clash_seen (l := l) (k := k) (x := l.getD k cpu0) (y := y) HF.out h)
      generalize l.getD k cpu0 = x at *
      have hB1 := hB.alloc hB.size (.cells #[.int .i64 x.core, .int .i64 x.sock, .int .i64 x.node] 40)
      have hM1 := hM.alloc (.cells #[.int .i64 x.core, .int .i64 x.sock, .int .i64 x.node] 40)
      have hcx := hideIt (show (wr.alloc (.cells #[.int .i64 x.core, .int .i64 x.sock, .int .i64 x.node] 40)).cell? ⟨wr.heap.size, 0, none⟩ = some (.int .i64 x.core) ∧ (wr.alloc (.cells #[.int .i64 x.core, .int .i64 x.sock, .int .i64 x.node] 40)).cell? ⟨wr.heap.size, 1, none⟩ = some (.int .i64 x.sock) ∧ (wr.alloc (.cells #[.int .i64 x.core, .int .i64 x.sock, .int .i64 x.node] 40)).cell? ⟨wr.heap.size, 2, none⟩ = some (.int .i64 x.node) by simp)
      clear hM
      go_wp2_with fail
      refine (bounded_any x _).mono ?_
      rintro e w1 ⟨rfl, hb⟩
      have hB2 := hB1.trans (hb.mono hB1.size)
      have hM2 := hM1.below hb hM1.lt
      obtain ⟨p0, p1, p2⟩ := hcx.out
      have q0 := (hb.cell (p := ⟨wr.heap.size, 0, none⟩) (by simp)).trans p0
      have q1 := (hb.cell (p := ⟨wr.heap.size, 1, none⟩) (by simp)).trans p1
      have q2 := (hb.cell (p := ⟨wr.heap.size, 2, none⟩) (by simp)).trans p2
      clear p0 p1 p2 hcx hM1 hB1 hb hB hcell0 hcell1 hcell2
      rcases two (inB x) with hi | hi
      · rw [hi]
        obtain ⟨g0, g1, _⟩ := (Ost.inB_iff x).1 hi
        rcases hs : Ost.seen l k x.core with _ | y
        · have hNx : Hid (faultTo l (k + 1) = 0) := HN.out hi (HCn.out hs)
          have hB3 := hB2.alloc hB2.size (.cells #[.int .i64 cpu0.core, .int .i64 cpu0.sock, .int .i64 cpu0.node] 40)
          have hM3 := hM2.alloc (.cells #[.int .i64 cpu0.core, .int .i64 cpu0.sock, .int .i64 cpu0.node] 40)
          have r0 := cell_alloc q0 (.cells #[.int .i64 cpu0.core, .int .i64 cpu0.sock, .int .i64 cpu0.node] 40)
          have r1 := cell_alloc q1 (.cells #[.int .i64 cpu0.core, .int .i64 cpu0.sock, .int .i64 cpu0.node] 40)
          have r2 := cell_alloc q2 (.cells #[.int .i64 cpu0.core, .int .i64 cpu0.sock, .int .i64 cpu0.node] 40)
          have h1 : Hid ((Ost.seen l k x.core).getD cpu0 = cpu0) := by unfold Hid; rw [hs]; rfl
          have h2 : Hid ((Ost.seen l k x.core).isSome = false) := by unfold Hid; rw [hs]; rfl
          clear q1 q2 hs hi
          go_wp2_with (first
            | (at_lookup; refine wpList_look _ rfl _ _ rfl w.heap.size k (Ost.seen l k) x.core g0 g1 rfl rfl hM2 cpu0 false h1.out h2.out ?_)
            | (at_mapUpdate; refine wpList_put _ rfl _ _ _ rfl w.heap.size k (Ost.seen l k) x.core g0 g1 x rfl rfl rfl hM3 (by unfold maxLen; omega) ?_; intro w2 hM4 hgrow))
          go_roundw
          case rel => exact ⟨k + 1, by omega, by go_num, hNx, by rw [← HS.out]; exact hM4, hB3.grown hgrow hB3.size (fun j hj => by cases hj; exact Nat.le_refl _)⟩
          case measure => simp [intOf]; omega
        · by_cases hyx : y = x
          · subst hyx
            have hNx : Hid (faultTo l (k + 1) = 0) := HN.out hi (by rw [HCs.out y hs]; simp)
            have hB3 := hB2.alloc hB2.size (.cells #[.int .i64 y.core, .int .i64 y.sock, .int .i64 y.node] 40)
            have hM3 := hM2.alloc (.cells #[.int .i64 y.core, .int .i64 y.sock, .int .i64 y.node] 40)
            have r0 := cell_alloc q0 (.cells #[.int .i64 y.core, .int .i64 y.sock, .int .i64 y.node] 40)
            have r1 := cell_alloc q1 (.cells #[.int .i64 y.core, .int .i64 y.sock, .int .i64 y.node] 40)
            have r2 := cell_alloc q2 (.cells #[.int .i64 y.core, .int .i64 y.sock, .int .i64 y.node] 40)
            have h1 : Hid ((Ost.seen l k y.core).getD cpu0 = y) := by unfold Hid; rw [hs]; rfl
            have h2 : Hid ((Ost.seen l k y.core).isSome = true) := by unfold Hid; rw [hs]; rfl
            clear q1 q2 hs hi
            go_wp2_with (first
              | (at_lookup; refine wpList_look _ rfl _ _ rfl w.heap.size k (Ost.seen l k) y.core g0 g1 rfl rfl hM2 y true h1.out h2.out ?_)
              | (at_mapUpdate; refine wpList_put _ rfl _ _ _ rfl w.heap.size k (Ost.seen l k) y.core g0 g1 y rfl rfl rfl hM3 (by unfold maxLen; omega) ?_; intro w2 hM4 hgrow))
            go_roundw
            case rel => exact ⟨k + 1, by omega, by go_num, hNx, by rw [← HS.out]; exact hM4, hB3.grown hgrow hB3.size (fun j hj => by cases hj; exact Nat.le_refl _)⟩
            case measure => simp [intOf]; omega
          · have hF : Hid (fault l = 3) := HSh.out hi (by rw [HCs.out y hs]; exact decide_eq_true hyx)
            have hyc : y.core = x.core := by obtain ⟨_, _, _, h⟩ := Ost.seen_some hs; exact h
            have hne : (¬ y.sock = x.sock) ∨ (y.sock = x.sock ∧ ¬ y.node = x.node) := by
              by_cases hsk : y.sock = x.sock
              · refine .inr ⟨hsk, fun hn => hyx ?_⟩
                cases y; cases x; simp_all
              · exact .inl hsk
            have h1 : Hid ((Ost.seen l k x.core).getD cpu0 = y) := by unfold Hid; rw [hs]; rfl
            have h2 : Hid ((Ost.seen l k x.core).isSome = true) := by unfold Hid; rw [hs]; rfl
            rcases hne with hsk | ⟨hsk, hnd⟩
            · have r0 := cell_alloc q0 (.cells #[.int .i64 x.core, .int .i64 y.sock, .int .i64 y.node] 40)
              have r1 := cell_alloc q1 (.cells #[.int .i64 x.core, .int .i64 y.sock, .int .i64 y.node] 40)
              have r2 := cell_alloc q2 (.cells #[.int .i64 x.core, .int .i64 y.sock, .int .i64 y.node] 40)
              clear q1 q2 hs hi hyx
              go_wp2_with (at_lookup; refine wpList_look _ rfl _ _ rfl w.heap.size k (Ost.seen l k) x.core g0 g1 rfl rfl hM2 y true h1.out h2.out ?_)
              go_ret2
              exact Newed.bad hF.out (by decide) (hB2.alloc hB2.size _)
            · have r0 := cell_alloc q0 (.cells #[.int .i64 x.core, .int .i64 x.sock, .int .i64 y.node] 40)
              have r1 := cell_alloc q1 (.cells #[.int .i64 x.core, .int .i64 x.sock, .int .i64 y.node] 40)
              have r2 := cell_alloc q2 (.cells #[.int .i64 x.core, .int .i64 x.sock, .int .i64 y.node] 40)
              clear q1 q2 hs hi hyx
              go_wp2_with (at_lookup; refine wpList_look _ rfl _ _ rfl w.heap.size k (Ost.seen l k) x.core g0 g1 rfl rfl hM2 y true h1.out h2.out ?_)
              go_ret2
              exact Newed.bad hF.out (by decide) (hB2.alloc hB2.size _)
      · have hF : Hid (fault l = 1) := HBd.out hi
        rw [hi]
        clear hi
        go_wp2_with fail
        go_ret2
        exact Newed.bad hF.out (by decide) hB2
    · have hkl : k = l.length := by omega
      have hF : Hid (fault l = 0) := Ost.fault_none l h0 h64 (by rw [← hkl]; exact HF.out)
      have HX := hideIt (clone_any b o c l wr (HC.out.below HLB.out hB) (Nat.lt_of_lt_of_le HLB.out hB.size) h0 h64)
      clear hkl hM
      go_wp2_with fail
      refine HX.out.mono ?_
      rintro e w1 ⟨g, c', rfl, hcl, hlt1, hb⟩
      have hB1 := hB.trans (hb.mono hB.size)
      have HBx := hideIt ((Below.refl w1.heap.size w1).alloc (Nat.le_refl _) (.cells #[.slice (some ⟨g, 0, none⟩) l.length c'] 139))
      have hcl := hideIt hcl
      clear hb
      go_wp2_with fail
      go_ret2
      exact Newed.good (g := g) (c := c') hF.out ⟨by simp, hcl.out.below hlt1 HBx.out, Nat.lt_of_lt_of_le hlt1 HBx.out.size, h64⟩ (hB1.trans (HBx.out.mono hB1.size))
end Go.Proofs.Ythekalhceamcoaa
