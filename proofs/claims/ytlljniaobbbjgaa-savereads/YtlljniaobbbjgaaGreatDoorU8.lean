/- VR5 -/
import Derived.Test.YtlljniaobbbjgaaGreatDoorU7
namespace Go.Proofs.YtlljniaobbbjgaaGreatDoor
open Go.RowKit Go.Shelf
open Ost (splitC cut1)
open Qos (Nd Ct Pd nd)
open Sv (Gv wd)
open S1 (Mx)
theorem results_cct {fn : Func} {p q u : Tmp} {ty ty' : TypeId} (h : fn.results = #[.cell p ty, .cell q ty', .tmp u]) (tmps : Array Value) (P : Program) (w : World) :
    (results fn tmps).run P w =
      ((asAddr (tmps.getD p undef)).run P w).andThen fun a w₁ => ((loadVar ty a).run P w₁).andThen fun v w₂ => ((asAddr (tmps.getD q undef)).run P w₂).andThen fun b w₃ => ((loadVar ty' b).run P w₃).andThen fun x w₄ => .ok (.tuple #[v, x, tmps.getD u undef]) w₄ := by
  simp only [results, h]
  simp [Sem.run_bind, Result.andThen]
def okC (ws : List (List UInt8)) : Bool := (((gOf (wd ws 2) && gOf (wd ws 3)) && (gOf (wd ws 4) && gOf (wd ws 5))) && (Sv.listOf Sv.needS (wd ws 6)).isSome && cgOf (wd ws 7)) && (Sv.listOf Sv.numS (wd ws 8)).isSome
def put6 (V : World) (B : Nat) (v0 v1 v2 v3 v4 v5 : Value) : World := (((((V.setCell ⟨B, 0, none⟩ v0).setCell ⟨B, 1, none⟩ v1).setCell ⟨B, 2, none⟩ v2).setCell ⟨B, 3, none⟩ v3).setCell ⟨B, 4, none⟩ v4).setCell ⟨B, 5, none⟩ v5
def put2 (V : World) (B : Nat) (v0 v1 : Value) : World := (V.setCell ⟨B, 0, none⟩ v0).setCell ⟨B, 1, none⟩ v1
theorem set_other {V : World} {B j k : Nat} {v : Value} (h : k ≠ B) : (V.setCell ⟨B, j, none⟩ v).heap[k]? = V.heap[k]? := Below.heap_setCell V ⟨B, j, none⟩ v k h
theorem put6_other {V : World} {B k : Nat} {v0 v1 v2 v3 v4 v5 : Value} (h : k ≠ B) : (put6 V B v0 v1 v2 v3 v4 v5).heap[k]? = V.heap[k]? := by
  unfold put6
  rw [set_other h, set_other h, set_other h, set_other h, set_other h, set_other h]
theorem put2_other {V : World} {B k : Nat} {v0 v1 : Value} (h : k ≠ B) : (put2 V B v0 v1).heap[k]? = V.heap[k]? := by
  unfold put2
  rw [set_other h, set_other h]
theorem put6_same {V : World} {B : Nat} {v0 v1 v2 v3 v4 v5 z0 z1 z2 z3 z4 z5 : Value} {t : TypeId} (h : V.heap[B]? = some (.cells #[z0, z1, z2, z3, z4, z5] t (0, 0))) : (put6 V B v0 v1 v2 v3 v4 v5).heap[B]? = some (.cells #[v0, v1, v2, v3, v4, v5] t (0, 0)) :=
  set_heap (set_heap (set_heap (set_heap (set_heap (set_heap h 0 v0) 1 v1) 2 v2) 3 v3) 4 v4) 5 v5
theorem put2_same {V : World} {B : Nat} {v0 v1 z0 z1 : Value} {t : TypeId} (h : V.heap[B]? = some (.cells #[z0, z1] t (0, 0))) : (put2 V B v0 v1).heap[B]? = some (.cells #[v0, v1] t (0, 0)) :=
  set_heap (set_heap h 0 v0) 1 v1
theorem put6_below {V w : World} {B N : Nat} {v0 v1 v2 v3 v4 v5 : Value} (h : Below N w V) (hB : N ≤ B) : Below N w (put6 V B v0 v1 v2 v3 v4 v5) :=
  (((((h.setCell (p := ⟨B, 0, none⟩) hB _).setCell (p := ⟨B, 1, none⟩) hB _).setCell (p := ⟨B, 2, none⟩) hB _).setCell (p := ⟨B, 3, none⟩) hB _).setCell (p := ⟨B, 4, none⟩) hB _).setCell (p := ⟨B, 5, none⟩) hB _
theorem put6_apart {V : World} {B : Nat} {v0 v1 v2 v3 v4 v5 : Value} : Apart (fun j => j = B) V (put6 V B v0 v1 v2 v3 v4 v5) :=
  (((((Apart.setCell (K := fun j => j = B) rfl V 0 v0).trans (Apart.setCell (K := fun j => j = B) rfl _ 1 v1)).trans (Apart.setCell (K := fun j => j = B) rfl _ 2 v2)).trans (Apart.setCell (K := fun j => j = B) rfl _ 3 v3)).trans (Apart.setCell (K := fun j => j = B) rfl _ 4 v4)).trans (Apart.setCell (K := fun j => j = B) rfl _ 5 v5)
theorem put2_apart {V : World} {H : Nat} {v0 v1 : Value} : Apart (fun j => j = H ∨ j = H + 1) V (put2 V (H + 1) v0 v1) :=
  (Apart.setCell (K := fun j => j = H ∨ j = H + 1) (.inr rfl) V 0 v0).trans (Apart.setCell (K := fun j => j = H ∨ j = H + 1) (.inr rfl) _ 1 v1)
theorem put2_below {V w : World} {B N : Nat} {v0 v1 : Value} (h : Below N w V) (hB : N ≤ B) : Below N w (put2 V B v0 v1) := (h.setCell (p := ⟨B, 0, none⟩) hB _).setCell (p := ⟨B, 1, none⟩) hB _
set_option maxRecDepth 100000 in
set_option maxHeartbeats 1000000 in
theorem wp_storeC {W : World} {B p q : Nat} {nm : ByteArray} {n2 n3 n4 n5 : Int} {na : Option Addr} {nn nc : Nat} {z0 z1 z2 z3 z4 z5 : Value} {a : Act} {ty : TypeId} {pos : String} {after : Array Edge} {guard : Option (Nat × Bool)} {K : Act → World → Prop} {Q : Exit → Act → World → Prop}
    (hh : W.heap[B]? = some (.cells #[z0, z1, z2, z3, z4, z5] 56 (0, 0))) (hp : a.tmps[p]?.getD undef = .pointer (some ⟨B, 0, none⟩)) (hq : a.tmps[q]?.getD undef = .agg #[.string nm, .int .i64 n2, .int .i64 n3, .int .i64 n4, .int .i64 n5, .slice na nn nc])
    (hk : K a (put6 W B (.string nm) (.int .i64 n2) (.int .i64 n3) (.int .i64 n4) (.int .i64 n5) (.slice na nn nc))) :
    Oper.wp Tryz.prog { dst := none, op := Op.store 56 (Operand.tmp p) (Operand.tmp q), type := ty, pos := pos, after := after, guard := guard } a W K Q := by
  unfold put6 at hk
  have HK := hideIt hk
  clear hk
  have c0 : W.cell? ⟨B, 0, none⟩ = some z0 := by simp [World.cell?, hh]
  have c1 : W.cell? ⟨B, 1, none⟩ = some z1 := by simp [World.cell?, hh]
  have c2 : W.cell? ⟨B, 2, none⟩ = some z2 := by simp [World.cell?, hh]
  have c3 : W.cell? ⟨B, 3, none⟩ = some z3 := by simp [World.cell?, hh]
  have c4 : W.cell? ⟨B, 4, none⟩ = some z4 := by simp [World.cell?, hh]
  have c5 : W.cell? ⟨B, 5, none⟩ = some z5 := by simp [World.cell?, hh]
  have f0 : W.frozen? ⟨B, 0, none⟩ = false := by simp [World.frozen?, hh]
  have f1 : W.frozen? ⟨B, 1, none⟩ = false := by simp [World.frozen?, hh]
  have f2 : W.frozen? ⟨B, 2, none⟩ = false := by simp [World.frozen?, hh]
  have f3 : W.frozen? ⟨B, 3, none⟩ = false := by simp [World.frozen?, hh]
  have f4 : W.frozen? ⟨B, 4, none⟩ = false := by simp [World.frozen?, hh]
  have f5 : W.frozen? ⟨B, 5, none⟩ = false := by simp [World.frozen?, hh]
  clear hh
  go_simp
  exact HK.out
set_option maxRecDepth 100000 in
set_option maxHeartbeats 1000000 in
theorem wp_storeG {W : World} {B p q : Nat} {cp : Nat} {na : Option Addr} {nn nc : Nat} {z0 z1 : Value} {a : Act} {ty : TypeId} {pos : String} {after : Array Edge} {guard : Option (Nat × Bool)} {K : Act → World → Prop} {Q : Exit → Act → World → Prop}
    (hh : W.heap[B]? = some (.cells #[z0, z1] 64 (0, 0))) (hp : a.tmps[p]?.getD undef = .pointer (some ⟨B, 0, none⟩)) (hq : a.tmps[q]?.getD undef = .agg #[.int .u64 cp, .slice na nn nc])
    (hk : K a (put2 W B (.int .u64 cp) (.slice na nn nc))) :
    Oper.wp Tryz.prog { dst := none, op := Op.store 64 (Operand.tmp p) (Operand.tmp q), type := ty, pos := pos, after := after, guard := guard } a W K Q := by
  unfold put2 at hk
  have HK := hideIt hk
  clear hk
  have c0 : W.cell? ⟨B, 0, none⟩ = some z0 := by simp [World.cell?, hh]
  have c1 : W.cell? ⟨B, 1, none⟩ = some z1 := by simp [World.cell?, hh]
  have f0 : W.frozen? ⟨B, 0, none⟩ = false := by simp [World.frozen?, hh]
  have f1 : W.frozen? ⟨B, 1, none⟩ = false := by simp [World.frozen?, hh]
  clear hh
  go_simp
  exact HK.out
/-- What reading a container leaves. -/
def ReadsCont (w : World) (ws : List (List UInt8)) (e : Ending) (w' : World) : Prop :=
  ∃ nv dv, e = .returned (.tuple #[.agg #[.string ⟨(wd ws 1).toArray⟩, .int .i64 (nOf (wd ws 2)), .int .i64 (nOf (wd ws 3)), .int .i64 (nOf (wd ws 4)), .int .i64 (nOf (wd ws 5)), nv], .agg #[.int .u64 (cpOf (wd ws 7) : Nat), dv], .bool (okC ws)]) ∧
    (∀ ds, Sv.listOf Sv.needS (wd ws 6) = some ds → NeedsAt w' nv ds) ∧ (∀ xs, Sv.listOf Sv.numS (wd ws 8) = some xs → IntsOf w' dv xs) ∧ (∃ a n c, nv = .slice a n c ∧ ∀ x, a = some x → w.heap.size ≤ x.block) ∧ (∃ a n c, dv = .slice a n c ∧ ∀ x, a = some x → w.heap.size ≤ x.block) ∧ Below w.heap.size w w'
theorem cell_of_heapV {W : World} {B : Nat} {cs : Array Value} {t : TypeId} (h : W.heap[B]? = some (.cells cs t (0, 0))) (j : Nat) : W.cell? ⟨B, j, none⟩ = cs[j]? := by simp [World.cell?, h]
set_option maxRecDepth 100000 in
set_option maxHeartbeats 4000000 in
theorem readCont_any (b wc : Nat) (ws : List (List UInt8)) (w : World) (h : StrsIn w b ws) (hl : ws.length = 9) (hs : ∀ x ∈ ws, x.length ≤ 10000) (hm : Mx w) :
    Calls Tryz.prog 72 #[.slice (some ⟨b, 0, none⟩) 9 wc] w (ReadsCont w ws) := by
  have hlen : ∀ k, k < 9 → (wd ws k).length ≤ 10000 := fun k hk => hs _ (wd_mem (by omega))
  have hA := ((Below.refl w.heap.size w).alloc (Nat.le_refl _) (.cells #[.string ⟨#[]⟩, .int .i64 0, .int .i64 0, .int .i64 0, .int .i64 0, .slice none 0 0] 56)).alloc (by simp) (.cells #[.int .u64 0, .slice none 0 0] 64)
  have HA := hideIt hA
  have HW := hideIt (h.below hA)
  have HM := hideIt hm
  have R1 := hideIt (fun W => readAmount_any ⟨(wd ws 2).toArray⟩ ⟨(wd ws 3).toArray⟩ W (by unfold maxLen; have := hlen 2 (by omega); show (wd ws 2).length ≤ _; omega) (by unfold maxLen; have := hlen 3 (by omega); show (wd ws 3).length ≤ _; omega))
  have R2 := hideIt (fun W => readAmount_any ⟨(wd ws 4).toArray⟩ ⟨(wd ws 5).toArray⟩ W (by unfold maxLen; have := hlen 4 (by omega); show (wd ws 4).length ≤ _; omega) (by unfold maxLen; have := hlen 5 (by omega); show (wd ws 5).length ≤ _; omega))
  have R3 := hideIt (fun W (hb : Below w.heap.size w W) => readNeeds_any ⟨(wd ws 6).toArray⟩ W (by have := hlen 6 (by omega); show (wd ws 6).length ≤ _; omega) (HM.out.below hb))
  have R4 := hideIt (fun W (hb : Below w.heap.size w W) => readCPUs_any ⟨(wd ws 7).toArray⟩ W (by unfold maxLen; have := hlen 7 (by omega); show (wd ws 7).length ≤ _; omega) (HM.out.below hb))
  have R5 := hideIt (fun W => readInts_any ⟨(wd ws 8).toArray⟩ W (by have := hlen 8 (by omega); show (wd ws 8).length ≤ _; omega))
  have hsz : ((w.alloc (.cells #[.string ⟨#[]⟩, .int .i64 0, .int .i64 0, .int .i64 0, .int .i64 0, .slice none 0 0] 56)).alloc (.cells #[.int .u64 0, .slice none 0 0] 64)).heap.size = w.heap.size + 1 + 1 := by simp
  have HC0 := hideIt (show ((w.alloc (.cells #[.string ⟨#[]⟩, .int .i64 0, .int .i64 0, .int .i64 0, .int .i64 0, .slice none 0 0] 56)).alloc (.cells #[.int .u64 0, .slice none 0 0] 64)).heap[w.heap.size]? = some (.cells #[.string ⟨#[]⟩, .int .i64 0, .int .i64 0, .int .i64 0, .int .i64 0, .slice none 0 0] 56 (0, 0)) from (Below.heap_alloc _ _ _ (by simp)).trans (heap_alloc_new w _))
  have HG0 := hideIt (show ((w.alloc (.cells #[.string ⟨#[]⟩, .int .i64 0, .int .i64 0, .int .i64 0, .int .i64 0, .slice none 0 0] 56)).alloc (.cells #[.int .u64 0, .slice none 0 0] 64)).heap[w.heap.size + 1]? = some (.cells #[.int .u64 0, .slice none 0 0] 64 (0, 0)) from by have := heap_alloc_new (w.alloc (.cells #[.string ⟨#[]⟩, .int .i64 0, .int .i64 0, .int .i64 0, .int .i64 0, .slice none 0 0] 56)) (.cells #[.int .u64 0, .slice none 0 0] 64); rwa [World.size_alloc] at this)
  have HOK : Hid (okC ws = ((((gOf (wd ws 2) && gOf (wd ws 3)) && (gOf (wd ws 4) && gOf (wd ws 5))) && (Sv.listOf Sv.needS (wd ws 6)).isSome && cgOf (wd ws 7)) && (Sv.listOf Sv.numS (wd ws 8)).isSome)) := rfl
  dsimp only at R1 R2 R3 R4 R5
  clear hA h hs hm hlen
  go_enter Tryz.func72, Tryz.ntmps72
  go_wp2_with fail
  generalize ((w.alloc (.cells #[.string ⟨#[]⟩, .int .i64 0, .int .i64 0, .int .i64 0, .int .i64 0, .slice none 0 0] 56)).alloc (.cells #[.int .u64 0, .slice none 0 0] 64)) = U at *
  refine wp_normalAtV (contR1_any (P := fun | 2 => .pointer (some ⟨w.heap.size, 0, none⟩) | 3 => .pointer (some ⟨w.heap.size + 1, 0, none⟩) | _ => .bool false) U HW.out.1 (HW.out.2 2 (by omega)) (HW.out.2 3 (by omega)) R1) ?_
  rintro _ W1 ⟨F, rfl, B1, hF5, hF6, hb1, hB1, hh1⟩
  have HB1 := hideIt hb1
  have HH1 := hideIt hh1
  have HW1 := hideIt (HW.out.below hb1)
  have HSW1 := hideIt hb1.size
  clear hb1 hh1
  dsimp only
  rw [hF5, hF6]
  clear hF5 hF6
  go_wp2_with fail
  refine wp_normalAtV (contR2_any (P := fun | 2 => .pointer (some ⟨w.heap.size, 0, none⟩) | 3 => .pointer (some ⟨w.heap.size + 1, 0, none⟩) | 4 => .bool false | 5 => .pointer (some ⟨B1, 0, none⟩) | 6 => .bool (gOf (wd ws 2) && gOf (wd ws 3)) | n => F n) W1 HW1.out.1 (HW1.out.2 4 (by omega)) (HW1.out.2 5 (by omega)) R2) ?_
  rintro _ W2 ⟨G, rfl, B2, hG7, hG8, hb2, hB2, hh2⟩
  have HB2 := hideIt (HB1.out.trans (hb2.mono HB1.out.size))
  have HH1b := hideIt ((hb2.block B1 (Array.getElem?_eq_some_iff.1 HH1.out).1).trans HH1.out)
  have HH2 := hideIt hh2
  have HW2 := hideIt (HW1.out.below hb2)
  clear hb2 hh2 HH1 HB1 HW1
  dsimp only
  rw [hG7, hG8]
  clear hG7 hG8
  have HBw2 := hideIt (HA.out.trans (HB2.out.mono HA.out.size))
  have w6 := HW2.out.2 6 (by omega)
  go_wp2_with fail
  refine (R3.out _ HBw2.out).mono ?_
  rintro e W3 ⟨nv, rfl, hnd, ⟨na, nn, nc, rfl, hna⟩, hb3⟩
  have HNA := hideIt hna
  clear hna
  have HND := hideIt hnd
  have HB3 := hideIt hb3
  have HBw3 := hideIt (HBw2.out.trans (hb3.mono HBw2.out.size))
  have w7 := (HW2.out.below hb3).2 7 (by omega)
  clear hnd hb3 w6
  go_wp2_with fail
  refine (R4.out _ HBw3.out).mono ?_
  rintro e W4 ⟨rfl, hb4⟩
  have HB4 := hideIt (HB3.out.trans (hb4.mono HB3.out.size))
  have HB4' := hideIt hb4
  have w8 := (HW2.out.below HB4.out).2 8 (by omega)
  clear hb4 w7
  go_wp2_with fail
  refine (R5.out _).mono ?_
  rintro e W5 ⟨dvv, rfl, hxs, ⟨ea, en, ec, rfl, hea⟩, hb5⟩
  have HEA := hideIt hea
  clear hea
  have HXS := hideIt hxs
  have HB5 := hideIt (HB4.out.trans (hb5.mono HB4.out.size))
  have HB35 := hideIt (HB4'.out.trans (hb5.mono HB4'.out.size))
  have HS2 := hideIt (show w.heap.size + 1 < W2.heap.size from Nat.lt_of_lt_of_le (by omega) HB2.out.size)
  have HS4 := hideIt (show W2.heap.size ≤ W4.heap.size from HB4.out.size)
  have HS3 := hideIt (show w.heap.size + 1 < W3.heap.size from Nat.lt_of_lt_of_le (Nat.lt_of_lt_of_le (by omega) HB2.out.size) HB3.out.size)
  have HBw5 := hideIt (HBw2.out.trans (HB5.out.mono HBw2.out.size))
  have w1 := (HW2.out.below HB5.out).2 1 (by omega)
  have hh1 := (HB5.out.block B1 (Array.getElem?_eq_some_iff.1 HH1b.out).1).trans HH1b.out
  have hh2 := (HB5.out.block B2 (Array.getElem?_eq_some_iff.1 HH2.out).1).trans HH2.out
  have a0 := cell_of_heapV hh1 0
  have a1 := cell_of_heapV hh1 1
  have a2 := cell_of_heapV hh2 0
  have a3 := cell_of_heapV hh2 1
  have HC5 := hideIt (((HB2.out.trans (HB5.out.mono HB2.out.size)).block w.heap.size (by omega)).trans HC0.out)
  have HG5 := hideIt (((HB2.out.trans (HB5.out.mono HB2.out.size)).block (w.heap.size + 1) (by omega)).trans HG0.out)
  clear hxs hb5 w8 hh1 hh2 HB2 HB4 HB4' HB5 HW2 HW HM HC0 HG0 HH1b HH2 HA HBw2 HBw3 R1 R2 R3 R4 R5
  have HE1 : Hid (∃ y, y = wd ws 1) := ⟨_, rfl⟩
  generalize hp1 : (gOf (wd ws 2) && gOf (wd ws 3)) = p1 at *
  generalize hp2 : (gOf (wd ws 4) && gOf (wd ws 5)) = p2 at *
  generalize hp3 : (Sv.listOf Sv.needS (wd ws 6)).isSome = p3 at *
  generalize hp4 : cgOf (wd ws 7) = p4 at *
  generalize hp5 : (Sv.listOf Sv.numS (wd ws 8)).isSome = p5 at *
  generalize hx1 : wd ws 1 = x1 at *
  generalize hn2 : nOf (wd ws 2) = n2 at *
  generalize hn3 : nOf (wd ws 3) = n3 at *
  generalize hn4 : nOf (wd ws 4) = n4 at *
  generalize hn5 : nOf (wd ws 5) = n5 at *
  generalize hcp : cpOf (wd ws 7) = cp at *
  have HEQ := hideIt (And.intro hx1 (And.intro hn2 (And.intro hn3 (And.intro hn4 (And.intro hn5 hcp)))))
  clear HE1 hx1 hn2 hn3 hn4 hn5 hcp hp1 hp2 hp3 hp4 hp5
  simp only [List.getElem?_toArray, List.getElem?_cons_zero, List.getElem?_cons_succ] at a0 a1 a2 a3
  have z1 := cell_allocV w1 (.cells #[.string ⟨#[]⟩, .int .i64 0, .int .i64 0, .int .i64 0, .int .i64 0, .slice none 0 0] 56)
  have z2 := cell_allocV a0 (.cells #[.string ⟨#[]⟩, .int .i64 0, .int .i64 0, .int .i64 0, .int .i64 0, .slice none 0 0] 56)
  have z3 := cell_allocV a1 (.cells #[.string ⟨#[]⟩, .int .i64 0, .int .i64 0, .int .i64 0, .int .i64 0, .slice none 0 0] 56)
  have z4 := cell_allocV a2 (.cells #[.string ⟨#[]⟩, .int .i64 0, .int .i64 0, .int .i64 0, .int .i64 0, .slice none 0 0] 56)
  have z5 := cell_allocV a3 (.cells #[.string ⟨#[]⟩, .int .i64 0, .int .i64 0, .int .i64 0, .int .i64 0, .slice none 0 0] 56)
  go_wp2_with fail
  go_region
  have HX := hideIt (And.intro HBw5 (And.intro HB35 (And.intro HC5 HG5)))
  clear z1 z2 z3 z4 z5 w1 a0 a1 a2 a3
  go_wp2_with fail
  have hw6 : Below W5.heap.size W5 ((W5.alloc (.cells #[.string ⟨x1.toArray⟩, .int .i64 n2, .int .i64 n3, .int .i64 n4, .int .i64 n5, .slice na nn nc] 56)).alloc (.cells #[.int .u64 cp, .slice ea en ec] 64)).drew := below_drewV (((Below.refl _ _).alloc (Nat.le_refl _) _).alloc (by simp) _)
  have hx0 : ((W5.alloc (.cells #[.string ⟨x1.toArray⟩, .int .i64 n2, .int .i64 n3, .int .i64 n4, .int .i64 n5, .slice na nn nc] 56)).alloc (.cells #[.int .u64 cp, .slice ea en ec] 64)).drew.heap[W5.heap.size]? = some (.cells #[.string ⟨x1.toArray⟩, .int .i64 n2, .int .i64 n3, .int .i64 n4, .int .i64 n5, .slice na nn nc] 56 (0, 0)) := (Below.heap_alloc _ _ _ (by simp)).trans (heap_alloc_new W5 _)
  have hx1 : ((W5.alloc (.cells #[.string ⟨x1.toArray⟩, .int .i64 n2, .int .i64 n3, .int .i64 n4, .int .i64 n5, .slice na nn nc] 56)).alloc (.cells #[.int .u64 cp, .slice ea en ec] 64)).drew.heap[W5.heap.size + 1]? = some (.cells #[.int .u64 cp, .slice ea en ec] 64 (0, 0)) := by have := heap_alloc_new (W5.alloc (.cells #[.string ⟨x1.toArray⟩, .int .i64 n2, .int .i64 n3, .int .i64 n4, .int .i64 n5, .slice na nn nc] 56)) (.cells #[.int .u64 cp, .slice ea en ec] 64); rwa [World.size_alloc] at this
  have HX0 := hideIt (And.intro hx0 hx1)
  have HBw6 := hideIt (HBw5.out.trans (hw6.mono HBw5.out.size))
  have HB36 := hideIt (HB35.out.trans (hw6.mono HB35.out.size))
  have HB56 := hideIt hw6
  have h5 : w.heap.size + 1 < W5.heap.size := (Array.getElem?_eq_some_iff.1 HG5.out).1
  have HC6 := hideIt ((hw6.block w.heap.size (by omega)).trans HC5.out)
  have HG6 := hideIt ((hw6.block (w.heap.size + 1) h5).trans HG5.out)
  clear hx0 hx1 hw6 HX HC5 HG5 HBw5 HB35
  generalize ((W5.alloc (.cells #[.string ⟨x1.toArray⟩, .int .i64 n2, .int .i64 n3, .int .i64 n4, .int .i64 n5, .slice na nn nc] 56)).alloc (.cells #[.int .u64 cp, .slice ea en ec] 64)).drew = U7 at *
  have HS := hideIt (show U7.drew.heap[W5.heap.size]? = some (.cells #[.string ⟨x1.toArray⟩, .int .i64 n2, .int .i64 n3, .int .i64 n4, .int .i64 n5, .slice na nn nc] 56 (0, 0)) ∧ U7.drew.heap[W5.heap.size + 1]? = some (.cells #[.int .u64 cp, .slice ea en ec] 64 (0, 0)) from HX0.out)
  have HCC := hideIt (show U7.drew.heap[w.heap.size]? = some (.cells #[.string ⟨#[]⟩, .int .i64 0, .int .i64 0, .int .i64 0, .int .i64 0, .slice none 0 0] 56 (0, 0)) from HC6.out)
  have HGG := hideIt (show U7.drew.heap[w.heap.size + 1]? = some (.cells #[.int .u64 0, .slice none 0 0] 64 (0, 0)) from HG6.out)
  have HBX := hideIt (show Below w.heap.size w U7.drew from below_drewV HBw6.out)
  have HBY := hideIt (show Below W3.heap.size W3 U7.drew from below_drewV HB36.out)
  have HBZ := hideIt (show Below W5.heap.size W5 U7.drew from below_drewV HB56.out)
  have h3 : w.heap.size + 1 < W3.heap.size := by have := HS3.out; omega
  clear HX0 HC6 HG6 HBw6 HB36 HB56
  clear HSW1 HB3
  rcases two p1 with rfl | rfl
  · rcases two p2 with rfl | rfl
    · rcases two p3 with rfl | rfl
      · rcases two p4 with rfl | rfl
        · skip
          refine wp_region_held_drew (S := (fun w' => w'.heap[W5.heap.size]? = some (.cells #[.string ⟨x1.toArray⟩, .int .i64 n2, .int .i64 n3, .int .i64 n4, .int .i64 n5, .slice na nn nc] 56 (0, 0)) ∧ w'.heap[W5.heap.size + 1]? = some (.cells #[.int .u64 cp, .slice ea en ec] 64 (0, 0)))) (by kernel_rfl) HS.out (fun hHeld => ?_)
          refine wpAnyH_take (i := 0) (oi := { dst := some 68, op := Op.load 56 (Operand.tmp 15), type := 56, pos := "parse.go:91", after := #[], guard := none }) (v := ?v1x0) rfl (by kernel_rfl) (by kernel_rfl) (by kernel_rfl) (fun _ _ _ h => h) (Or.inl ⟨by rfl, ?h1x0⟩) (by assumption) ?r1x0
          case h1x0 =>
            intro w' hSw
            (try dsimp only at hSw)
            have q0 := cell_of_heapV hSw.1 0
            have q1 := cell_of_heapV hSw.1 1
            have q2 := cell_of_heapV hSw.1 2
            have q3 := cell_of_heapV hSw.1 3
            have q4 := cell_of_heapV hSw.1 4
            have q5 := cell_of_heapV hSw.1 5
            simp only [List.getElem?_toArray, List.getElem?_cons_zero, List.getElem?_cons_succ] at q0 q1 q2 q3 q4 q5
            go_simp
            first | done | with_reducible rfl | rfl
          (try simp only [Act.put, List.setIfInBounds_toArray, List.set_cons_zero, List.set_cons_succ])
          refine wpAnyH_take (i := 1) (oi := { dst := some 69, op := Op.load 64 (Operand.tmp 16), type := 64, pos := "parse.go:91", after := #[{ on := 15, ground := Ground.gcOnly Departure.lateStores }], guard := none }) (v := ?v2x1) rfl (by kernel_rfl) (by kernel_rfl) (by kernel_rfl) (fun _ _ _ h => h) (Or.inl ⟨by rfl, ?h2x1⟩) (by assumption) ?r2x1
          case h2x1 =>
            intro w' hSw
            (try dsimp only at hSw)
            have q0 := cell_of_heapV hSw.2 0
            have q1 := cell_of_heapV hSw.2 1
            simp only [List.getElem?_toArray, List.getElem?_cons_zero, List.getElem?_cons_succ] at q0 q1
            go_simp
            first | done | with_reducible rfl | rfl
          (try simp only [Act.put, List.setIfInBounds_toArray, List.set_cons_zero, List.set_cons_succ])
          refine wpAnyH_take (i := 2) (oi := { dst := some 70, op := Op.move (Operand.tmp 6), type := 4, pos := "parse.go:91", after := #[], guard := none }) (v := ?v3x2) rfl (by kernel_rfl) (by kernel_rfl) (by kernel_rfl) (fun _ _ _ h => h) (Or.inl ⟨by rfl, ?h3x2⟩) (by assumption) ?r3x2
          case h3x2 =>
            intro w' hSw
            (try dsimp only at hSw)
            go_simp
            first | done | with_reducible rfl | rfl
          (try simp only [Act.put, List.setIfInBounds_toArray, List.set_cons_zero, List.set_cons_succ])
          refine wpAnyH_take (i := 3) (oi := { dst := some 71, op := Op.move (Operand.tmp 70), type := 4, pos := "parse.go:91", after := #[{ on := 2, ground := Ground.data }], guard := none }) (v := ?v4x3) rfl (by kernel_rfl) (by kernel_rfl) (by kernel_rfl) (fun _ _ _ h => h) (Or.inl ⟨by rfl, ?h4x3⟩) (by assumption) ?r4x3
          case h4x3 =>
            intro w' hSw
            (try dsimp only at hSw)
            go_simp
            first | done | with_reducible rfl | rfl
          (try simp only [Act.put, List.setIfInBounds_toArray, List.set_cons_zero, List.set_cons_succ])
          refine wpAnyH_take (i := 4) (oi := { dst := some 72, op := Op.move (Operand.tmp 8), type := 4, pos := "parse.go:91", after := #[{ on := 3, ground := Ground.guard }], guard := some (3, true) }) (v := ?v5x4) rfl (by kernel_rfl) (by kernel_rfl) (by kernel_rfl) (fun _ _ _ h => h) (Or.inl ⟨by rfl, ?h5x4⟩) (by assumption) ?r5x4
          case h5x4 =>
            intro w' hSw
            (try dsimp only at hSw)
            go_simp
            first | done | with_reducible rfl | rfl
          (try simp only [Act.put, List.setIfInBounds_toArray, List.set_cons_zero, List.set_cons_succ])
          refine wpAnyH_take (i := 5) (oi := { dst := some 73, op := Op.pick (Operand.tmp 71) (Operand.tmp 72) (Operand.const (Value.bool false)), type := 4, pos := "parse.go:91", after := #[{ on := 3, ground := Ground.data }, { on := 4, ground := Ground.data }], guard := none }) (v := ?v6x5) rfl (by kernel_rfl) (by kernel_rfl) (by kernel_rfl) (fun _ _ _ h => h) (Or.inl ⟨by rfl, ?h6x5⟩) (by assumption) ?r6x5
          case h6x5 =>
            intro w' hSw
            (try dsimp only at hSw)
            go_simp
            first | done | with_reducible rfl | rfl
          (try simp only [Act.put, List.setIfInBounds_toArray, List.set_cons_zero, List.set_cons_succ])
          refine wpAnyH_take (i := 6) (oi := { dst := some 74, op := Op.move (Operand.tmp 73), type := 4, pos := "parse.go:91", after := #[{ on := 5, ground := Ground.data }, { on := 3, ground := Ground.chain }], guard := none }) (v := ?v7x6) rfl (by kernel_rfl) (by kernel_rfl) (by kernel_rfl) (fun _ _ _ h => h) (Or.inl ⟨by rfl, ?h7x6⟩) (by assumption) ?r7x6
          case h7x6 =>
            intro w' hSw
            (try dsimp only at hSw)
            go_simp
            first | done | with_reducible rfl | rfl
          (try simp only [Act.put, List.setIfInBounds_toArray, List.set_cons_zero, List.set_cons_succ])
          refine wpAnyH_take (i := 7) (oi := { dst := some 75, op := Op.move (Operand.tmp 10), type := 4, pos := "parse.go:91", after := #[{ on := 6, ground := Ground.guard }], guard := some (6, true) }) (v := ?v8x7) rfl (by kernel_rfl) (by kernel_rfl) (by kernel_rfl) (fun _ _ _ h => h) (Or.inl ⟨by rfl, ?h8x7⟩) (by assumption) ?r8x7
          case h8x7 =>
            intro w' hSw
            (try dsimp only at hSw)
            go_simp
            first | done | with_reducible rfl | rfl
          (try simp only [Act.put, List.setIfInBounds_toArray, List.set_cons_zero, List.set_cons_succ])
          refine wpAnyH_take (i := 8) (oi := { dst := some 76, op := Op.pick (Operand.tmp 74) (Operand.tmp 75) (Operand.const (Value.bool false)), type := 4, pos := "parse.go:91", after := #[{ on := 6, ground := Ground.data }, { on := 7, ground := Ground.data }], guard := none }) (v := ?v9x8) rfl (by kernel_rfl) (by kernel_rfl) (by kernel_rfl) (fun _ _ _ h => h) (Or.inl ⟨by rfl, ?h9x8⟩) (by assumption) ?r9x8
          case h9x8 =>
            intro w' hSw
            (try dsimp only at hSw)
            go_simp
            first | done | with_reducible rfl | rfl
          (try simp only [Act.put, List.setIfInBounds_toArray, List.set_cons_zero, List.set_cons_succ])
          refine wpAnyH_take (i := 9) (oi := { dst := some 77, op := Op.move (Operand.tmp 76), type := 4, pos := "parse.go:91", after := #[{ on := 8, ground := Ground.data }, { on := 6, ground := Ground.chain }], guard := none }) (v := ?v10x9) rfl (by kernel_rfl) (by kernel_rfl) (by kernel_rfl) (fun _ _ _ h => h) (Or.inl ⟨by rfl, ?h10x9⟩) (by assumption) ?r10x9
          case h10x9 =>
            intro w' hSw
            (try dsimp only at hSw)
            go_simp
            first | done | with_reducible rfl | rfl
          (try simp only [Act.put, List.setIfInBounds_toArray, List.set_cons_zero, List.set_cons_succ])
          refine wpAnyH_take (i := 10) (oi := { dst := some 78, op := Op.move (Operand.tmp 12), type := 4, pos := "parse.go:91", after := #[{ on := 9, ground := Ground.guard }], guard := some (9, true) }) (v := ?v11x10) rfl (by kernel_rfl) (by kernel_rfl) (by kernel_rfl) (fun _ _ _ h => h) (Or.inl ⟨by rfl, ?h11x10⟩) (by assumption) ?r11x10
          case h11x10 =>
            intro w' hSw
            (try dsimp only at hSw)
            go_simp
            first | done | with_reducible rfl | rfl
          (try simp only [Act.put, List.setIfInBounds_toArray, List.set_cons_zero, List.set_cons_succ])
          refine wpAnyH_take (i := 11) (oi := { dst := some 79, op := Op.pick (Operand.tmp 77) (Operand.tmp 78) (Operand.const (Value.bool false)), type := 4, pos := "parse.go:91", after := #[{ on := 9, ground := Ground.data }, { on := 10, ground := Ground.data }], guard := none }) (v := ?v12x11) rfl (by kernel_rfl) (by kernel_rfl) (by kernel_rfl) (fun _ _ _ h => h) (Or.inl ⟨by rfl, ?h12x11⟩) (by assumption) ?r12x11
          case h12x11 =>
            intro w' hSw
            (try dsimp only at hSw)
            go_simp
            first | done | with_reducible rfl | rfl
          (try simp only [Act.put, List.setIfInBounds_toArray, List.set_cons_zero, List.set_cons_succ])
          refine wpAnyH_take (i := 12) (oi := { dst := some 80, op := Op.move (Operand.tmp 79), type := 4, pos := "parse.go:91", after := #[{ on := 11, ground := Ground.data }, { on := 9, ground := Ground.chain }], guard := none }) (v := ?v13x12) rfl (by kernel_rfl) (by kernel_rfl) (by kernel_rfl) (fun _ _ _ h => h) (Or.inl ⟨by rfl, ?h13x12⟩) (by assumption) ?r13x12
          case h13x12 =>
            intro w' hSw
            (try dsimp only at hSw)
            go_simp
            first | done | with_reducible rfl | rfl
          (try simp only [Act.put, List.setIfInBounds_toArray, List.set_cons_zero, List.set_cons_succ])
          refine wpAnyH_take (i := 13) (oi := { dst := some 81, op := Op.move (Operand.tmp 14), type := 4, pos := "parse.go:91", after := #[{ on := 12, ground := Ground.guard }, { on := 16, ground := Ground.gcOnly Departure.lateStores }], guard := some (12, true) }) (v := ?v14x13) rfl (by kernel_rfl) (by kernel_rfl) (by kernel_rfl) (fun _ _ _ h => h) (Or.inl ⟨by rfl, ?h14x13⟩) (by assumption) ?r14x13
          case h14x13 =>
            intro w' hSw
            (try dsimp only at hSw)
            go_simp
            first | done | with_reducible rfl | rfl
          (try simp only [Act.put, List.setIfInBounds_toArray, List.set_cons_zero, List.set_cons_succ])
          refine wpAnyH_take (i := 14) (oi := { dst := some 82, op := Op.pick (Operand.tmp 80) (Operand.tmp 81) (Operand.const (Value.bool false)), type := 4, pos := "parse.go:91", after := #[{ on := 12, ground := Ground.data }, { on := 13, ground := Ground.data }, { on := 16, ground := Ground.gcOnly Departure.lateStores }], guard := none }) (v := ?v15x14) rfl (by kernel_rfl) (by kernel_rfl) (by kernel_rfl) (fun _ _ _ h => h) (Or.inl ⟨by rfl, ?h15x14⟩) (by assumption) ?r15x14
          case h15x14 =>
            intro w' hSw
            (try dsimp only at hSw)
            go_simp
            first | done | with_reducible rfl | rfl
          (try simp only [Act.put, List.setIfInBounds_toArray, List.set_cons_zero, List.set_cons_succ])
          have HS6 := hideIt (show (put6 U7.drew w.heap.size (.string ⟨x1.toArray⟩) (.int .i64 n2) (.int .i64 n3) (.int .i64 n4) (.int .i64 n5) (.slice na nn nc)).heap[W5.heap.size]? = some (.cells #[.string ⟨x1.toArray⟩, .int .i64 n2, .int .i64 n3, .int .i64 n4, .int .i64 n5, .slice na nn nc] 56 (0, 0)) ∧ (put6 U7.drew w.heap.size (.string ⟨x1.toArray⟩) (.int .i64 n2) (.int .i64 n3) (.int .i64 n4) (.int .i64 n5) (.slice na nn nc)).heap[W5.heap.size + 1]? = some (.cells #[.int .u64 cp, .slice ea en ec] 64 (0, 0)) from ⟨(put6_other (by omega)).trans HS.out.1, (put6_other (by omega)).trans HS.out.2⟩)
          have HG6 := hideIt (show (put6 U7.drew w.heap.size (.string ⟨x1.toArray⟩) (.int .i64 n2) (.int .i64 n3) (.int .i64 n4) (.int .i64 n5) (.slice na nn nc)).heap[w.heap.size + 1]? = some (.cells #[.int .u64 0, .slice none 0 0] 64 (0, 0)) from (put6_other (by omega)).trans HGG.out)
          have HC6 := hideIt (show (put6 U7.drew w.heap.size (.string ⟨x1.toArray⟩) (.int .i64 n2) (.int .i64 n3) (.int .i64 n4) (.int .i64 n5) (.slice na nn nc)).heap[w.heap.size]? = some (.cells #[.string ⟨x1.toArray⟩, .int .i64 n2, .int .i64 n3, .int .i64 n4, .int .i64 n5, .slice na nn nc] 56 (0, 0)) from put6_same HCC.out)
          have HBX6 := hideIt (show Below w.heap.size w (put6 U7.drew w.heap.size (.string ⟨x1.toArray⟩) (.int .i64 n2) (.int .i64 n3) (.int .i64 n4) (.int .i64 n5) (.slice na nn nc)) from put6_below HBX.out (Nat.le_refl _))
          have HAP6 := hideIt (show Apart (fun j => j = w.heap.size) U7.drew (put6 U7.drew w.heap.size (.string ⟨x1.toArray⟩) (.int .i64 n2) (.int .i64 n3) (.int .i64 n4) (.int .i64 n5) (.slice na nn nc)) from put6_apart)
          refine wpAnyH_ready (rs := [15]) (by kernel_rfl) (by simp) (AllReadyH.cons rfl (fun K hK => ?_) AllReadyH.nil)
          rw [if_pos (by rfl)]
          refine wp_storeC HCC.out rfl rfl ?_
          refine hK.out _ _ HS6.out (fun hHeld => ?_)
          clear hK K
          generalize (put6 U7.drew w.heap.size (.string ⟨x1.toArray⟩) (.int .i64 n2) (.int .i64 n3) (.int .i64 n4) (.int .i64 n5) (.slice na nn nc)) = P6 at *
          have HS8 := hideIt (show (put2 P6 (w.heap.size + 1) (.int .u64 cp) (.slice ea en ec)).heap[W5.heap.size]? = some (.cells #[.string ⟨x1.toArray⟩, .int .i64 n2, .int .i64 n3, .int .i64 n4, .int .i64 n5, .slice na nn nc] 56 (0, 0)) ∧ (put2 P6 (w.heap.size + 1) (.int .u64 cp) (.slice ea en ec)).heap[W5.heap.size + 1]? = some (.cells #[.int .u64 cp, .slice ea en ec] 64 (0, 0)) from ⟨(put2_other (by omega)).trans HS6.out.1, (put2_other (by omega)).trans HS6.out.2⟩)
          have HG8 := hideIt (show (put2 P6 (w.heap.size + 1) (.int .u64 cp) (.slice ea en ec)).heap[w.heap.size + 1]? = some (.cells #[.int .u64 cp, .slice ea en ec] 64 (0, 0)) from put2_same HG6.out)
          have HC8 := hideIt (show (put2 P6 (w.heap.size + 1) (.int .u64 cp) (.slice ea en ec)).heap[w.heap.size]? = some (.cells #[.string ⟨x1.toArray⟩, .int .i64 n2, .int .i64 n3, .int .i64 n4, .int .i64 n5, .slice na nn nc] 56 (0, 0)) from (put2_other (by omega)).trans HC6.out)
          have HBX8 := hideIt (show Below w.heap.size w (put2 P6 (w.heap.size + 1) (.int .u64 cp) (.slice ea en ec)) from put2_below HBX6.out (Nat.le_succ _))
          have HAP8 := hideIt (show Apart (fun j => j = w.heap.size ∨ j = w.heap.size + 1) U7.drew (put2 P6 (w.heap.size + 1) (.int .u64 cp) (.slice ea en ec)) from (HAP6.out.wide fun _ => .inl).trans put2_apart)
          refine wpAnyH_ready (rs := [16]) (by kernel_rfl) (by simp) (AllReadyH.cons rfl (fun K hK => ?_) AllReadyH.nil)
          rw [if_pos (by rfl)]
          refine wp_storeG HG6.out rfl rfl ?_
          refine hK.out _ _ HS8.out (fun hHeld => ?_)
          clear hK K
          generalize (put2 P6 (w.heap.size + 1) (.int .u64 cp) (.slice ea en ec)) = P8 at *
          refine wpAnyH_take (i := 17) (oi := { dst := some 4, op := Op.assign (Operand.tmp 82), type := 4, pos := "parse.go:91", after := #[{ on := 14, ground := Ground.data }, { on := 16, ground := Ground.chain }, { on := 0, ground := Ground.phase }, { on := 1, ground := Ground.phase }, { on := 2, ground := Ground.phase }, { on := 3, ground := Ground.phase }, { on := 4, ground := Ground.phase }, { on := 5, ground := Ground.phase }, { on := 6, ground := Ground.phase }, { on := 7, ground := Ground.phase }, { on := 8, ground := Ground.phase }, { on := 9, ground := Ground.phase }, { on := 10, ground := Ground.phase }, { on := 11, ground := Ground.phase }, { on := 12, ground := Ground.phase }, { on := 13, ground := Ground.phase }, { on := 14, ground := Ground.phase }, { on := 15, ground := Ground.phase }, { on := 16, ground := Ground.phase }], guard := none }) (v := ?v16x17) rfl (by kernel_rfl) (by kernel_rfl) (by kernel_rfl) (fun _ _ _ h => h) (Or.inl ⟨by rfl, ?h16x17⟩) (by assumption) ?r16x17
          case h16x17 =>
            intro w' hSw
            (try dsimp only at hSw)
            go_simp
            first | done | with_reducible rfl | rfl
          (try simp only [Act.put, List.setIfInBounds_toArray, List.set_cons_zero, List.set_cons_succ])
          refine wpAnyH_done (by kernel_rfl) ?_ _
          have e0 := cell_of_heapV HC8.out 0
          have e1 := cell_of_heapV HC8.out 1
          have e2 := cell_of_heapV HC8.out 2
          have e3 := cell_of_heapV HC8.out 3
          have e4 := cell_of_heapV HC8.out 4
          have e5 := cell_of_heapV HC8.out 5
          have e6 := cell_of_heapV HG8.out 0
          have e7 := cell_of_heapV HG8.out 1
          simp only [List.getElem?_toArray, List.getElem?_cons_zero, List.getElem?_cons_succ] at e0 e1 e2 e3 e4 e5 e6 e7
          clear hHeld
          go_wp2_with fail
          (try simp only [Exit.inBlock, Exit.then])
          have h2 := HS2.out
          have h4 := HS4.out
          obtain ⟨q1, q2, q3, q4, q5, q6⟩ := HEQ.out
          refine bodyPost_ret (v := .tuple #[.agg #[.string ⟨x1.toArray⟩, .int .i64 n2, .int .i64 n3, .int .i64 n4, .int .i64 n5, .slice na nn nc], .agg #[.int .u64 cp, .slice ea en ec], .bool p5]) ?_ rfl ⟨.slice na nn nc, .slice ea en ec, ?_, fun ds hd => ?_, fun xs hd => ?_, ⟨_, _, _, rfl, fun x hx => Nat.le_trans (by omega) (HNA.out x hx)⟩, ⟨_, _, _, rfl, fun x hx => Nat.le_trans (by omega) (HEA.out x hx)⟩, HBX8.out⟩
          · rw [results_cct rfl]
            go_simp
          · rw [HOK.out, q1, q2, q3, q4, q5, q6]
            simp
          · exact needs_apart (N := W2.heap.size) ((HND.out ds hd).below HBY.out) ⟨_, _, _, rfl, HNA.out⟩ HAP8.out (fun j hj => by omega)
          · exact ((HXS.out xs hd).below HBZ.out).apart (N := W4.heap.size) ⟨_, _, _, rfl, HEA.out⟩ HAP8.out (fun j hj => by omega)
        · skip
          refine wp_region_held_drew (S := (fun w' => w'.heap[W5.heap.size]? = some (.cells #[.string ⟨x1.toArray⟩, .int .i64 n2, .int .i64 n3, .int .i64 n4, .int .i64 n5, .slice na nn nc] 56 (0, 0)) ∧ w'.heap[W5.heap.size + 1]? = some (.cells #[.int .u64 cp, .slice ea en ec] 64 (0, 0)))) (by kernel_rfl) HS.out (fun hHeld => ?_)
          refine wpAnyH_take (i := 0) (oi := { dst := some 68, op := Op.load 56 (Operand.tmp 15), type := 56, pos := "parse.go:91", after := #[], guard := none }) (v := ?v17x0) rfl (by kernel_rfl) (by kernel_rfl) (by kernel_rfl) (fun _ _ _ h => h) (Or.inl ⟨by rfl, ?h17x0⟩) (by assumption) ?r17x0
          case h17x0 =>
            intro w' hSw
            (try dsimp only at hSw)
            have q0 := cell_of_heapV hSw.1 0
            have q1 := cell_of_heapV hSw.1 1
            have q2 := cell_of_heapV hSw.1 2
            have q3 := cell_of_heapV hSw.1 3
            have q4 := cell_of_heapV hSw.1 4
            have q5 := cell_of_heapV hSw.1 5
            simp only [List.getElem?_toArray, List.getElem?_cons_zero, List.getElem?_cons_succ] at q0 q1 q2 q3 q4 q5
            go_simp
            first | done | with_reducible rfl | rfl
          (try simp only [Act.put, List.setIfInBounds_toArray, List.set_cons_zero, List.set_cons_succ])
          refine wpAnyH_take (i := 1) (oi := { dst := some 69, op := Op.load 64 (Operand.tmp 16), type := 64, pos := "parse.go:91", after := #[{ on := 15, ground := Ground.gcOnly Departure.lateStores }], guard := none }) (v := ?v18x1) rfl (by kernel_rfl) (by kernel_rfl) (by kernel_rfl) (fun _ _ _ h => h) (Or.inl ⟨by rfl, ?h18x1⟩) (by assumption) ?r18x1
          case h18x1 =>
            intro w' hSw
            (try dsimp only at hSw)
            have q0 := cell_of_heapV hSw.2 0
            have q1 := cell_of_heapV hSw.2 1
            simp only [List.getElem?_toArray, List.getElem?_cons_zero, List.getElem?_cons_succ] at q0 q1
            go_simp
            first | done | with_reducible rfl | rfl
          (try simp only [Act.put, List.setIfInBounds_toArray, List.set_cons_zero, List.set_cons_succ])
          refine wpAnyH_take (i := 2) (oi := { dst := some 70, op := Op.move (Operand.tmp 6), type := 4, pos := "parse.go:91", after := #[], guard := none }) (v := ?v19x2) rfl (by kernel_rfl) (by kernel_rfl) (by kernel_rfl) (fun _ _ _ h => h) (Or.inl ⟨by rfl, ?h19x2⟩) (by assumption) ?r19x2
          case h19x2 =>
            intro w' hSw
            (try dsimp only at hSw)
            go_simp
            first | done | with_reducible rfl | rfl
          (try simp only [Act.put, List.setIfInBounds_toArray, List.set_cons_zero, List.set_cons_succ])
          refine wpAnyH_take (i := 3) (oi := { dst := some 71, op := Op.move (Operand.tmp 70), type := 4, pos := "parse.go:91", after := #[{ on := 2, ground := Ground.data }], guard := none }) (v := ?v20x3) rfl (by kernel_rfl) (by kernel_rfl) (by kernel_rfl) (fun _ _ _ h => h) (Or.inl ⟨by rfl, ?h20x3⟩) (by assumption) ?r20x3
          case h20x3 =>
            intro w' hSw
            (try dsimp only at hSw)
            go_simp
            first | done | with_reducible rfl | rfl
          (try simp only [Act.put, List.setIfInBounds_toArray, List.set_cons_zero, List.set_cons_succ])
          refine wpAnyH_take (i := 4) (oi := { dst := some 72, op := Op.move (Operand.tmp 8), type := 4, pos := "parse.go:91", after := #[{ on := 3, ground := Ground.guard }], guard := some (3, true) }) (v := ?v21x4) rfl (by kernel_rfl) (by kernel_rfl) (by kernel_rfl) (fun _ _ _ h => h) (Or.inl ⟨by rfl, ?h21x4⟩) (by assumption) ?r21x4
          case h21x4 =>
            intro w' hSw
            (try dsimp only at hSw)
            go_simp
            first | done | with_reducible rfl | rfl
          (try simp only [Act.put, List.setIfInBounds_toArray, List.set_cons_zero, List.set_cons_succ])
          refine wpAnyH_take (i := 5) (oi := { dst := some 73, op := Op.pick (Operand.tmp 71) (Operand.tmp 72) (Operand.const (Value.bool false)), type := 4, pos := "parse.go:91", after := #[{ on := 3, ground := Ground.data }, { on := 4, ground := Ground.data }], guard := none }) (v := ?v22x5) rfl (by kernel_rfl) (by kernel_rfl) (by kernel_rfl) (fun _ _ _ h => h) (Or.inl ⟨by rfl, ?h22x5⟩) (by assumption) ?r22x5
          case h22x5 =>
            intro w' hSw
            (try dsimp only at hSw)
            go_simp
            first | done | with_reducible rfl | rfl
          (try simp only [Act.put, List.setIfInBounds_toArray, List.set_cons_zero, List.set_cons_succ])
          refine wpAnyH_take (i := 6) (oi := { dst := some 74, op := Op.move (Operand.tmp 73), type := 4, pos := "parse.go:91", after := #[{ on := 5, ground := Ground.data }, { on := 3, ground := Ground.chain }], guard := none }) (v := ?v23x6) rfl (by kernel_rfl) (by kernel_rfl) (by kernel_rfl) (fun _ _ _ h => h) (Or.inl ⟨by rfl, ?h23x6⟩) (by assumption) ?r23x6
          case h23x6 =>
            intro w' hSw
            (try dsimp only at hSw)
            go_simp
            first | done | with_reducible rfl | rfl
          (try simp only [Act.put, List.setIfInBounds_toArray, List.set_cons_zero, List.set_cons_succ])
          refine wpAnyH_take (i := 7) (oi := { dst := some 75, op := Op.move (Operand.tmp 10), type := 4, pos := "parse.go:91", after := #[{ on := 6, ground := Ground.guard }], guard := some (6, true) }) (v := ?v24x7) rfl (by kernel_rfl) (by kernel_rfl) (by kernel_rfl) (fun _ _ _ h => h) (Or.inl ⟨by rfl, ?h24x7⟩) (by assumption) ?r24x7
          case h24x7 =>
            intro w' hSw
            (try dsimp only at hSw)
            go_simp
            first | done | with_reducible rfl | rfl
          (try simp only [Act.put, List.setIfInBounds_toArray, List.set_cons_zero, List.set_cons_succ])
          refine wpAnyH_take (i := 8) (oi := { dst := some 76, op := Op.pick (Operand.tmp 74) (Operand.tmp 75) (Operand.const (Value.bool false)), type := 4, pos := "parse.go:91", after := #[{ on := 6, ground := Ground.data }, { on := 7, ground := Ground.data }], guard := none }) (v := ?v25x8) rfl (by kernel_rfl) (by kernel_rfl) (by kernel_rfl) (fun _ _ _ h => h) (Or.inl ⟨by rfl, ?h25x8⟩) (by assumption) ?r25x8
          case h25x8 =>
            intro w' hSw
            (try dsimp only at hSw)
            go_simp
            first | done | with_reducible rfl | rfl
          (try simp only [Act.put, List.setIfInBounds_toArray, List.set_cons_zero, List.set_cons_succ])
          refine wpAnyH_take (i := 9) (oi := { dst := some 77, op := Op.move (Operand.tmp 76), type := 4, pos := "parse.go:91", after := #[{ on := 8, ground := Ground.data }, { on := 6, ground := Ground.chain }], guard := none }) (v := ?v26x9) rfl (by kernel_rfl) (by kernel_rfl) (by kernel_rfl) (fun _ _ _ h => h) (Or.inl ⟨by rfl, ?h26x9⟩) (by assumption) ?r26x9
          case h26x9 =>
            intro w' hSw
            (try dsimp only at hSw)
            go_simp
            first | done | with_reducible rfl | rfl
          (try simp only [Act.put, List.setIfInBounds_toArray, List.set_cons_zero, List.set_cons_succ])
          refine wpAnyH_take (i := 10) (oi := { dst := some 78, op := Op.move (Operand.tmp 12), type := 4, pos := "parse.go:91", after := #[{ on := 9, ground := Ground.guard }], guard := some (9, true) }) (v := ?v27x10) rfl (by kernel_rfl) (by kernel_rfl) (by kernel_rfl) (fun _ _ _ h => h) (Or.inl ⟨by rfl, ?h27x10⟩) (by assumption) ?r27x10
          case h27x10 =>
            intro w' hSw
            (try dsimp only at hSw)
            go_simp
            first | done | with_reducible rfl | rfl
          (try simp only [Act.put, List.setIfInBounds_toArray, List.set_cons_zero, List.set_cons_succ])
          refine wpAnyH_take (i := 11) (oi := { dst := some 79, op := Op.pick (Operand.tmp 77) (Operand.tmp 78) (Operand.const (Value.bool false)), type := 4, pos := "parse.go:91", after := #[{ on := 9, ground := Ground.data }, { on := 10, ground := Ground.data }], guard := none }) (v := ?v28x11) rfl (by kernel_rfl) (by kernel_rfl) (by kernel_rfl) (fun _ _ _ h => h) (Or.inl ⟨by rfl, ?h28x11⟩) (by assumption) ?r28x11
          case h28x11 =>
            intro w' hSw
            (try dsimp only at hSw)
            go_simp
            first | done | with_reducible rfl | rfl
          (try simp only [Act.put, List.setIfInBounds_toArray, List.set_cons_zero, List.set_cons_succ])
          refine wpAnyH_take (i := 12) (oi := { dst := some 80, op := Op.move (Operand.tmp 79), type := 4, pos := "parse.go:91", after := #[{ on := 11, ground := Ground.data }, { on := 9, ground := Ground.chain }], guard := none }) (v := ?v29x12) rfl (by kernel_rfl) (by kernel_rfl) (by kernel_rfl) (fun _ _ _ h => h) (Or.inl ⟨by rfl, ?h29x12⟩) (by assumption) ?r29x12
          case h29x12 =>
            intro w' hSw
            (try dsimp only at hSw)
            go_simp
            first | done | with_reducible rfl | rfl
          (try simp only [Act.put, List.setIfInBounds_toArray, List.set_cons_zero, List.set_cons_succ])
          refine wpAnyH_take (i := 13) (oi := { dst := some 81, op := Op.move (Operand.tmp 14), type := 4, pos := "parse.go:91", after := #[{ on := 12, ground := Ground.guard }, { on := 16, ground := Ground.gcOnly Departure.lateStores }], guard := some (12, true) }) (v := undef) rfl (by kernel_rfl) (by kernel_rfl) (by kernel_rfl) (fun _ _ _ h => h) (Or.inr ⟨by rfl, rfl⟩) (by assumption) ?_
          (try simp only [Act.put, List.setIfInBounds_toArray, List.set_cons_zero, List.set_cons_succ])
          refine wpAnyH_take (i := 14) (oi := { dst := some 82, op := Op.pick (Operand.tmp 80) (Operand.tmp 81) (Operand.const (Value.bool false)), type := 4, pos := "parse.go:91", after := #[{ on := 12, ground := Ground.data }, { on := 13, ground := Ground.data }, { on := 16, ground := Ground.gcOnly Departure.lateStores }], guard := none }) (v := ?v30x14) rfl (by kernel_rfl) (by kernel_rfl) (by kernel_rfl) (fun _ _ _ h => h) (Or.inl ⟨by rfl, ?h30x14⟩) (by assumption) ?r30x14
          case h30x14 =>
            intro w' hSw
            (try dsimp only at hSw)
            go_simp
            first | done | with_reducible rfl | rfl
          (try simp only [Act.put, List.setIfInBounds_toArray, List.set_cons_zero, List.set_cons_succ])
          have HS6 := hideIt (show (put6 U7.drew w.heap.size (.string ⟨x1.toArray⟩) (.int .i64 n2) (.int .i64 n3) (.int .i64 n4) (.int .i64 n5) (.slice na nn nc)).heap[W5.heap.size]? = some (.cells #[.string ⟨x1.toArray⟩, .int .i64 n2, .int .i64 n3, .int .i64 n4, .int .i64 n5, .slice na nn nc] 56 (0, 0)) ∧ (put6 U7.drew w.heap.size (.string ⟨x1.toArray⟩) (.int .i64 n2) (.int .i64 n3) (.int .i64 n4) (.int .i64 n5) (.slice na nn nc)).heap[W5.heap.size + 1]? = some (.cells #[.int .u64 cp, .slice ea en ec] 64 (0, 0)) from ⟨(put6_other (by omega)).trans HS.out.1, (put6_other (by omega)).trans HS.out.2⟩)
          have HG6 := hideIt (show (put6 U7.drew w.heap.size (.string ⟨x1.toArray⟩) (.int .i64 n2) (.int .i64 n3) (.int .i64 n4) (.int .i64 n5) (.slice na nn nc)).heap[w.heap.size + 1]? = some (.cells #[.int .u64 0, .slice none 0 0] 64 (0, 0)) from (put6_other (by omega)).trans HGG.out)
          have HC6 := hideIt (show (put6 U7.drew w.heap.size (.string ⟨x1.toArray⟩) (.int .i64 n2) (.int .i64 n3) (.int .i64 n4) (.int .i64 n5) (.slice na nn nc)).heap[w.heap.size]? = some (.cells #[.string ⟨x1.toArray⟩, .int .i64 n2, .int .i64 n3, .int .i64 n4, .int .i64 n5, .slice na nn nc] 56 (0, 0)) from put6_same HCC.out)
          have HBX6 := hideIt (show Below w.heap.size w (put6 U7.drew w.heap.size (.string ⟨x1.toArray⟩) (.int .i64 n2) (.int .i64 n3) (.int .i64 n4) (.int .i64 n5) (.slice na nn nc)) from put6_below HBX.out (Nat.le_refl _))
          have HAP6 := hideIt (show Apart (fun j => j = w.heap.size) U7.drew (put6 U7.drew w.heap.size (.string ⟨x1.toArray⟩) (.int .i64 n2) (.int .i64 n3) (.int .i64 n4) (.int .i64 n5) (.slice na nn nc)) from put6_apart)
          refine wpAnyH_ready (rs := [15]) (by kernel_rfl) (by simp) (AllReadyH.cons rfl (fun K hK => ?_) AllReadyH.nil)
          rw [if_pos (by rfl)]
          refine wp_storeC HCC.out rfl rfl ?_
          refine hK.out _ _ HS6.out (fun hHeld => ?_)
          clear hK K
          generalize (put6 U7.drew w.heap.size (.string ⟨x1.toArray⟩) (.int .i64 n2) (.int .i64 n3) (.int .i64 n4) (.int .i64 n5) (.slice na nn nc)) = P6 at *
          have HS8 := hideIt (show (put2 P6 (w.heap.size + 1) (.int .u64 cp) (.slice ea en ec)).heap[W5.heap.size]? = some (.cells #[.string ⟨x1.toArray⟩, .int .i64 n2, .int .i64 n3, .int .i64 n4, .int .i64 n5, .slice na nn nc] 56 (0, 0)) ∧ (put2 P6 (w.heap.size + 1) (.int .u64 cp) (.slice ea en ec)).heap[W5.heap.size + 1]? = some (.cells #[.int .u64 cp, .slice ea en ec] 64 (0, 0)) from ⟨(put2_other (by omega)).trans HS6.out.1, (put2_other (by omega)).trans HS6.out.2⟩)
          have HG8 := hideIt (show (put2 P6 (w.heap.size + 1) (.int .u64 cp) (.slice ea en ec)).heap[w.heap.size + 1]? = some (.cells #[.int .u64 cp, .slice ea en ec] 64 (0, 0)) from put2_same HG6.out)
          have HC8 := hideIt (show (put2 P6 (w.heap.size + 1) (.int .u64 cp) (.slice ea en ec)).heap[w.heap.size]? = some (.cells #[.string ⟨x1.toArray⟩, .int .i64 n2, .int .i64 n3, .int .i64 n4, .int .i64 n5, .slice na nn nc] 56 (0, 0)) from (put2_other (by omega)).trans HC6.out)
          have HBX8 := hideIt (show Below w.heap.size w (put2 P6 (w.heap.size + 1) (.int .u64 cp) (.slice ea en ec)) from put2_below HBX6.out (Nat.le_succ _))
          have HAP8 := hideIt (show Apart (fun j => j = w.heap.size ∨ j = w.heap.size + 1) U7.drew (put2 P6 (w.heap.size + 1) (.int .u64 cp) (.slice ea en ec)) from (HAP6.out.wide fun _ => .inl).trans put2_apart)
          refine wpAnyH_ready (rs := [16]) (by kernel_rfl) (by simp) (AllReadyH.cons rfl (fun K hK => ?_) AllReadyH.nil)
          rw [if_pos (by rfl)]
          refine wp_storeG HG6.out rfl rfl ?_
          refine hK.out _ _ HS8.out (fun hHeld => ?_)
          clear hK K
          generalize (put2 P6 (w.heap.size + 1) (.int .u64 cp) (.slice ea en ec)) = P8 at *
          refine wpAnyH_take (i := 17) (oi := { dst := some 4, op := Op.assign (Operand.tmp 82), type := 4, pos := "parse.go:91", after := #[{ on := 14, ground := Ground.data }, { on := 16, ground := Ground.chain }, { on := 0, ground := Ground.phase }, { on := 1, ground := Ground.phase }, { on := 2, ground := Ground.phase }, { on := 3, ground := Ground.phase }, { on := 4, ground := Ground.phase }, { on := 5, ground := Ground.phase }, { on := 6, ground := Ground.phase }, { on := 7, ground := Ground.phase }, { on := 8, ground := Ground.phase }, { on := 9, ground := Ground.phase }, { on := 10, ground := Ground.phase }, { on := 11, ground := Ground.phase }, { on := 12, ground := Ground.phase }, { on := 13, ground := Ground.phase }, { on := 14, ground := Ground.phase }, { on := 15, ground := Ground.phase }, { on := 16, ground := Ground.phase }], guard := none }) (v := ?v31x17) rfl (by kernel_rfl) (by kernel_rfl) (by kernel_rfl) (fun _ _ _ h => h) (Or.inl ⟨by rfl, ?h31x17⟩) (by assumption) ?r31x17
          case h31x17 =>
            intro w' hSw
            (try dsimp only at hSw)
            go_simp
            first | done | with_reducible rfl | rfl
          (try simp only [Act.put, List.setIfInBounds_toArray, List.set_cons_zero, List.set_cons_succ])
          refine wpAnyH_done (by kernel_rfl) ?_ _
          have e0 := cell_of_heapV HC8.out 0
          have e1 := cell_of_heapV HC8.out 1
          have e2 := cell_of_heapV HC8.out 2
          have e3 := cell_of_heapV HC8.out 3
          have e4 := cell_of_heapV HC8.out 4
          have e5 := cell_of_heapV HC8.out 5
          have e6 := cell_of_heapV HG8.out 0
          have e7 := cell_of_heapV HG8.out 1
          simp only [List.getElem?_toArray, List.getElem?_cons_zero, List.getElem?_cons_succ] at e0 e1 e2 e3 e4 e5 e6 e7
          clear hHeld
          go_wp2_with fail
          (try simp only [Exit.inBlock, Exit.then])
          have h2 := HS2.out
          have h4 := HS4.out
          obtain ⟨q1, q2, q3, q4, q5, q6⟩ := HEQ.out
          refine bodyPost_ret (v := .tuple #[.agg #[.string ⟨x1.toArray⟩, .int .i64 n2, .int .i64 n3, .int .i64 n4, .int .i64 n5, .slice na nn nc], .agg #[.int .u64 cp, .slice ea en ec], .bool false]) ?_ rfl ⟨.slice na nn nc, .slice ea en ec, ?_, fun ds hd => ?_, fun xs hd => ?_, ⟨_, _, _, rfl, fun x hx => Nat.le_trans (by omega) (HNA.out x hx)⟩, ⟨_, _, _, rfl, fun x hx => Nat.le_trans (by omega) (HEA.out x hx)⟩, HBX8.out⟩
          · rw [results_cct rfl]
            go_simp
          · rw [HOK.out, q1, q2, q3, q4, q5, q6]
            simp
          · exact needs_apart (N := W2.heap.size) ((HND.out ds hd).below HBY.out) ⟨_, _, _, rfl, HNA.out⟩ HAP8.out (fun j hj => by omega)
          · exact ((HXS.out xs hd).below HBZ.out).apart (N := W4.heap.size) ⟨_, _, _, rfl, HEA.out⟩ HAP8.out (fun j hj => by omega)
      · skip
        refine wp_region_held_drew (S := (fun w' => w'.heap[W5.heap.size]? = some (.cells #[.string ⟨x1.toArray⟩, .int .i64 n2, .int .i64 n3, .int .i64 n4, .int .i64 n5, .slice na nn nc] 56 (0, 0)) ∧ w'.heap[W5.heap.size + 1]? = some (.cells #[.int .u64 cp, .slice ea en ec] 64 (0, 0)))) (by kernel_rfl) HS.out (fun hHeld => ?_)
        refine wpAnyH_take (i := 0) (oi := { dst := some 68, op := Op.load 56 (Operand.tmp 15), type := 56, pos := "parse.go:91", after := #[], guard := none }) (v := ?v32x0) rfl (by kernel_rfl) (by kernel_rfl) (by kernel_rfl) (fun _ _ _ h => h) (Or.inl ⟨by rfl, ?h32x0⟩) (by assumption) ?r32x0
        case h32x0 =>
          intro w' hSw
          (try dsimp only at hSw)
          have q0 := cell_of_heapV hSw.1 0
          have q1 := cell_of_heapV hSw.1 1
          have q2 := cell_of_heapV hSw.1 2
          have q3 := cell_of_heapV hSw.1 3
          have q4 := cell_of_heapV hSw.1 4
          have q5 := cell_of_heapV hSw.1 5
          simp only [List.getElem?_toArray, List.getElem?_cons_zero, List.getElem?_cons_succ] at q0 q1 q2 q3 q4 q5
          go_simp
          first | done | with_reducible rfl | rfl
        (try simp only [Act.put, List.setIfInBounds_toArray, List.set_cons_zero, List.set_cons_succ])
        refine wpAnyH_take (i := 1) (oi := { dst := some 69, op := Op.load 64 (Operand.tmp 16), type := 64, pos := "parse.go:91", after := #[{ on := 15, ground := Ground.gcOnly Departure.lateStores }], guard := none }) (v := ?v33x1) rfl (by kernel_rfl) (by kernel_rfl) (by kernel_rfl) (fun _ _ _ h => h) (Or.inl ⟨by rfl, ?h33x1⟩) (by assumption) ?r33x1
        case h33x1 =>
          intro w' hSw
          (try dsimp only at hSw)
          have q0 := cell_of_heapV hSw.2 0
          have q1 := cell_of_heapV hSw.2 1
          simp only [List.getElem?_toArray, List.getElem?_cons_zero, List.getElem?_cons_succ] at q0 q1
          go_simp
          first | done | with_reducible rfl | rfl
        (try simp only [Act.put, List.setIfInBounds_toArray, List.set_cons_zero, List.set_cons_succ])
        refine wpAnyH_take (i := 2) (oi := { dst := some 70, op := Op.move (Operand.tmp 6), type := 4, pos := "parse.go:91", after := #[], guard := none }) (v := ?v34x2) rfl (by kernel_rfl) (by kernel_rfl) (by kernel_rfl) (fun _ _ _ h => h) (Or.inl ⟨by rfl, ?h34x2⟩) (by assumption) ?r34x2
        case h34x2 =>
          intro w' hSw
          (try dsimp only at hSw)
          go_simp
          first | done | with_reducible rfl | rfl
        (try simp only [Act.put, List.setIfInBounds_toArray, List.set_cons_zero, List.set_cons_succ])
        refine wpAnyH_take (i := 3) (oi := { dst := some 71, op := Op.move (Operand.tmp 70), type := 4, pos := "parse.go:91", after := #[{ on := 2, ground := Ground.data }], guard := none }) (v := ?v35x3) rfl (by kernel_rfl) (by kernel_rfl) (by kernel_rfl) (fun _ _ _ h => h) (Or.inl ⟨by rfl, ?h35x3⟩) (by assumption) ?r35x3
        case h35x3 =>
          intro w' hSw
          (try dsimp only at hSw)
          go_simp
          first | done | with_reducible rfl | rfl
        (try simp only [Act.put, List.setIfInBounds_toArray, List.set_cons_zero, List.set_cons_succ])
        refine wpAnyH_take (i := 4) (oi := { dst := some 72, op := Op.move (Operand.tmp 8), type := 4, pos := "parse.go:91", after := #[{ on := 3, ground := Ground.guard }], guard := some (3, true) }) (v := ?v36x4) rfl (by kernel_rfl) (by kernel_rfl) (by kernel_rfl) (fun _ _ _ h => h) (Or.inl ⟨by rfl, ?h36x4⟩) (by assumption) ?r36x4
        case h36x4 =>
          intro w' hSw
          (try dsimp only at hSw)
          go_simp
          first | done | with_reducible rfl | rfl
        (try simp only [Act.put, List.setIfInBounds_toArray, List.set_cons_zero, List.set_cons_succ])
        refine wpAnyH_take (i := 5) (oi := { dst := some 73, op := Op.pick (Operand.tmp 71) (Operand.tmp 72) (Operand.const (Value.bool false)), type := 4, pos := "parse.go:91", after := #[{ on := 3, ground := Ground.data }, { on := 4, ground := Ground.data }], guard := none }) (v := ?v37x5) rfl (by kernel_rfl) (by kernel_rfl) (by kernel_rfl) (fun _ _ _ h => h) (Or.inl ⟨by rfl, ?h37x5⟩) (by assumption) ?r37x5
        case h37x5 =>
          intro w' hSw
          (try dsimp only at hSw)
          go_simp
          first | done | with_reducible rfl | rfl
        (try simp only [Act.put, List.setIfInBounds_toArray, List.set_cons_zero, List.set_cons_succ])
        refine wpAnyH_take (i := 6) (oi := { dst := some 74, op := Op.move (Operand.tmp 73), type := 4, pos := "parse.go:91", after := #[{ on := 5, ground := Ground.data }, { on := 3, ground := Ground.chain }], guard := none }) (v := ?v38x6) rfl (by kernel_rfl) (by kernel_rfl) (by kernel_rfl) (fun _ _ _ h => h) (Or.inl ⟨by rfl, ?h38x6⟩) (by assumption) ?r38x6
        case h38x6 =>
          intro w' hSw
          (try dsimp only at hSw)
          go_simp
          first | done | with_reducible rfl | rfl
        (try simp only [Act.put, List.setIfInBounds_toArray, List.set_cons_zero, List.set_cons_succ])
        refine wpAnyH_take (i := 7) (oi := { dst := some 75, op := Op.move (Operand.tmp 10), type := 4, pos := "parse.go:91", after := #[{ on := 6, ground := Ground.guard }], guard := some (6, true) }) (v := ?v39x7) rfl (by kernel_rfl) (by kernel_rfl) (by kernel_rfl) (fun _ _ _ h => h) (Or.inl ⟨by rfl, ?h39x7⟩) (by assumption) ?r39x7
        case h39x7 =>
          intro w' hSw
          (try dsimp only at hSw)
          go_simp
          first | done | with_reducible rfl | rfl
        (try simp only [Act.put, List.setIfInBounds_toArray, List.set_cons_zero, List.set_cons_succ])
        refine wpAnyH_take (i := 8) (oi := { dst := some 76, op := Op.pick (Operand.tmp 74) (Operand.tmp 75) (Operand.const (Value.bool false)), type := 4, pos := "parse.go:91", after := #[{ on := 6, ground := Ground.data }, { on := 7, ground := Ground.data }], guard := none }) (v := ?v40x8) rfl (by kernel_rfl) (by kernel_rfl) (by kernel_rfl) (fun _ _ _ h => h) (Or.inl ⟨by rfl, ?h40x8⟩) (by assumption) ?r40x8
        case h40x8 =>
          intro w' hSw
          (try dsimp only at hSw)
          go_simp
          first | done | with_reducible rfl | rfl
        (try simp only [Act.put, List.setIfInBounds_toArray, List.set_cons_zero, List.set_cons_succ])
        refine wpAnyH_take (i := 9) (oi := { dst := some 77, op := Op.move (Operand.tmp 76), type := 4, pos := "parse.go:91", after := #[{ on := 8, ground := Ground.data }, { on := 6, ground := Ground.chain }], guard := none }) (v := ?v41x9) rfl (by kernel_rfl) (by kernel_rfl) (by kernel_rfl) (fun _ _ _ h => h) (Or.inl ⟨by rfl, ?h41x9⟩) (by assumption) ?r41x9
        case h41x9 =>
          intro w' hSw
          (try dsimp only at hSw)
          go_simp
          first | done | with_reducible rfl | rfl
        (try simp only [Act.put, List.setIfInBounds_toArray, List.set_cons_zero, List.set_cons_succ])
        refine wpAnyH_take (i := 10) (oi := { dst := some 78, op := Op.move (Operand.tmp 12), type := 4, pos := "parse.go:91", after := #[{ on := 9, ground := Ground.guard }], guard := some (9, true) }) (v := undef) rfl (by kernel_rfl) (by kernel_rfl) (by kernel_rfl) (fun _ _ _ h => h) (Or.inr ⟨by rfl, rfl⟩) (by assumption) ?_
        (try simp only [Act.put, List.setIfInBounds_toArray, List.set_cons_zero, List.set_cons_succ])
        refine wpAnyH_take (i := 11) (oi := { dst := some 79, op := Op.pick (Operand.tmp 77) (Operand.tmp 78) (Operand.const (Value.bool false)), type := 4, pos := "parse.go:91", after := #[{ on := 9, ground := Ground.data }, { on := 10, ground := Ground.data }], guard := none }) (v := ?v42x11) rfl (by kernel_rfl) (by kernel_rfl) (by kernel_rfl) (fun _ _ _ h => h) (Or.inl ⟨by rfl, ?h42x11⟩) (by assumption) ?r42x11
        case h42x11 =>
          intro w' hSw
          (try dsimp only at hSw)
          go_simp
          first | done | with_reducible rfl | rfl
        (try simp only [Act.put, List.setIfInBounds_toArray, List.set_cons_zero, List.set_cons_succ])
        refine wpAnyH_take (i := 12) (oi := { dst := some 80, op := Op.move (Operand.tmp 79), type := 4, pos := "parse.go:91", after := #[{ on := 11, ground := Ground.data }, { on := 9, ground := Ground.chain }], guard := none }) (v := ?v43x12) rfl (by kernel_rfl) (by kernel_rfl) (by kernel_rfl) (fun _ _ _ h => h) (Or.inl ⟨by rfl, ?h43x12⟩) (by assumption) ?r43x12
        case h43x12 =>
          intro w' hSw
          (try dsimp only at hSw)
          go_simp
          first | done | with_reducible rfl | rfl
        (try simp only [Act.put, List.setIfInBounds_toArray, List.set_cons_zero, List.set_cons_succ])
        refine wpAnyH_take (i := 13) (oi := { dst := some 81, op := Op.move (Operand.tmp 14), type := 4, pos := "parse.go:91", after := #[{ on := 12, ground := Ground.guard }, { on := 16, ground := Ground.gcOnly Departure.lateStores }], guard := some (12, true) }) (v := undef) rfl (by kernel_rfl) (by kernel_rfl) (by kernel_rfl) (fun _ _ _ h => h) (Or.inr ⟨by rfl, rfl⟩) (by assumption) ?_
        (try simp only [Act.put, List.setIfInBounds_toArray, List.set_cons_zero, List.set_cons_succ])
        refine wpAnyH_take (i := 14) (oi := { dst := some 82, op := Op.pick (Operand.tmp 80) (Operand.tmp 81) (Operand.const (Value.bool false)), type := 4, pos := "parse.go:91", after := #[{ on := 12, ground := Ground.data }, { on := 13, ground := Ground.data }, { on := 16, ground := Ground.gcOnly Departure.lateStores }], guard := none }) (v := ?v44x14) rfl (by kernel_rfl) (by kernel_rfl) (by kernel_rfl) (fun _ _ _ h => h) (Or.inl ⟨by rfl, ?h44x14⟩) (by assumption) ?r44x14
        case h44x14 =>
          intro w' hSw
          (try dsimp only at hSw)
          go_simp
          first | done | with_reducible rfl | rfl
        (try simp only [Act.put, List.setIfInBounds_toArray, List.set_cons_zero, List.set_cons_succ])
        have HS6 := hideIt (show (put6 U7.drew w.heap.size (.string ⟨x1.toArray⟩) (.int .i64 n2) (.int .i64 n3) (.int .i64 n4) (.int .i64 n5) (.slice na nn nc)).heap[W5.heap.size]? = some (.cells #[.string ⟨x1.toArray⟩, .int .i64 n2, .int .i64 n3, .int .i64 n4, .int .i64 n5, .slice na nn nc] 56 (0, 0)) ∧ (put6 U7.drew w.heap.size (.string ⟨x1.toArray⟩) (.int .i64 n2) (.int .i64 n3) (.int .i64 n4) (.int .i64 n5) (.slice na nn nc)).heap[W5.heap.size + 1]? = some (.cells #[.int .u64 cp, .slice ea en ec] 64 (0, 0)) from ⟨(put6_other (by omega)).trans HS.out.1, (put6_other (by omega)).trans HS.out.2⟩)
        have HG6 := hideIt (show (put6 U7.drew w.heap.size (.string ⟨x1.toArray⟩) (.int .i64 n2) (.int .i64 n3) (.int .i64 n4) (.int .i64 n5) (.slice na nn nc)).heap[w.heap.size + 1]? = some (.cells #[.int .u64 0, .slice none 0 0] 64 (0, 0)) from (put6_other (by omega)).trans HGG.out)
        have HC6 := hideIt (show (put6 U7.drew w.heap.size (.string ⟨x1.toArray⟩) (.int .i64 n2) (.int .i64 n3) (.int .i64 n4) (.int .i64 n5) (.slice na nn nc)).heap[w.heap.size]? = some (.cells #[.string ⟨x1.toArray⟩, .int .i64 n2, .int .i64 n3, .int .i64 n4, .int .i64 n5, .slice na nn nc] 56 (0, 0)) from put6_same HCC.out)
        have HBX6 := hideIt (show Below w.heap.size w (put6 U7.drew w.heap.size (.string ⟨x1.toArray⟩) (.int .i64 n2) (.int .i64 n3) (.int .i64 n4) (.int .i64 n5) (.slice na nn nc)) from put6_below HBX.out (Nat.le_refl _))
        have HAP6 := hideIt (show Apart (fun j => j = w.heap.size) U7.drew (put6 U7.drew w.heap.size (.string ⟨x1.toArray⟩) (.int .i64 n2) (.int .i64 n3) (.int .i64 n4) (.int .i64 n5) (.slice na nn nc)) from put6_apart)
        refine wpAnyH_ready (rs := [15]) (by kernel_rfl) (by simp) (AllReadyH.cons rfl (fun K hK => ?_) AllReadyH.nil)
        rw [if_pos (by rfl)]
        refine wp_storeC HCC.out rfl rfl ?_
        refine hK.out _ _ HS6.out (fun hHeld => ?_)
        clear hK K
        generalize (put6 U7.drew w.heap.size (.string ⟨x1.toArray⟩) (.int .i64 n2) (.int .i64 n3) (.int .i64 n4) (.int .i64 n5) (.slice na nn nc)) = P6 at *
        have HS8 := hideIt (show (put2 P6 (w.heap.size + 1) (.int .u64 cp) (.slice ea en ec)).heap[W5.heap.size]? = some (.cells #[.string ⟨x1.toArray⟩, .int .i64 n2, .int .i64 n3, .int .i64 n4, .int .i64 n5, .slice na nn nc] 56 (0, 0)) ∧ (put2 P6 (w.heap.size + 1) (.int .u64 cp) (.slice ea en ec)).heap[W5.heap.size + 1]? = some (.cells #[.int .u64 cp, .slice ea en ec] 64 (0, 0)) from ⟨(put2_other (by omega)).trans HS6.out.1, (put2_other (by omega)).trans HS6.out.2⟩)
        have HG8 := hideIt (show (put2 P6 (w.heap.size + 1) (.int .u64 cp) (.slice ea en ec)).heap[w.heap.size + 1]? = some (.cells #[.int .u64 cp, .slice ea en ec] 64 (0, 0)) from put2_same HG6.out)
        have HC8 := hideIt (show (put2 P6 (w.heap.size + 1) (.int .u64 cp) (.slice ea en ec)).heap[w.heap.size]? = some (.cells #[.string ⟨x1.toArray⟩, .int .i64 n2, .int .i64 n3, .int .i64 n4, .int .i64 n5, .slice na nn nc] 56 (0, 0)) from (put2_other (by omega)).trans HC6.out)
        have HBX8 := hideIt (show Below w.heap.size w (put2 P6 (w.heap.size + 1) (.int .u64 cp) (.slice ea en ec)) from put2_below HBX6.out (Nat.le_succ _))
        have HAP8 := hideIt (show Apart (fun j => j = w.heap.size ∨ j = w.heap.size + 1) U7.drew (put2 P6 (w.heap.size + 1) (.int .u64 cp) (.slice ea en ec)) from (HAP6.out.wide fun _ => .inl).trans put2_apart)
        refine wpAnyH_ready (rs := [16]) (by kernel_rfl) (by simp) (AllReadyH.cons rfl (fun K hK => ?_) AllReadyH.nil)
        rw [if_pos (by rfl)]
        refine wp_storeG HG6.out rfl rfl ?_
        refine hK.out _ _ HS8.out (fun hHeld => ?_)
        clear hK K
        generalize (put2 P6 (w.heap.size + 1) (.int .u64 cp) (.slice ea en ec)) = P8 at *
        refine wpAnyH_take (i := 17) (oi := { dst := some 4, op := Op.assign (Operand.tmp 82), type := 4, pos := "parse.go:91", after := #[{ on := 14, ground := Ground.data }, { on := 16, ground := Ground.chain }, { on := 0, ground := Ground.phase }, { on := 1, ground := Ground.phase }, { on := 2, ground := Ground.phase }, { on := 3, ground := Ground.phase }, { on := 4, ground := Ground.phase }, { on := 5, ground := Ground.phase }, { on := 6, ground := Ground.phase }, { on := 7, ground := Ground.phase }, { on := 8, ground := Ground.phase }, { on := 9, ground := Ground.phase }, { on := 10, ground := Ground.phase }, { on := 11, ground := Ground.phase }, { on := 12, ground := Ground.phase }, { on := 13, ground := Ground.phase }, { on := 14, ground := Ground.phase }, { on := 15, ground := Ground.phase }, { on := 16, ground := Ground.phase }], guard := none }) (v := ?v45x17) rfl (by kernel_rfl) (by kernel_rfl) (by kernel_rfl) (fun _ _ _ h => h) (Or.inl ⟨by rfl, ?h45x17⟩) (by assumption) ?r45x17
        case h45x17 =>
          intro w' hSw
          (try dsimp only at hSw)
          go_simp
          first | done | with_reducible rfl | rfl
        (try simp only [Act.put, List.setIfInBounds_toArray, List.set_cons_zero, List.set_cons_succ])
        refine wpAnyH_done (by kernel_rfl) ?_ _
        have e0 := cell_of_heapV HC8.out 0
        have e1 := cell_of_heapV HC8.out 1
        have e2 := cell_of_heapV HC8.out 2
        have e3 := cell_of_heapV HC8.out 3
        have e4 := cell_of_heapV HC8.out 4
        have e5 := cell_of_heapV HC8.out 5
        have e6 := cell_of_heapV HG8.out 0
        have e7 := cell_of_heapV HG8.out 1
        simp only [List.getElem?_toArray, List.getElem?_cons_zero, List.getElem?_cons_succ] at e0 e1 e2 e3 e4 e5 e6 e7
        clear hHeld
        go_wp2_with fail
        (try simp only [Exit.inBlock, Exit.then])
        have h2 := HS2.out
        have h4 := HS4.out
        obtain ⟨q1, q2, q3, q4, q5, q6⟩ := HEQ.out
        refine bodyPost_ret (v := .tuple #[.agg #[.string ⟨x1.toArray⟩, .int .i64 n2, .int .i64 n3, .int .i64 n4, .int .i64 n5, .slice na nn nc], .agg #[.int .u64 cp, .slice ea en ec], .bool false]) ?_ rfl ⟨.slice na nn nc, .slice ea en ec, ?_, fun ds hd => ?_, fun xs hd => ?_, ⟨_, _, _, rfl, fun x hx => Nat.le_trans (by omega) (HNA.out x hx)⟩, ⟨_, _, _, rfl, fun x hx => Nat.le_trans (by omega) (HEA.out x hx)⟩, HBX8.out⟩
        · rw [results_cct rfl]
          go_simp
        · rw [HOK.out, q1, q2, q3, q4, q5, q6]
          simp
        · exact needs_apart (N := W2.heap.size) ((HND.out ds hd).below HBY.out) ⟨_, _, _, rfl, HNA.out⟩ HAP8.out (fun j hj => by omega)
        · exact ((HXS.out xs hd).below HBZ.out).apart (N := W4.heap.size) ⟨_, _, _, rfl, HEA.out⟩ HAP8.out (fun j hj => by omega)
    · skip
      refine wp_region_held_drew (S := (fun w' => w'.heap[W5.heap.size]? = some (.cells #[.string ⟨x1.toArray⟩, .int .i64 n2, .int .i64 n3, .int .i64 n4, .int .i64 n5, .slice na nn nc] 56 (0, 0)) ∧ w'.heap[W5.heap.size + 1]? = some (.cells #[.int .u64 cp, .slice ea en ec] 64 (0, 0)))) (by kernel_rfl) HS.out (fun hHeld => ?_)
      refine wpAnyH_take (i := 0) (oi := { dst := some 68, op := Op.load 56 (Operand.tmp 15), type := 56, pos := "parse.go:91", after := #[], guard := none }) (v := ?v46x0) rfl (by kernel_rfl) (by kernel_rfl) (by kernel_rfl) (fun _ _ _ h => h) (Or.inl ⟨by rfl, ?h46x0⟩) (by assumption) ?r46x0
      case h46x0 =>
        intro w' hSw
        (try dsimp only at hSw)
        have q0 := cell_of_heapV hSw.1 0
        have q1 := cell_of_heapV hSw.1 1
        have q2 := cell_of_heapV hSw.1 2
        have q3 := cell_of_heapV hSw.1 3
        have q4 := cell_of_heapV hSw.1 4
        have q5 := cell_of_heapV hSw.1 5
        simp only [List.getElem?_toArray, List.getElem?_cons_zero, List.getElem?_cons_succ] at q0 q1 q2 q3 q4 q5
        go_simp
        first | done | with_reducible rfl | rfl
      (try simp only [Act.put, List.setIfInBounds_toArray, List.set_cons_zero, List.set_cons_succ])
      refine wpAnyH_take (i := 1) (oi := { dst := some 69, op := Op.load 64 (Operand.tmp 16), type := 64, pos := "parse.go:91", after := #[{ on := 15, ground := Ground.gcOnly Departure.lateStores }], guard := none }) (v := ?v47x1) rfl (by kernel_rfl) (by kernel_rfl) (by kernel_rfl) (fun _ _ _ h => h) (Or.inl ⟨by rfl, ?h47x1⟩) (by assumption) ?r47x1
      case h47x1 =>
        intro w' hSw
        (try dsimp only at hSw)
        have q0 := cell_of_heapV hSw.2 0
        have q1 := cell_of_heapV hSw.2 1
        simp only [List.getElem?_toArray, List.getElem?_cons_zero, List.getElem?_cons_succ] at q0 q1
        go_simp
        first | done | with_reducible rfl | rfl
      (try simp only [Act.put, List.setIfInBounds_toArray, List.set_cons_zero, List.set_cons_succ])
      refine wpAnyH_take (i := 2) (oi := { dst := some 70, op := Op.move (Operand.tmp 6), type := 4, pos := "parse.go:91", after := #[], guard := none }) (v := ?v48x2) rfl (by kernel_rfl) (by kernel_rfl) (by kernel_rfl) (fun _ _ _ h => h) (Or.inl ⟨by rfl, ?h48x2⟩) (by assumption) ?r48x2
      case h48x2 =>
        intro w' hSw
        (try dsimp only at hSw)
        go_simp
        first | done | with_reducible rfl | rfl
      (try simp only [Act.put, List.setIfInBounds_toArray, List.set_cons_zero, List.set_cons_succ])
      refine wpAnyH_take (i := 3) (oi := { dst := some 71, op := Op.move (Operand.tmp 70), type := 4, pos := "parse.go:91", after := #[{ on := 2, ground := Ground.data }], guard := none }) (v := ?v49x3) rfl (by kernel_rfl) (by kernel_rfl) (by kernel_rfl) (fun _ _ _ h => h) (Or.inl ⟨by rfl, ?h49x3⟩) (by assumption) ?r49x3
      case h49x3 =>
        intro w' hSw
        (try dsimp only at hSw)
        go_simp
        first | done | with_reducible rfl | rfl
      (try simp only [Act.put, List.setIfInBounds_toArray, List.set_cons_zero, List.set_cons_succ])
      refine wpAnyH_take (i := 4) (oi := { dst := some 72, op := Op.move (Operand.tmp 8), type := 4, pos := "parse.go:91", after := #[{ on := 3, ground := Ground.guard }], guard := some (3, true) }) (v := ?v50x4) rfl (by kernel_rfl) (by kernel_rfl) (by kernel_rfl) (fun _ _ _ h => h) (Or.inl ⟨by rfl, ?h50x4⟩) (by assumption) ?r50x4
      case h50x4 =>
        intro w' hSw
        (try dsimp only at hSw)
        go_simp
        first | done | with_reducible rfl | rfl
      (try simp only [Act.put, List.setIfInBounds_toArray, List.set_cons_zero, List.set_cons_succ])
      refine wpAnyH_take (i := 5) (oi := { dst := some 73, op := Op.pick (Operand.tmp 71) (Operand.tmp 72) (Operand.const (Value.bool false)), type := 4, pos := "parse.go:91", after := #[{ on := 3, ground := Ground.data }, { on := 4, ground := Ground.data }], guard := none }) (v := ?v51x5) rfl (by kernel_rfl) (by kernel_rfl) (by kernel_rfl) (fun _ _ _ h => h) (Or.inl ⟨by rfl, ?h51x5⟩) (by assumption) ?r51x5
      case h51x5 =>
        intro w' hSw
        (try dsimp only at hSw)
        go_simp
        first | done | with_reducible rfl | rfl
      (try simp only [Act.put, List.setIfInBounds_toArray, List.set_cons_zero, List.set_cons_succ])
      refine wpAnyH_take (i := 6) (oi := { dst := some 74, op := Op.move (Operand.tmp 73), type := 4, pos := "parse.go:91", after := #[{ on := 5, ground := Ground.data }, { on := 3, ground := Ground.chain }], guard := none }) (v := ?v52x6) rfl (by kernel_rfl) (by kernel_rfl) (by kernel_rfl) (fun _ _ _ h => h) (Or.inl ⟨by rfl, ?h52x6⟩) (by assumption) ?r52x6
      case h52x6 =>
        intro w' hSw
        (try dsimp only at hSw)
        go_simp
        first | done | with_reducible rfl | rfl
      (try simp only [Act.put, List.setIfInBounds_toArray, List.set_cons_zero, List.set_cons_succ])
      refine wpAnyH_take (i := 7) (oi := { dst := some 75, op := Op.move (Operand.tmp 10), type := 4, pos := "parse.go:91", after := #[{ on := 6, ground := Ground.guard }], guard := some (6, true) }) (v := undef) rfl (by kernel_rfl) (by kernel_rfl) (by kernel_rfl) (fun _ _ _ h => h) (Or.inr ⟨by rfl, rfl⟩) (by assumption) ?_
      (try simp only [Act.put, List.setIfInBounds_toArray, List.set_cons_zero, List.set_cons_succ])
      refine wpAnyH_take (i := 8) (oi := { dst := some 76, op := Op.pick (Operand.tmp 74) (Operand.tmp 75) (Operand.const (Value.bool false)), type := 4, pos := "parse.go:91", after := #[{ on := 6, ground := Ground.data }, { on := 7, ground := Ground.data }], guard := none }) (v := ?v53x8) rfl (by kernel_rfl) (by kernel_rfl) (by kernel_rfl) (fun _ _ _ h => h) (Or.inl ⟨by rfl, ?h53x8⟩) (by assumption) ?r53x8
      case h53x8 =>
        intro w' hSw
        (try dsimp only at hSw)
        go_simp
        first | done | with_reducible rfl | rfl
      (try simp only [Act.put, List.setIfInBounds_toArray, List.set_cons_zero, List.set_cons_succ])
      refine wpAnyH_take (i := 9) (oi := { dst := some 77, op := Op.move (Operand.tmp 76), type := 4, pos := "parse.go:91", after := #[{ on := 8, ground := Ground.data }, { on := 6, ground := Ground.chain }], guard := none }) (v := ?v54x9) rfl (by kernel_rfl) (by kernel_rfl) (by kernel_rfl) (fun _ _ _ h => h) (Or.inl ⟨by rfl, ?h54x9⟩) (by assumption) ?r54x9
      case h54x9 =>
        intro w' hSw
        (try dsimp only at hSw)
        go_simp
        first | done | with_reducible rfl | rfl
      (try simp only [Act.put, List.setIfInBounds_toArray, List.set_cons_zero, List.set_cons_succ])
      refine wpAnyH_take (i := 10) (oi := { dst := some 78, op := Op.move (Operand.tmp 12), type := 4, pos := "parse.go:91", after := #[{ on := 9, ground := Ground.guard }], guard := some (9, true) }) (v := undef) rfl (by kernel_rfl) (by kernel_rfl) (by kernel_rfl) (fun _ _ _ h => h) (Or.inr ⟨by rfl, rfl⟩) (by assumption) ?_
      (try simp only [Act.put, List.setIfInBounds_toArray, List.set_cons_zero, List.set_cons_succ])
      refine wpAnyH_take (i := 11) (oi := { dst := some 79, op := Op.pick (Operand.tmp 77) (Operand.tmp 78) (Operand.const (Value.bool false)), type := 4, pos := "parse.go:91", after := #[{ on := 9, ground := Ground.data }, { on := 10, ground := Ground.data }], guard := none }) (v := ?v55x11) rfl (by kernel_rfl) (by kernel_rfl) (by kernel_rfl) (fun _ _ _ h => h) (Or.inl ⟨by rfl, ?h55x11⟩) (by assumption) ?r55x11
      case h55x11 =>
        intro w' hSw
        (try dsimp only at hSw)
        go_simp
        first | done | with_reducible rfl | rfl
      (try simp only [Act.put, List.setIfInBounds_toArray, List.set_cons_zero, List.set_cons_succ])
      refine wpAnyH_take (i := 12) (oi := { dst := some 80, op := Op.move (Operand.tmp 79), type := 4, pos := "parse.go:91", after := #[{ on := 11, ground := Ground.data }, { on := 9, ground := Ground.chain }], guard := none }) (v := ?v56x12) rfl (by kernel_rfl) (by kernel_rfl) (by kernel_rfl) (fun _ _ _ h => h) (Or.inl ⟨by rfl, ?h56x12⟩) (by assumption) ?r56x12
      case h56x12 =>
        intro w' hSw
        (try dsimp only at hSw)
        go_simp
        first | done | with_reducible rfl | rfl
      (try simp only [Act.put, List.setIfInBounds_toArray, List.set_cons_zero, List.set_cons_succ])
      refine wpAnyH_take (i := 13) (oi := { dst := some 81, op := Op.move (Operand.tmp 14), type := 4, pos := "parse.go:91", after := #[{ on := 12, ground := Ground.guard }, { on := 16, ground := Ground.gcOnly Departure.lateStores }], guard := some (12, true) }) (v := undef) rfl (by kernel_rfl) (by kernel_rfl) (by kernel_rfl) (fun _ _ _ h => h) (Or.inr ⟨by rfl, rfl⟩) (by assumption) ?_
      (try simp only [Act.put, List.setIfInBounds_toArray, List.set_cons_zero, List.set_cons_succ])
      refine wpAnyH_take (i := 14) (oi := { dst := some 82, op := Op.pick (Operand.tmp 80) (Operand.tmp 81) (Operand.const (Value.bool false)), type := 4, pos := "parse.go:91", after := #[{ on := 12, ground := Ground.data }, { on := 13, ground := Ground.data }, { on := 16, ground := Ground.gcOnly Departure.lateStores }], guard := none }) (v := ?v57x14) rfl (by kernel_rfl) (by kernel_rfl) (by kernel_rfl) (fun _ _ _ h => h) (Or.inl ⟨by rfl, ?h57x14⟩) (by assumption) ?r57x14
      case h57x14 =>
        intro w' hSw
        (try dsimp only at hSw)
        go_simp
        first | done | with_reducible rfl | rfl
      (try simp only [Act.put, List.setIfInBounds_toArray, List.set_cons_zero, List.set_cons_succ])
      have HS6 := hideIt (show (put6 U7.drew w.heap.size (.string ⟨x1.toArray⟩) (.int .i64 n2) (.int .i64 n3) (.int .i64 n4) (.int .i64 n5) (.slice na nn nc)).heap[W5.heap.size]? = some (.cells #[.string ⟨x1.toArray⟩, .int .i64 n2, .int .i64 n3, .int .i64 n4, .int .i64 n5, .slice na nn nc] 56 (0, 0)) ∧ (put6 U7.drew w.heap.size (.string ⟨x1.toArray⟩) (.int .i64 n2) (.int .i64 n3) (.int .i64 n4) (.int .i64 n5) (.slice na nn nc)).heap[W5.heap.size + 1]? = some (.cells #[.int .u64 cp, .slice ea en ec] 64 (0, 0)) from ⟨(put6_other (by omega)).trans HS.out.1, (put6_other (by omega)).trans HS.out.2⟩)
      have HG6 := hideIt (show (put6 U7.drew w.heap.size (.string ⟨x1.toArray⟩) (.int .i64 n2) (.int .i64 n3) (.int .i64 n4) (.int .i64 n5) (.slice na nn nc)).heap[w.heap.size + 1]? = some (.cells #[.int .u64 0, .slice none 0 0] 64 (0, 0)) from (put6_other (by omega)).trans HGG.out)
      have HC6 := hideIt (show (put6 U7.drew w.heap.size (.string ⟨x1.toArray⟩) (.int .i64 n2) (.int .i64 n3) (.int .i64 n4) (.int .i64 n5) (.slice na nn nc)).heap[w.heap.size]? = some (.cells #[.string ⟨x1.toArray⟩, .int .i64 n2, .int .i64 n3, .int .i64 n4, .int .i64 n5, .slice na nn nc] 56 (0, 0)) from put6_same HCC.out)
      have HBX6 := hideIt (show Below w.heap.size w (put6 U7.drew w.heap.size (.string ⟨x1.toArray⟩) (.int .i64 n2) (.int .i64 n3) (.int .i64 n4) (.int .i64 n5) (.slice na nn nc)) from put6_below HBX.out (Nat.le_refl _))
      have HAP6 := hideIt (show Apart (fun j => j = w.heap.size) U7.drew (put6 U7.drew w.heap.size (.string ⟨x1.toArray⟩) (.int .i64 n2) (.int .i64 n3) (.int .i64 n4) (.int .i64 n5) (.slice na nn nc)) from put6_apart)
      refine wpAnyH_ready (rs := [15]) (by kernel_rfl) (by simp) (AllReadyH.cons rfl (fun K hK => ?_) AllReadyH.nil)
      rw [if_pos (by rfl)]
      refine wp_storeC HCC.out rfl rfl ?_
      refine hK.out _ _ HS6.out (fun hHeld => ?_)
      clear hK K
      generalize (put6 U7.drew w.heap.size (.string ⟨x1.toArray⟩) (.int .i64 n2) (.int .i64 n3) (.int .i64 n4) (.int .i64 n5) (.slice na nn nc)) = P6 at *
      have HS8 := hideIt (show (put2 P6 (w.heap.size + 1) (.int .u64 cp) (.slice ea en ec)).heap[W5.heap.size]? = some (.cells #[.string ⟨x1.toArray⟩, .int .i64 n2, .int .i64 n3, .int .i64 n4, .int .i64 n5, .slice na nn nc] 56 (0, 0)) ∧ (put2 P6 (w.heap.size + 1) (.int .u64 cp) (.slice ea en ec)).heap[W5.heap.size + 1]? = some (.cells #[.int .u64 cp, .slice ea en ec] 64 (0, 0)) from ⟨(put2_other (by omega)).trans HS6.out.1, (put2_other (by omega)).trans HS6.out.2⟩)
      have HG8 := hideIt (show (put2 P6 (w.heap.size + 1) (.int .u64 cp) (.slice ea en ec)).heap[w.heap.size + 1]? = some (.cells #[.int .u64 cp, .slice ea en ec] 64 (0, 0)) from put2_same HG6.out)
      have HC8 := hideIt (show (put2 P6 (w.heap.size + 1) (.int .u64 cp) (.slice ea en ec)).heap[w.heap.size]? = some (.cells #[.string ⟨x1.toArray⟩, .int .i64 n2, .int .i64 n3, .int .i64 n4, .int .i64 n5, .slice na nn nc] 56 (0, 0)) from (put2_other (by omega)).trans HC6.out)
      have HBX8 := hideIt (show Below w.heap.size w (put2 P6 (w.heap.size + 1) (.int .u64 cp) (.slice ea en ec)) from put2_below HBX6.out (Nat.le_succ _))
      have HAP8 := hideIt (show Apart (fun j => j = w.heap.size ∨ j = w.heap.size + 1) U7.drew (put2 P6 (w.heap.size + 1) (.int .u64 cp) (.slice ea en ec)) from (HAP6.out.wide fun _ => .inl).trans put2_apart)
      refine wpAnyH_ready (rs := [16]) (by kernel_rfl) (by simp) (AllReadyH.cons rfl (fun K hK => ?_) AllReadyH.nil)
      rw [if_pos (by rfl)]
      refine wp_storeG HG6.out rfl rfl ?_
      refine hK.out _ _ HS8.out (fun hHeld => ?_)
      clear hK K
      generalize (put2 P6 (w.heap.size + 1) (.int .u64 cp) (.slice ea en ec)) = P8 at *
      refine wpAnyH_take (i := 17) (oi := { dst := some 4, op := Op.assign (Operand.tmp 82), type := 4, pos := "parse.go:91", after := #[{ on := 14, ground := Ground.data }, { on := 16, ground := Ground.chain }, { on := 0, ground := Ground.phase }, { on := 1, ground := Ground.phase }, { on := 2, ground := Ground.phase }, { on := 3, ground := Ground.phase }, { on := 4, ground := Ground.phase }, { on := 5, ground := Ground.phase }, { on := 6, ground := Ground.phase }, { on := 7, ground := Ground.phase }, { on := 8, ground := Ground.phase }, { on := 9, ground := Ground.phase }, { on := 10, ground := Ground.phase }, { on := 11, ground := Ground.phase }, { on := 12, ground := Ground.phase }, { on := 13, ground := Ground.phase }, { on := 14, ground := Ground.phase }, { on := 15, ground := Ground.phase }, { on := 16, ground := Ground.phase }], guard := none }) (v := ?v58x17) rfl (by kernel_rfl) (by kernel_rfl) (by kernel_rfl) (fun _ _ _ h => h) (Or.inl ⟨by rfl, ?h58x17⟩) (by assumption) ?r58x17
      case h58x17 =>
        intro w' hSw
        (try dsimp only at hSw)
        go_simp
        first | done | with_reducible rfl | rfl
      (try simp only [Act.put, List.setIfInBounds_toArray, List.set_cons_zero, List.set_cons_succ])
      refine wpAnyH_done (by kernel_rfl) ?_ _
      have e0 := cell_of_heapV HC8.out 0
      have e1 := cell_of_heapV HC8.out 1
      have e2 := cell_of_heapV HC8.out 2
      have e3 := cell_of_heapV HC8.out 3
      have e4 := cell_of_heapV HC8.out 4
      have e5 := cell_of_heapV HC8.out 5
      have e6 := cell_of_heapV HG8.out 0
      have e7 := cell_of_heapV HG8.out 1
      simp only [List.getElem?_toArray, List.getElem?_cons_zero, List.getElem?_cons_succ] at e0 e1 e2 e3 e4 e5 e6 e7
      clear hHeld
      go_wp2_with fail
      (try simp only [Exit.inBlock, Exit.then])
      have h2 := HS2.out
      have h4 := HS4.out
      obtain ⟨q1, q2, q3, q4, q5, q6⟩ := HEQ.out
      refine bodyPost_ret (v := .tuple #[.agg #[.string ⟨x1.toArray⟩, .int .i64 n2, .int .i64 n3, .int .i64 n4, .int .i64 n5, .slice na nn nc], .agg #[.int .u64 cp, .slice ea en ec], .bool false]) ?_ rfl ⟨.slice na nn nc, .slice ea en ec, ?_, fun ds hd => ?_, fun xs hd => ?_, ⟨_, _, _, rfl, fun x hx => Nat.le_trans (by omega) (HNA.out x hx)⟩, ⟨_, _, _, rfl, fun x hx => Nat.le_trans (by omega) (HEA.out x hx)⟩, HBX8.out⟩
      · rw [results_cct rfl]
        go_simp
      · rw [HOK.out, q1, q2, q3, q4, q5, q6]
        simp
      · exact needs_apart (N := W2.heap.size) ((HND.out ds hd).below HBY.out) ⟨_, _, _, rfl, HNA.out⟩ HAP8.out (fun j hj => by omega)
      · exact ((HXS.out xs hd).below HBZ.out).apart (N := W4.heap.size) ⟨_, _, _, rfl, HEA.out⟩ HAP8.out (fun j hj => by omega)
  · skip
    refine wp_region_held_drew (S := (fun w' => w'.heap[W5.heap.size]? = some (.cells #[.string ⟨x1.toArray⟩, .int .i64 n2, .int .i64 n3, .int .i64 n4, .int .i64 n5, .slice na nn nc] 56 (0, 0)) ∧ w'.heap[W5.heap.size + 1]? = some (.cells #[.int .u64 cp, .slice ea en ec] 64 (0, 0)))) (by kernel_rfl) HS.out (fun hHeld => ?_)
    refine wpAnyH_take (i := 0) (oi := { dst := some 68, op := Op.load 56 (Operand.tmp 15), type := 56, pos := "parse.go:91", after := #[], guard := none }) (v := ?v59x0) rfl (by kernel_rfl) (by kernel_rfl) (by kernel_rfl) (fun _ _ _ h => h) (Or.inl ⟨by rfl, ?h59x0⟩) (by assumption) ?r59x0
    case h59x0 =>
      intro w' hSw
      (try dsimp only at hSw)
      have q0 := cell_of_heapV hSw.1 0
      have q1 := cell_of_heapV hSw.1 1
      have q2 := cell_of_heapV hSw.1 2
      have q3 := cell_of_heapV hSw.1 3
      have q4 := cell_of_heapV hSw.1 4
      have q5 := cell_of_heapV hSw.1 5
      simp only [List.getElem?_toArray, List.getElem?_cons_zero, List.getElem?_cons_succ] at q0 q1 q2 q3 q4 q5
      go_simp
      first | done | with_reducible rfl | rfl
    (try simp only [Act.put, List.setIfInBounds_toArray, List.set_cons_zero, List.set_cons_succ])
    refine wpAnyH_take (i := 1) (oi := { dst := some 69, op := Op.load 64 (Operand.tmp 16), type := 64, pos := "parse.go:91", after := #[{ on := 15, ground := Ground.gcOnly Departure.lateStores }], guard := none }) (v := ?v60x1) rfl (by kernel_rfl) (by kernel_rfl) (by kernel_rfl) (fun _ _ _ h => h) (Or.inl ⟨by rfl, ?h60x1⟩) (by assumption) ?r60x1
    case h60x1 =>
      intro w' hSw
      (try dsimp only at hSw)
      have q0 := cell_of_heapV hSw.2 0
      have q1 := cell_of_heapV hSw.2 1
      simp only [List.getElem?_toArray, List.getElem?_cons_zero, List.getElem?_cons_succ] at q0 q1
      go_simp
      first | done | with_reducible rfl | rfl
    (try simp only [Act.put, List.setIfInBounds_toArray, List.set_cons_zero, List.set_cons_succ])
    refine wpAnyH_take (i := 2) (oi := { dst := some 70, op := Op.move (Operand.tmp 6), type := 4, pos := "parse.go:91", after := #[], guard := none }) (v := ?v61x2) rfl (by kernel_rfl) (by kernel_rfl) (by kernel_rfl) (fun _ _ _ h => h) (Or.inl ⟨by rfl, ?h61x2⟩) (by assumption) ?r61x2
    case h61x2 =>
      intro w' hSw
      (try dsimp only at hSw)
      go_simp
      first | done | with_reducible rfl | rfl
    (try simp only [Act.put, List.setIfInBounds_toArray, List.set_cons_zero, List.set_cons_succ])
    refine wpAnyH_take (i := 3) (oi := { dst := some 71, op := Op.move (Operand.tmp 70), type := 4, pos := "parse.go:91", after := #[{ on := 2, ground := Ground.data }], guard := none }) (v := ?v62x3) rfl (by kernel_rfl) (by kernel_rfl) (by kernel_rfl) (fun _ _ _ h => h) (Or.inl ⟨by rfl, ?h62x3⟩) (by assumption) ?r62x3
    case h62x3 =>
      intro w' hSw
      (try dsimp only at hSw)
      go_simp
      first | done | with_reducible rfl | rfl
    (try simp only [Act.put, List.setIfInBounds_toArray, List.set_cons_zero, List.set_cons_succ])
    refine wpAnyH_take (i := 4) (oi := { dst := some 72, op := Op.move (Operand.tmp 8), type := 4, pos := "parse.go:91", after := #[{ on := 3, ground := Ground.guard }], guard := some (3, true) }) (v := undef) rfl (by kernel_rfl) (by kernel_rfl) (by kernel_rfl) (fun _ _ _ h => h) (Or.inr ⟨by rfl, rfl⟩) (by assumption) ?_
    (try simp only [Act.put, List.setIfInBounds_toArray, List.set_cons_zero, List.set_cons_succ])
    refine wpAnyH_take (i := 5) (oi := { dst := some 73, op := Op.pick (Operand.tmp 71) (Operand.tmp 72) (Operand.const (Value.bool false)), type := 4, pos := "parse.go:91", after := #[{ on := 3, ground := Ground.data }, { on := 4, ground := Ground.data }], guard := none }) (v := ?v63x5) rfl (by kernel_rfl) (by kernel_rfl) (by kernel_rfl) (fun _ _ _ h => h) (Or.inl ⟨by rfl, ?h63x5⟩) (by assumption) ?r63x5
    case h63x5 =>
      intro w' hSw
      (try dsimp only at hSw)
      go_simp
      first | done | with_reducible rfl | rfl
    (try simp only [Act.put, List.setIfInBounds_toArray, List.set_cons_zero, List.set_cons_succ])
    refine wpAnyH_take (i := 6) (oi := { dst := some 74, op := Op.move (Operand.tmp 73), type := 4, pos := "parse.go:91", after := #[{ on := 5, ground := Ground.data }, { on := 3, ground := Ground.chain }], guard := none }) (v := ?v64x6) rfl (by kernel_rfl) (by kernel_rfl) (by kernel_rfl) (fun _ _ _ h => h) (Or.inl ⟨by rfl, ?h64x6⟩) (by assumption) ?r64x6
    case h64x6 =>
      intro w' hSw
      (try dsimp only at hSw)
      go_simp
      first | done | with_reducible rfl | rfl
    (try simp only [Act.put, List.setIfInBounds_toArray, List.set_cons_zero, List.set_cons_succ])
    refine wpAnyH_take (i := 7) (oi := { dst := some 75, op := Op.move (Operand.tmp 10), type := 4, pos := "parse.go:91", after := #[{ on := 6, ground := Ground.guard }], guard := some (6, true) }) (v := undef) rfl (by kernel_rfl) (by kernel_rfl) (by kernel_rfl) (fun _ _ _ h => h) (Or.inr ⟨by rfl, rfl⟩) (by assumption) ?_
    (try simp only [Act.put, List.setIfInBounds_toArray, List.set_cons_zero, List.set_cons_succ])
    refine wpAnyH_take (i := 8) (oi := { dst := some 76, op := Op.pick (Operand.tmp 74) (Operand.tmp 75) (Operand.const (Value.bool false)), type := 4, pos := "parse.go:91", after := #[{ on := 6, ground := Ground.data }, { on := 7, ground := Ground.data }], guard := none }) (v := ?v65x8) rfl (by kernel_rfl) (by kernel_rfl) (by kernel_rfl) (fun _ _ _ h => h) (Or.inl ⟨by rfl, ?h65x8⟩) (by assumption) ?r65x8
    case h65x8 =>
      intro w' hSw
      (try dsimp only at hSw)
      go_simp
      first | done | with_reducible rfl | rfl
    (try simp only [Act.put, List.setIfInBounds_toArray, List.set_cons_zero, List.set_cons_succ])
    refine wpAnyH_take (i := 9) (oi := { dst := some 77, op := Op.move (Operand.tmp 76), type := 4, pos := "parse.go:91", after := #[{ on := 8, ground := Ground.data }, { on := 6, ground := Ground.chain }], guard := none }) (v := ?v66x9) rfl (by kernel_rfl) (by kernel_rfl) (by kernel_rfl) (fun _ _ _ h => h) (Or.inl ⟨by rfl, ?h66x9⟩) (by assumption) ?r66x9
    case h66x9 =>
      intro w' hSw
      (try dsimp only at hSw)
      go_simp
      first | done | with_reducible rfl | rfl
    (try simp only [Act.put, List.setIfInBounds_toArray, List.set_cons_zero, List.set_cons_succ])
    refine wpAnyH_take (i := 10) (oi := { dst := some 78, op := Op.move (Operand.tmp 12), type := 4, pos := "parse.go:91", after := #[{ on := 9, ground := Ground.guard }], guard := some (9, true) }) (v := undef) rfl (by kernel_rfl) (by kernel_rfl) (by kernel_rfl) (fun _ _ _ h => h) (Or.inr ⟨by rfl, rfl⟩) (by assumption) ?_
    (try simp only [Act.put, List.setIfInBounds_toArray, List.set_cons_zero, List.set_cons_succ])
    refine wpAnyH_take (i := 11) (oi := { dst := some 79, op := Op.pick (Operand.tmp 77) (Operand.tmp 78) (Operand.const (Value.bool false)), type := 4, pos := "parse.go:91", after := #[{ on := 9, ground := Ground.data }, { on := 10, ground := Ground.data }], guard := none }) (v := ?v67x11) rfl (by kernel_rfl) (by kernel_rfl) (by kernel_rfl) (fun _ _ _ h => h) (Or.inl ⟨by rfl, ?h67x11⟩) (by assumption) ?r67x11
    case h67x11 =>
      intro w' hSw
      (try dsimp only at hSw)
      go_simp
      first | done | with_reducible rfl | rfl
    (try simp only [Act.put, List.setIfInBounds_toArray, List.set_cons_zero, List.set_cons_succ])
    refine wpAnyH_take (i := 12) (oi := { dst := some 80, op := Op.move (Operand.tmp 79), type := 4, pos := "parse.go:91", after := #[{ on := 11, ground := Ground.data }, { on := 9, ground := Ground.chain }], guard := none }) (v := ?v68x12) rfl (by kernel_rfl) (by kernel_rfl) (by kernel_rfl) (fun _ _ _ h => h) (Or.inl ⟨by rfl, ?h68x12⟩) (by assumption) ?r68x12
    case h68x12 =>
      intro w' hSw
      (try dsimp only at hSw)
      go_simp
      first | done | with_reducible rfl | rfl
    (try simp only [Act.put, List.setIfInBounds_toArray, List.set_cons_zero, List.set_cons_succ])
    refine wpAnyH_take (i := 13) (oi := { dst := some 81, op := Op.move (Operand.tmp 14), type := 4, pos := "parse.go:91", after := #[{ on := 12, ground := Ground.guard }, { on := 16, ground := Ground.gcOnly Departure.lateStores }], guard := some (12, true) }) (v := undef) rfl (by kernel_rfl) (by kernel_rfl) (by kernel_rfl) (fun _ _ _ h => h) (Or.inr ⟨by rfl, rfl⟩) (by assumption) ?_
    (try simp only [Act.put, List.setIfInBounds_toArray, List.set_cons_zero, List.set_cons_succ])
    refine wpAnyH_take (i := 14) (oi := { dst := some 82, op := Op.pick (Operand.tmp 80) (Operand.tmp 81) (Operand.const (Value.bool false)), type := 4, pos := "parse.go:91", after := #[{ on := 12, ground := Ground.data }, { on := 13, ground := Ground.data }, { on := 16, ground := Ground.gcOnly Departure.lateStores }], guard := none }) (v := ?v69x14) rfl (by kernel_rfl) (by kernel_rfl) (by kernel_rfl) (fun _ _ _ h => h) (Or.inl ⟨by rfl, ?h69x14⟩) (by assumption) ?r69x14
    case h69x14 =>
      intro w' hSw
      (try dsimp only at hSw)
      go_simp
      first | done | with_reducible rfl | rfl
    (try simp only [Act.put, List.setIfInBounds_toArray, List.set_cons_zero, List.set_cons_succ])
    have HS6 := hideIt (show (put6 U7.drew w.heap.size (.string ⟨x1.toArray⟩) (.int .i64 n2) (.int .i64 n3) (.int .i64 n4) (.int .i64 n5) (.slice na nn nc)).heap[W5.heap.size]? = some (.cells #[.string ⟨x1.toArray⟩, .int .i64 n2, .int .i64 n3, .int .i64 n4, .int .i64 n5, .slice na nn nc] 56 (0, 0)) ∧ (put6 U7.drew w.heap.size (.string ⟨x1.toArray⟩) (.int .i64 n2) (.int .i64 n3) (.int .i64 n4) (.int .i64 n5) (.slice na nn nc)).heap[W5.heap.size + 1]? = some (.cells #[.int .u64 cp, .slice ea en ec] 64 (0, 0)) from ⟨(put6_other (by omega)).trans HS.out.1, (put6_other (by omega)).trans HS.out.2⟩)
    have HG6 := hideIt (show (put6 U7.drew w.heap.size (.string ⟨x1.toArray⟩) (.int .i64 n2) (.int .i64 n3) (.int .i64 n4) (.int .i64 n5) (.slice na nn nc)).heap[w.heap.size + 1]? = some (.cells #[.int .u64 0, .slice none 0 0] 64 (0, 0)) from (put6_other (by omega)).trans HGG.out)
    have HC6 := hideIt (show (put6 U7.drew w.heap.size (.string ⟨x1.toArray⟩) (.int .i64 n2) (.int .i64 n3) (.int .i64 n4) (.int .i64 n5) (.slice na nn nc)).heap[w.heap.size]? = some (.cells #[.string ⟨x1.toArray⟩, .int .i64 n2, .int .i64 n3, .int .i64 n4, .int .i64 n5, .slice na nn nc] 56 (0, 0)) from put6_same HCC.out)
    have HBX6 := hideIt (show Below w.heap.size w (put6 U7.drew w.heap.size (.string ⟨x1.toArray⟩) (.int .i64 n2) (.int .i64 n3) (.int .i64 n4) (.int .i64 n5) (.slice na nn nc)) from put6_below HBX.out (Nat.le_refl _))
    have HAP6 := hideIt (show Apart (fun j => j = w.heap.size) U7.drew (put6 U7.drew w.heap.size (.string ⟨x1.toArray⟩) (.int .i64 n2) (.int .i64 n3) (.int .i64 n4) (.int .i64 n5) (.slice na nn nc)) from put6_apart)
    refine wpAnyH_ready (rs := [15]) (by kernel_rfl) (by simp) (AllReadyH.cons rfl (fun K hK => ?_) AllReadyH.nil)
    rw [if_pos (by rfl)]
    refine wp_storeC HCC.out rfl rfl ?_
    refine hK.out _ _ HS6.out (fun hHeld => ?_)
    clear hK K
    generalize (put6 U7.drew w.heap.size (.string ⟨x1.toArray⟩) (.int .i64 n2) (.int .i64 n3) (.int .i64 n4) (.int .i64 n5) (.slice na nn nc)) = P6 at *
    have HS8 := hideIt (show (put2 P6 (w.heap.size + 1) (.int .u64 cp) (.slice ea en ec)).heap[W5.heap.size]? = some (.cells #[.string ⟨x1.toArray⟩, .int .i64 n2, .int .i64 n3, .int .i64 n4, .int .i64 n5, .slice na nn nc] 56 (0, 0)) ∧ (put2 P6 (w.heap.size + 1) (.int .u64 cp) (.slice ea en ec)).heap[W5.heap.size + 1]? = some (.cells #[.int .u64 cp, .slice ea en ec] 64 (0, 0)) from ⟨(put2_other (by omega)).trans HS6.out.1, (put2_other (by omega)).trans HS6.out.2⟩)
    have HG8 := hideIt (show (put2 P6 (w.heap.size + 1) (.int .u64 cp) (.slice ea en ec)).heap[w.heap.size + 1]? = some (.cells #[.int .u64 cp, .slice ea en ec] 64 (0, 0)) from put2_same HG6.out)
    have HC8 := hideIt (show (put2 P6 (w.heap.size + 1) (.int .u64 cp) (.slice ea en ec)).heap[w.heap.size]? = some (.cells #[.string ⟨x1.toArray⟩, .int .i64 n2, .int .i64 n3, .int .i64 n4, .int .i64 n5, .slice na nn nc] 56 (0, 0)) from (put2_other (by omega)).trans HC6.out)
    have HBX8 := hideIt (show Below w.heap.size w (put2 P6 (w.heap.size + 1) (.int .u64 cp) (.slice ea en ec)) from put2_below HBX6.out (Nat.le_succ _))
    have HAP8 := hideIt (show Apart (fun j => j = w.heap.size ∨ j = w.heap.size + 1) U7.drew (put2 P6 (w.heap.size + 1) (.int .u64 cp) (.slice ea en ec)) from (HAP6.out.wide fun _ => .inl).trans put2_apart)
    refine wpAnyH_ready (rs := [16]) (by kernel_rfl) (by simp) (AllReadyH.cons rfl (fun K hK => ?_) AllReadyH.nil)
    rw [if_pos (by rfl)]
    refine wp_storeG HG6.out rfl rfl ?_
    refine hK.out _ _ HS8.out (fun hHeld => ?_)
    clear hK K
    generalize (put2 P6 (w.heap.size + 1) (.int .u64 cp) (.slice ea en ec)) = P8 at *
    refine wpAnyH_take (i := 17) (oi := { dst := some 4, op := Op.assign (Operand.tmp 82), type := 4, pos := "parse.go:91", after := #[{ on := 14, ground := Ground.data }, { on := 16, ground := Ground.chain }, { on := 0, ground := Ground.phase }, { on := 1, ground := Ground.phase }, { on := 2, ground := Ground.phase }, { on := 3, ground := Ground.phase }, { on := 4, ground := Ground.phase }, { on := 5, ground := Ground.phase }, { on := 6, ground := Ground.phase }, { on := 7, ground := Ground.phase }, { on := 8, ground := Ground.phase }, { on := 9, ground := Ground.phase }, { on := 10, ground := Ground.phase }, { on := 11, ground := Ground.phase }, { on := 12, ground := Ground.phase }, { on := 13, ground := Ground.phase }, { on := 14, ground := Ground.phase }, { on := 15, ground := Ground.phase }, { on := 16, ground := Ground.phase }], guard := none }) (v := ?v70x17) rfl (by kernel_rfl) (by kernel_rfl) (by kernel_rfl) (fun _ _ _ h => h) (Or.inl ⟨by rfl, ?h70x17⟩) (by assumption) ?r70x17
    case h70x17 =>
      intro w' hSw
      (try dsimp only at hSw)
      go_simp
      first | done | with_reducible rfl | rfl
    (try simp only [Act.put, List.setIfInBounds_toArray, List.set_cons_zero, List.set_cons_succ])
    refine wpAnyH_done (by kernel_rfl) ?_ _
    have e0 := cell_of_heapV HC8.out 0
    have e1 := cell_of_heapV HC8.out 1
    have e2 := cell_of_heapV HC8.out 2
    have e3 := cell_of_heapV HC8.out 3
    have e4 := cell_of_heapV HC8.out 4
    have e5 := cell_of_heapV HC8.out 5
    have e6 := cell_of_heapV HG8.out 0
    have e7 := cell_of_heapV HG8.out 1
    simp only [List.getElem?_toArray, List.getElem?_cons_zero, List.getElem?_cons_succ] at e0 e1 e2 e3 e4 e5 e6 e7
    clear hHeld
    go_wp2_with fail
    (try simp only [Exit.inBlock, Exit.then])
    have h2 := HS2.out
    have h4 := HS4.out
    obtain ⟨q1, q2, q3, q4, q5, q6⟩ := HEQ.out
    refine bodyPost_ret (v := .tuple #[.agg #[.string ⟨x1.toArray⟩, .int .i64 n2, .int .i64 n3, .int .i64 n4, .int .i64 n5, .slice na nn nc], .agg #[.int .u64 cp, .slice ea en ec], .bool false]) ?_ rfl ⟨.slice na nn nc, .slice ea en ec, ?_, fun ds hd => ?_, fun xs hd => ?_, ⟨_, _, _, rfl, fun x hx => Nat.le_trans (by omega) (HNA.out x hx)⟩, ⟨_, _, _, rfl, fun x hx => Nat.le_trans (by omega) (HEA.out x hx)⟩, HBX8.out⟩
    · rw [results_cct rfl]
      go_simp
    · rw [HOK.out, q1, q2, q3, q4, q5, q6]
      simp
    · exact needs_apart (N := W2.heap.size) ((HND.out ds hd).below HBY.out) ⟨_, _, _, rfl, HNA.out⟩ HAP8.out (fun j hj => by omega)
    · exact ((HXS.out xs hd).below HBZ.out).apart (N := W4.heap.size) ⟨_, _, _, rfl, HEA.out⟩ HAP8.out (fun j hj => by omega)
end Go.Proofs.YtlljniaobbbjgaaGreatDoor

