/- What 'TopHints' answers: true: the short ways. -/
import Derived.Test.YtlpogejkmigimaaHFor3
import Derived.Test.YtlpogejkmigimaaHTMath
namespace Go.Proofs.Ytlpogejkmigimaa
open Go.RowKit
open Ost (N4 sumOn Sm pop8)
theorem for_any (free all : N4) (nodes : Nat) (many : Int) (w : World) (hmany : 0 < many) (hn : nodes < 256) (hf : Sm free) (ha : Sm all) :
    Calls Try.prog 28 #[.agg #[.int .i64 free.a, .int .i64 free.b, .int .i64 free.c, .int .i64 free.d], .agg #[.int .i64 all.a, .int .i64 all.b, .int .i64 all.c, .int .i64 all.d], .int .u8 nodes, .int .i64 many] w fun e w' => ForRes w (Ost.hints free all nodes many) e w' := for_some free all nodes many w hmany hn hf ha
def one4 : N4 := ⟨1, 0, 0, 0⟩
theorem one4_sm : Sm one4 := allR_Sm (lo := 0) (by decide) (by decide +kernel)
theorem one4_hints : Ost.hints one4 one4 1 1 = [(1, true)] := by decide +kernel
/-- What lies ready in 'TopHints'. -/
structure HEnv (u : World) (N Bw : Nat) (free all : N4) (any : Bool) (v : Value) : Prop where
  f : Four u N free.a free.b free.c free.d
  a : Four u (N + 1) all.a all.b all.c all.d
  c0 : u.cell? ⟨Bw, 0, none⟩ = some (.bool any)
  c1 : u.cell? ⟨Bw, 1, none⟩ = some v
  z0 : u.frozen? ⟨Bw, 0, none⟩ = false
  z1 : u.frozen? ⟨Bw, 1, none⟩ = false
  lt : N + 1 < Bw
theorem HEnv.blt {u : World} {N Bw : Nat} {free all : N4} {any : Bool} {v : Value} (h : HEnv u N Bw free all any v) : Bw < u.heap.size := World.block_lt_of_cell? u _ h.c0
theorem HEnv.below {u u' : World} {N Bw K : Nat} {free all : N4} {any : Bool} {v : Value} (h : HEnv u N Bw free all any v) (hb : Below K u u') (hK : Bw < K) : HEnv u' N Bw free all any v :=
  have hl := h.lt
  ⟨h.f.below hb (by omega), h.a.below hb (by omega), (hb.cell (p := ⟨Bw, 0, none⟩) hK).trans h.c0, (hb.cell (p := ⟨Bw, 1, none⟩) hK).trans h.c1, (hb.frozen (p := ⟨Bw, 0, none⟩) hK).trans h.z0, (hb.frozen (p := ⟨Bw, 1, none⟩) hK).trans h.z1, hl⟩
abbrev topWorld (w : World) (free all : N4) : World := (w.alloc (.cells #[.int .i64 free.a, .int .i64 free.b, .int .i64 free.c, .int .i64 free.d] 45)).alloc (.cells #[.int .i64 all.a, .int .i64 all.b, .int .i64 all.c, .int .i64 all.d] 45)
theorem topFour (w : World) (free all : N4) : Four (topWorld w free all) w.heap.size free.a free.b free.c free.d ∧ Four (topWorld w free all) (w.heap.size + 1) all.a all.b all.c all.d :=
  ⟨(Four.made w _ _ _ _ _).alloc _, by have := Four.made (w.alloc (.cells #[.int .i64 free.a, .int .i64 free.b, .int .i64 free.c, .int .i64 free.d] 45)) 45 all.a all.b all.c all.d; simpa using this⟩
theorem topBelow (w : World) (free all : N4) : Below w.heap.size w (topWorld w free all) := ((Below.refl _ _).alloc (Nat.le_refl _) _).alloc (by simp) _
set_option maxRecDepth 100000 in
set_option maxHeartbeats 4000000 in
theorem topHints_a (free all : N4) (nodes : Nat) (many : Int) (w : World) (h1 : allR 0 free 4 = false) :
    Calls Try.prog 7 #[v4 free, v4 all, .int .u8 nodes, .int .i64 many] w fun e w' => e = .returned (.bool true) ∧ Below w.heap.size w w' := by
  have HF := hideIt (topFour w free all)
  have HB := hideIt (topBelow w free all)
  have HFo := hideIt (for_any one4 one4 1 1 (topWorld w free all) (by decide) (by decide) one4_sm one4_sm)
  unfold topWorld v4 at *
  go_enter Try.func7, Try.ntmps7
  go_wp2_with fail
  refine HFo.out.mono ?_
  rintro e w1 ⟨v, rfl, hH, _, hb1⟩
  rw [one4_hints] at hH
  rcases hH with ⟨h, _⟩ | ⟨b0, o0, c0, rfl, hlt0, hcs0⟩
  · cases h
  have hB1 := HB.out.trans (hb1.mono HB.out.size)
  have hsz1 : w.heap.size + 2 ≤ w1.heap.size := Nat.le_trans (by simp) hb1.size
  have hg0 := (hcs0 0 (by decide)).2
  have HE1 : Hid (HEnv (w1.alloc (.cells #[.bool false, .slice (some ⟨b0, o0, none⟩) 1 c0] 53)) w.heap.size w1.heap.size free all false (.slice (some ⟨b0, o0, none⟩) 1 c0)) :=
    ⟨(HF.out.1.below hb1 (by simp; omega)).alloc _, (HF.out.2.below hb1 (by simp)).alloc _, by simp, by simp, by simp, by simp, by omega⟩
  have hB2 := hideIt (hB1.alloc (by omega) (.cells #[.bool false, .slice (some ⟨b0, o0, none⟩) 1 c0] 53))
  have hg1 := cell_alloc hg0 (.cells #[.bool false, .slice (some ⟨b0, o0, none⟩) 1 c0] 53)
  have hgx : (w1.alloc (.cells #[.bool false, .slice (some ⟨b0, o0, none⟩) 1 c0] 53)).cell? ⟨b0, o0 + 1, none⟩ = some (.bool true) := hg1
  obtain ⟨Bw, hBw⟩ : ∃ Bw, Bw = w1.heap.size := ⟨_, rfl⟩
  have e0 := HE1.out.f.c0
  have e1 := HE1.out.f.c1
  have e2 := HE1.out.f.c2
  have e3 := HE1.out.f.c3
  clear HF HB HFo hb1 hlt0 hcs0 hg0 hg1
  go_wp2_with fail
  refine (smallT_any free _).mono ?_
  rintro e w3 ⟨rfl, hb3⟩
  have HE3 := hideIt (HE1.out.below hb3 HE1.out.blt)
  have hB3 := hideIt (hB2.out.trans (hb3.mono hB2.out.size))
  clear hb3 HE1 hB2 hgx e0 e1 e2 e3 hB1
  rw [h1]
  go_wp2_with fail
  go_ret
  exact ⟨rfl, hB3.out⟩
set_option maxRecDepth 100000 in
set_option maxHeartbeats 4000000 in
theorem topHints_b (free all : N4) (nodes : Nat) (many : Int) (w : World) (h1 : allR 0 free 4 = true) (h2 : allR 0 all 4 = false) :
    Calls Try.prog 7 #[v4 free, v4 all, .int .u8 nodes, .int .i64 many] w fun e w' => e = .returned (.bool true) ∧ Below w.heap.size w w' := by
  have HF := hideIt (topFour w free all)
  have HB := hideIt (topBelow w free all)
  have HFo := hideIt (for_any one4 one4 1 1 (topWorld w free all) (by decide) (by decide) one4_sm one4_sm)
  unfold topWorld v4 at *
  go_enter Try.func7, Try.ntmps7
  go_wp2_with fail
  refine HFo.out.mono ?_
  rintro e w1 ⟨v, rfl, hH, _, hb1⟩
  rw [one4_hints] at hH
  rcases hH with ⟨h, _⟩ | ⟨b0, o0, c0, rfl, hlt0, hcs0⟩
  · cases h
  have hB1 := HB.out.trans (hb1.mono HB.out.size)
  have hsz1 : w.heap.size + 2 ≤ w1.heap.size := Nat.le_trans (by simp) hb1.size
  have hg0 := (hcs0 0 (by decide)).2
  have HE1 : Hid (HEnv (w1.alloc (.cells #[.bool false, .slice (some ⟨b0, o0, none⟩) 1 c0] 53)) w.heap.size w1.heap.size free all false (.slice (some ⟨b0, o0, none⟩) 1 c0)) :=
    ⟨(HF.out.1.below hb1 (by simp; omega)).alloc _, (HF.out.2.below hb1 (by simp)).alloc _, by simp, by simp, by simp, by simp, by omega⟩
  have hB2 := hideIt (hB1.alloc (by omega) (.cells #[.bool false, .slice (some ⟨b0, o0, none⟩) 1 c0] 53))
  have hg1 := cell_alloc hg0 (.cells #[.bool false, .slice (some ⟨b0, o0, none⟩) 1 c0] 53)
  have hgx : (w1.alloc (.cells #[.bool false, .slice (some ⟨b0, o0, none⟩) 1 c0] 53)).cell? ⟨b0, o0 + 1, none⟩ = some (.bool true) := hg1
  obtain ⟨Bw, hBw⟩ : ∃ Bw, Bw = w1.heap.size := ⟨_, rfl⟩
  have e0 := HE1.out.f.c0
  have e1 := HE1.out.f.c1
  have e2 := HE1.out.f.c2
  have e3 := HE1.out.f.c3
  clear HF HB HFo hb1 hlt0 hcs0 hg0 hg1
  go_wp2_with fail
  refine (smallT_any free _).mono ?_
  rintro e w3 ⟨rfl, hb3⟩
  have HE3 := hideIt (HE1.out.below hb3 HE1.out.blt)
  have hB3 := hideIt (hB2.out.trans (hb3.mono hB2.out.size))
  clear hb3 HE1 hB2 hgx e0 e1 e2 e3 hB1
  rw [h1]
  have e0 := HE3.out.a.c0
  have e1 := HE3.out.a.c1
  have e2 := HE3.out.a.c2
  have e3 := HE3.out.a.c3
  go_wp2_with fail
  refine (smallT_any all _).mono ?_
  rintro e w4 ⟨rfl, hb4⟩
  have HE4 := hideIt (HE3.out.below hb4 HE3.out.blt)
  have hB4 := hideIt (hB3.out.trans (hb4.mono hB3.out.size))
  clear hb4 HE3 hB3 e0 e1 e2 e3
  rw [h2]
  go_wp2_with fail
  go_ret
  exact ⟨rfl, hB4.out⟩
set_option maxRecDepth 100000 in
set_option maxHeartbeats 4000000 in
theorem topHints_c (free all : N4) (nodes : Nat) (many : Int) (w : World) (h1 : allR 0 free 4 = true) (h2 : allR 0 all 4 = true) (h3 : 15 < nodes) :
    Calls Try.prog 7 #[v4 free, v4 all, .int .u8 nodes, .int .i64 many] w fun e w' => e = .returned (.bool true) ∧ Below w.heap.size w w' := by
  have HF := hideIt (topFour w free all)
  have HB := hideIt (topBelow w free all)
  have HFo := hideIt (for_any one4 one4 1 1 (topWorld w free all) (by decide) (by decide) one4_sm one4_sm)
  unfold topWorld v4 at *
  go_enter Try.func7, Try.ntmps7
  go_wp2_with fail
  refine HFo.out.mono ?_
  rintro e w1 ⟨v, rfl, hH, _, hb1⟩
  rw [one4_hints] at hH
  rcases hH with ⟨h, _⟩ | ⟨b0, o0, c0, rfl, hlt0, hcs0⟩
  · cases h
  have hB1 := HB.out.trans (hb1.mono HB.out.size)
  have hsz1 : w.heap.size + 2 ≤ w1.heap.size := Nat.le_trans (by simp) hb1.size
  have hg0 := (hcs0 0 (by decide)).2
  have HE1 : Hid (HEnv (w1.alloc (.cells #[.bool false, .slice (some ⟨b0, o0, none⟩) 1 c0] 53)) w.heap.size w1.heap.size free all false (.slice (some ⟨b0, o0, none⟩) 1 c0)) :=
    ⟨(HF.out.1.below hb1 (by simp; omega)).alloc _, (HF.out.2.below hb1 (by simp)).alloc _, by simp, by simp, by simp, by simp, by omega⟩
  have hB2 := hideIt (hB1.alloc (by omega) (.cells #[.bool false, .slice (some ⟨b0, o0, none⟩) 1 c0] 53))
  have hg1 := cell_alloc hg0 (.cells #[.bool false, .slice (some ⟨b0, o0, none⟩) 1 c0] 53)
  have hgx : (w1.alloc (.cells #[.bool false, .slice (some ⟨b0, o0, none⟩) 1 c0] 53)).cell? ⟨b0, o0 + 1, none⟩ = some (.bool true) := hg1
  obtain ⟨Bw, hBw⟩ : ∃ Bw, Bw = w1.heap.size := ⟨_, rfl⟩
  have e0 := HE1.out.f.c0
  have e1 := HE1.out.f.c1
  have e2 := HE1.out.f.c2
  have e3 := HE1.out.f.c3
  clear HF HB HFo hb1 hlt0 hcs0 hg0 hg1
  go_wp2_with fail
  refine (smallT_any free _).mono ?_
  rintro e w3 ⟨rfl, hb3⟩
  have HE3 := hideIt (HE1.out.below hb3 HE1.out.blt)
  have hB3 := hideIt (hB2.out.trans (hb3.mono hB2.out.size))
  clear hb3 HE1 hB2 hgx e0 e1 e2 e3 hB1
  rw [h1]
  have e0 := HE3.out.a.c0
  have e1 := HE3.out.a.c1
  have e2 := HE3.out.a.c2
  have e3 := HE3.out.a.c3
  go_wp2_with fail
  refine (smallT_any all _).mono ?_
  rintro e w4 ⟨rfl, hb4⟩
  have HE4 := hideIt (HE3.out.below hb4 HE3.out.blt)
  have hB4 := hideIt (hB3.out.trans (hb4.mono hB3.out.size))
  clear hb4 HE3 hB3 e0 e1 e2 e3
  rw [h2]
  go_wp2_with fail
  go_ret
  exact ⟨rfl, hB4.out⟩
set_option maxRecDepth 100000 in
set_option maxHeartbeats 4000000 in
theorem topHints_d (free all : N4) (nodes : Nat) (many : Int) (w : World) (h1 : allR 0 free 4 = true) (h2 : allR 0 all 4 = true) (h3 : nodes ≤ 15) (h4 : many ≤ 0) :
    Calls Try.prog 7 #[v4 free, v4 all, .int .u8 nodes, .int .i64 many] w fun e w' => e = .returned (.bool true) ∧ Below w.heap.size w w' := by
  have HF := hideIt (topFour w free all)
  have HB := hideIt (topBelow w free all)
  have HFo := hideIt (for_any one4 one4 1 1 (topWorld w free all) (by decide) (by decide) one4_sm one4_sm)
  unfold topWorld v4 at *
  go_enter Try.func7, Try.ntmps7
  go_wp2_with fail
  refine HFo.out.mono ?_
  rintro e w1 ⟨v, rfl, hH, _, hb1⟩
  rw [one4_hints] at hH
  rcases hH with ⟨h, _⟩ | ⟨b0, o0, c0, rfl, hlt0, hcs0⟩
  · cases h
  have hB1 := HB.out.trans (hb1.mono HB.out.size)
  have hsz1 : w.heap.size + 2 ≤ w1.heap.size := Nat.le_trans (by simp) hb1.size
  have hg0 := (hcs0 0 (by decide)).2
  have HE1 : Hid (HEnv (w1.alloc (.cells #[.bool false, .slice (some ⟨b0, o0, none⟩) 1 c0] 53)) w.heap.size w1.heap.size free all false (.slice (some ⟨b0, o0, none⟩) 1 c0)) :=
    ⟨(HF.out.1.below hb1 (by simp; omega)).alloc _, (HF.out.2.below hb1 (by simp)).alloc _, by simp, by simp, by simp, by simp, by omega⟩
  have hB2 := hideIt (hB1.alloc (by omega) (.cells #[.bool false, .slice (some ⟨b0, o0, none⟩) 1 c0] 53))
  have hg1 := cell_alloc hg0 (.cells #[.bool false, .slice (some ⟨b0, o0, none⟩) 1 c0] 53)
  have hgx : (w1.alloc (.cells #[.bool false, .slice (some ⟨b0, o0, none⟩) 1 c0] 53)).cell? ⟨b0, o0 + 1, none⟩ = some (.bool true) := hg1
  obtain ⟨Bw, hBw⟩ : ∃ Bw, Bw = w1.heap.size := ⟨_, rfl⟩
  have e0 := HE1.out.f.c0
  have e1 := HE1.out.f.c1
  have e2 := HE1.out.f.c2
  have e3 := HE1.out.f.c3
  clear HF HB HFo hb1 hlt0 hcs0 hg0 hg1
  go_wp2_with fail
  refine (smallT_any free _).mono ?_
  rintro e w3 ⟨rfl, hb3⟩
  have HE3 := hideIt (HE1.out.below hb3 HE1.out.blt)
  have hB3 := hideIt (hB2.out.trans (hb3.mono hB2.out.size))
  clear hb3 HE1 hB2 hgx e0 e1 e2 e3 hB1
  rw [h1]
  have e0 := HE3.out.a.c0
  have e1 := HE3.out.a.c1
  have e2 := HE3.out.a.c2
  have e3 := HE3.out.a.c3
  go_wp2_with fail
  refine (smallT_any all _).mono ?_
  rintro e w4 ⟨rfl, hb4⟩
  have HE4 := hideIt (HE3.out.below hb4 HE3.out.blt)
  have hB4 := hideIt (hB3.out.trans (hb4.mono hB3.out.size))
  clear hb4 HE3 hB3 e0 e1 e2 e3
  rw [h2]
  have f0 := HE4.out.f.c0
  have f1 := HE4.out.f.c1
  have f2 := HE4.out.f.c2
  have f3 := HE4.out.f.c3
  have e0 := HE4.out.a.c0
  have e1 := HE4.out.a.c1
  have e2 := HE4.out.a.c2
  have e3 := HE4.out.a.c3
  have HN := hideIt (for_none free all nodes many w4 h4)
  unfold v4 at HN
  go_wp2_with fail
  refine HN.out.mono ?_
  rintro e w5 ⟨rfl, hb5⟩
  have HE5 := hideIt (HE4.out.below hb5 HE4.out.blt)
  have hB5 := hB4.out.trans (hb5.mono hB4.out.size)
  have g0 := HE5.out.c0
  have g1 := HE5.out.c1
  have z0 := HE5.out.z0
  have z1 := HE5.out.z1
  clear hb5 HE4 hB4 f0 f1 f2 f3 e0 e1 e2 e3 HN
  have hBl := hideIt HE5.out.lt
  go_wp2_with fail
  go_ret
  exact ⟨rfl, (hB5.setCell (by have := hBl.out; show w.heap.size ≤ w1.heap.size; omega) _).setCell (by have := hBl.out; show w.heap.size ≤ w1.heap.size; omega) _⟩
end Go.Proofs.Ytlpogejkmigimaa
