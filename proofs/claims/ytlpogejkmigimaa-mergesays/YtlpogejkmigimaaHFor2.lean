/- What hints.For answers: the contract. -/
import Derived.Test.YtlpogejkmigimaaHFor
namespace Go.Proofs.Ytlpogejkmigimaa
open Go.RowKit
open Ost (N4 sumTo sumOn Sm pop8 isSub masksTo fewTo hintsTo goodH)
/-- The cells of hints. -/
def hintCells (l : List (Nat × Bool)) : List Value := l.flatMap fun h => [.int .u8 (h.1 : Nat), .bool h.2]
theorem hintCells_length (l : List (Nat × Bool)) : (hintCells l).length = l.length * 2 := by
  induction l with
  | nil => rfl
  | cons a r ih => simp only [hintCells, List.flatMap_cons, List.length_append, List.length_cons, List.length_nil] at ih ⊢; omega
theorem hintCells_snoc (l : List (Nat × Bool)) (h : Nat × Bool) : hintCells (l ++ [h]) = hintCells l ++ [.int .u8 (h.1 : Nat), .bool h.2] := by simp [hintCells]
theorem hintCells_at (l : List (Nat × Bool)) (k : Nat) (hk : k < l.length) : (hintCells l)[k * 2]? = some (.int .u8 ((l.getD k (0, false)).1 : Nat)) ∧ (hintCells l)[k * 2 + 1]? = some (.bool (l.getD k (0, false)).2) := by
  induction l generalizing k with
  | nil => simp at hk
  | cons a r ih =>
    cases k with
    | zero => simp [hintCells]
    | succ k =>
      have := ih k (by simpa using hk)
      have e : hintCells (a :: r) = [.int .u8 (a.1 : Nat), .bool a.2] ++ hintCells r := rfl
      rw [e, show (k + 1) * 2 = k * 2 + 2 by omega]
      simpa using this
/-- A slice of hints that is read. -/
def HintsAt (w : World) (v : Value) (l : List (Nat × Bool)) : Prop :=
  (l = [] ∧ ∃ ao c, v = .slice ao 0 c) ∨ ∃ b o c, v = .slice (some ⟨b, o, none⟩) l.length c ∧ b < w.heap.size ∧ ∀ k, k < l.length → w.cell? ⟨b, o + k * 2, none⟩ = some (.int .u8 ((l.getD k (0, false)).1 : Nat)) ∧ w.cell? ⟨b, o + k * 2 + 1, none⟩ = some (.bool (l.getD k (0, false)).2)
theorem HintsAt.below {w w' : World} {v : Value} {l : List (Nat × Bool)} (h : HintsAt w v l) (hb : Below w.heap.size w w') : HintsAt w' v l := by
  rcases h with h | ⟨b, o, c, hv, hlt, hc⟩
  · exact .inl h
  · refine .inr ⟨b, o, c, hv, Nat.lt_of_lt_of_le hlt hb.size, fun k hk => ?_⟩
    obtain ⟨h1, h2⟩ := hc k hk
    exact ⟨(hb.cell (p := ⟨b, o + k * 2, none⟩) hlt).trans h1, (hb.cell (p := ⟨b, o + k * 2 + 1, none⟩) hlt).trans h2⟩
theorem HintsAt.of_row {w : World} {base : Nat} {e : TypeId} {v : Value} {l : List (Nat × Bool)} (h : w.ownsRow base e 2 v l.length (hintCells l)) : HintsAt w v l := by
  rcases h.2 with ⟨rfl, h0⟩ | ⟨g, cap, cur, rfl, hg, _⟩
  · exact .inl ⟨List.eq_nil_of_length_eq_zero h0, none, 0, rfl⟩
  · refine .inr ⟨g, 0, cap, rfl, (h.lt g rfl).2, fun k hk => ?_⟩
    obtain ⟨c0, c1⟩ := hintCells_at l k hk
    rw [Nat.zero_add, h.cellAt (k * 2) (by omega), h.cellAt (k * 2 + 1) (by omega)]
    exact ⟨c0, c1⟩
theorem infoHint : (Try.prog.info? 60).map (fun i => (i.zero, i.size, i.bytes)) = some (some (.agg #[.int .u8 0, .bool false]), 2, 2) := by kernel_rfl
/-- What lies ready in hints.For. -/
structure FEnv (u : World) (N : Nat) (free all : N4) (many : Int) : Prop where
  f : Four u N free.a free.b free.c free.d
  a : Four u (N + 1) all.a all.b all.c all.d
  m : u.cell? ⟨N + 2, 0, none⟩ = some (.int .i64 many)
  r0 : u.cell? ⟨N + 3, 0, none⟩ = some (.bool false)
  r1 : u.cell? ⟨N + 3, 1, none⟩ = some (.slice none 0 0)
  z0 : u.frozen? ⟨N + 3, 0, none⟩ = false
  z1 : u.frozen? ⟨N + 3, 1, none⟩ = false
theorem FEnv.lt {u : World} {N : Nat} {free all : N4} {many : Int} (h : FEnv u N free all many) : N + 3 < u.heap.size := World.block_lt_of_cell? u _ h.r0
theorem FEnv.below {u u' : World} {N K : Nat} {free all : N4} {many : Int} (h : FEnv u N free all many) (hb : Below K u u') (hK : N + 4 ≤ K) : FEnv u' N free all many :=
  ⟨h.f.below hb (by omega), h.a.below hb (by omega), (hb.cell (p := ⟨N + 2, 0, none⟩) (by show N + 2 < K; omega)).trans h.m, (hb.cell (p := ⟨N + 3, 0, none⟩) (by show N + 3 < K; omega)).trans h.r0, (hb.cell (p := ⟨N + 3, 1, none⟩) (by show N + 3 < K; omega)).trans h.r1, (hb.frozen (p := ⟨N + 3, 0, none⟩) (by show N + 3 < K; omega)).trans h.z0, (hb.frozen (p := ⟨N + 3, 1, none⟩) (by show N + 3 < K; omega)).trans h.z1⟩
abbrev forWorld (w : World) (free all : N4) (many : Int) : World := (((w.alloc (.cells #[.int .i64 free.a, .int .i64 free.b, .int .i64 free.c, .int .i64 free.d] 45)).alloc (.cells #[.int .i64 all.a, .int .i64 all.b, .int .i64 all.c, .int .i64 all.d] 45)).alloc (.cells #[.int .i64 many] 3)).alloc (.cells #[.bool false, .slice none 0 0] 53)
theorem FEnv.made (w : World) (free all : N4) (many : Int) : FEnv (forWorld w free all many) w.heap.size free all many := by
  refine ⟨(((Four.made w _ _ _ _ _).alloc _).alloc _).alloc _, ?_, ?_, ?_, ?_, ?_, ?_⟩
  · have := ((Four.made (w.alloc (.cells #[.int .i64 free.a, .int .i64 free.b, .int .i64 free.c, .int .i64 free.d] 45)) 45 all.a all.b all.c all.d).alloc (.cells #[.int .i64 many] 3)).alloc (.cells #[.bool false, .slice none 0 0] 53)
    simpa using this
  · go_simp
  · go_simp
  · go_simp
  · go_simp
  · go_simp
theorem forBelow (w : World) (free all : N4) (many : Int) : Below w.heap.size w (forWorld w free all many) :=
  ((((Below.refl _ _).alloc (Nat.le_refl _) _).alloc (by simp) _).alloc (by simp; omega) _).alloc (by simp; omega) _
/-- Cells of masks. -/
def MCells (u : World) (g : Nat) (L : List Nat) : Prop := ∀ k, k < L.length → u.cell? ⟨g, k, none⟩ = some (.int .u8 (L.getD k 0 : Nat))
theorem MCells.below {u u' : World} {g K : Nat} {L : List Nat} (h : MCells u g L) (hb : Below K u u') (hK : g < K) : MCells u' g L := fun k hk => (hb.cell (p := ⟨g, k, none⟩) hK).trans (h k hk)
/-- What hints.For leaves. -/
def ForRes (w : World) (l : List (Nat × Bool)) (e : Ending) (w' : World) : Prop := ∃ v, e = .returned (.agg #[.bool false, v]) ∧ HintsAt w' v l ∧ (∀ b o n c, v = .slice (some ⟨b, o, none⟩) n c → w.heap.size ≤ b) ∧ Below w.heap.size w w'
set_option maxRecDepth 100000 in
set_option maxHeartbeats 1000000 in
theorem for_none (free all : N4) (nodes : Nat) (many : Int) (w : World) (hmany : many ≤ 0) :
    Calls Try.prog 28 #[v4 free, v4 all, .int .u8 nodes, .int .i64 many] w fun e w' => e = .returned (.agg #[.bool true, .slice none 0 0]) ∧ Below w.heap.size w w' := by
  have hE := FEnv.made w free all many
  have hc := hE.m
  have r0 := hE.r0
  have r1 := hE.r1
  have z0 := hE.z0
  have z1 := hE.z1
  have HB := hideIt (forBelow w free all many)
  clear hE
  unfold forWorld v4 at *
  go_enter Try.func28, Try.ntmps28
  go_wp2_with fail
  (try simp only [Exit.inBlock, Exit.then])
  refine bodyPost_ret (v := .agg #[.bool true, .slice none 0 0]) ?_ rfl ⟨rfl, ?_⟩
  · rw [results_cell rfl]
    go_simp
  · exact ((((Below.refl _ _).alloc (Nat.le_refl _) _).alloc (by simp) _).alloc (by simp; omega) _).alloc (by simp; omega) _
theorem row_below {w w' : World} {base : Nat} {e : TypeId} {size : Nat} {v : Value} {n : Nat} {xs : List Value} (h : w.ownsRow base e size v n xs) (hb : Below w.heap.size w w') : w'.ownsRow base e size v n xs :=
  h.kept (row := none) ⟨hb.os, hb.tape, hb.output, hb.size, fun j hj _ => hb.block j hj⟩ (by cases hv : v.ownBlock <;> simp)
theorem cell_alloc {w : World} {a : Addr} {v : Value} (h : w.cell? a = some v) (o : Obj) : (w.alloc o).cell? a = some v :=
  (((Below.refl w.heap.size w).alloc (Nat.le_refl _) o).cell (World.block_lt_of_cell? w _ h)).trans h
theorem frozen_alloc {w : World} {a : Addr} {v : Value} (hc : w.cell? a = some v) (h : w.frozen? a = false) (o : Obj) : (w.alloc o).frozen? a = false :=
  (((Below.refl w.heap.size w).alloc (Nat.le_refl _) o).frozen (World.block_lt_of_cell? w _ hc)).trans h
theorem row_slice {w : World} {base : Nat} {e : TypeId} {size : Nat} {v : Value} {n : Nat} {xs : List Value} (h : w.ownsRow base e size v n xs) : ∃ ao c, v = .slice ao n c := by
  rcases h.2 with ⟨rfl, rfl⟩ | ⟨g, cap, cur, rfl, _⟩
  · exact ⟨none, 0, rfl⟩
  · exact ⟨_, _, rfl⟩
theorem fresh_row {w : World} {base N : Nat} {e : TypeId} {size : Nat} {v : Value} {n : Nat} {xs : List Value} (h : w.ownsRow base e size v n xs) (hN : N ≤ base) : ∀ b o n' c, v = .slice (some ⟨b, o, none⟩) n' c → N ≤ b := by
  intro b o n' c hv
  subst hv
  exact Nat.le_trans hN (h.lt b rfl).1
end Go.Proofs.Ytlpogejkmigimaa
