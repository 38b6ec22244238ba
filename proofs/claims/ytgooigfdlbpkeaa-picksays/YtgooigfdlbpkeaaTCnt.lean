/- What (*Topo).Count and the document's CountOn answer: contracts. -/
import Derived.Test.YtgooigfdlbpkeaaTCho
namespace Go.Proofs.Ytgooigfdlbpkeaa
open Go.RowKit
open Ost (Cpu cpu0 chosenTo chosen)
/-- How many of the first ones are of a set and on a node. -/
def cntTo (s : Nat) (l : List Cpu) (j : Int) : Nat → Nat
  | 0 => 0
  | k + 1 => if (s.testBit k && decide ((l.getD k cpu0).node = j)) = true then cntTo s l j k + 1 else cntTo s l j k
theorem cntTo_yes {s : Nat} {l : List Cpu} {k : Nat} {j : Int} (h : s.testBit k = true) (hj : (l.getD k cpu0).node = j) : cntTo s l j (k + 1) = cntTo s l j k + 1 := by
  rw [cntTo, if_pos (by rw [h, hj]; simp)]
theorem cntTo_other {s : Nat} {l : List Cpu} {k : Nat} {j : Int} (hj : (l.getD k cpu0).node ≠ j) : cntTo s l j (k + 1) = cntTo s l j k := by
  rw [cntTo, if_neg (by simp only [decide_eq_false hj, Bool.and_false]; simp)]
theorem cntTo_out {s : Nat} {l : List Cpu} {k : Nat} {j : Int} (h : s.testBit k = false) : cntTo s l j (k + 1) = cntTo s l j k := by
  rw [cntTo, if_neg (by rw [h]; simp)]
theorem cntTo_le (s : Nat) (l : List Cpu) (j : Int) (k : Nat) : cntTo s l j k ≤ k := by
  induction k with
  | zero => exact Nat.le_refl _
  | succ k ih => rw [cntTo]; split <;> omega
/-- Four cells of numbers, all its own. -/
structure Four (w : World) (B : Nat) (a b c d : Int) : Prop where
  c0 : w.cell? ⟨B, 0, none⟩ = some (.int .i64 a)
  c1 : w.cell? ⟨B, 1, none⟩ = some (.int .i64 b)
  c2 : w.cell? ⟨B, 2, none⟩ = some (.int .i64 c)
  c3 : w.cell? ⟨B, 3, none⟩ = some (.int .i64 d)
  f0 : w.frozen? ⟨B, 0, none⟩ = false
  f1 : w.frozen? ⟨B, 1, none⟩ = false
  f2 : w.frozen? ⟨B, 2, none⟩ = false
  f3 : w.frozen? ⟨B, 3, none⟩ = false
theorem Four.lt {w : World} {B : Nat} {a b c d : Int} (h : Four w B a b c d) : B < w.heap.size := World.block_lt_of_cell? w _ h.c0
theorem Four.below {w w' : World} {B K : Nat} {a b c d : Int} (h : Four w B a b c d) (hb : Below K w w') (hK : B < K) : Four w' B a b c d :=
  ⟨(hb.cell (p := ⟨B, 0, none⟩) hK).trans h.c0, (hb.cell (p := ⟨B, 1, none⟩) hK).trans h.c1, (hb.cell (p := ⟨B, 2, none⟩) hK).trans h.c2, (hb.cell (p := ⟨B, 3, none⟩) hK).trans h.c3,
   (hb.frozen (p := ⟨B, 0, none⟩) hK).trans h.f0, (hb.frozen (p := ⟨B, 1, none⟩) hK).trans h.f1, (hb.frozen (p := ⟨B, 2, none⟩) hK).trans h.f2, (hb.frozen (p := ⟨B, 3, none⟩) hK).trans h.f3⟩
theorem Four.made (w : World) (t : TypeId) (a b c d : Int) : Four (w.alloc (.cells #[.int .i64 a, .int .i64 b, .int .i64 c, .int .i64 d] t)) w.heap.size a b c d := by
  constructor <;> simp
theorem Four.alloc {w : World} {B : Nat} {a b c d : Int} (h : Four w B a b c d) (o : Obj) : Four (w.alloc o) B a b c d :=
  h.below ((Below.refl _ _).alloc (Nat.le_refl _) _) h.lt
theorem Four.set_other {w : World} {B : Nat} {a b c d : Int} (h : Four w B a b c d) {p : Addr} (hp : B ≠ p.block) (v : Value) : Four (w.setCell p v) B a b c d := by
  have e : (w.setCell p v).heap[B]? = w.heap[B]? := Below.heap_setCell _ _ _ _ hp
  exact ⟨(World.cell?_of_block (w := w) (a := ⟨B, 0, none⟩) e).trans h.c0, (World.cell?_of_block (w := w) (a := ⟨B, 1, none⟩) e).trans h.c1, (World.cell?_of_block (w := w) (a := ⟨B, 2, none⟩) e).trans h.c2, (World.cell?_of_block (w := w) (a := ⟨B, 3, none⟩) e).trans h.c3,
    (World.frozen?_of_block (w := w) (a := ⟨B, 0, none⟩) e).trans h.f0, (World.frozen?_of_block (w := w) (a := ⟨B, 1, none⟩) e).trans h.f1, (World.frozen?_of_block (w := w) (a := ⟨B, 2, none⟩) e).trans h.f2, (World.frozen?_of_block (w := w) (a := ⟨B, 3, none⟩) e).trans h.f3⟩
theorem Four.set0 {w : World} {B : Nat} {a b c d : Int} (h : Four w B a b c d) (x : Int) : Four (w.setCell ⟨B, 0, none⟩ (.int .i64 x)) B x b c d := by
  obtain ⟨c0, c1, c2, c3, f0, f1, f2, f3⟩ := h
  constructor <;> first | exact World.frozen?_setCell.trans (by assumption) | go_simp
theorem Four.set1 {w : World} {B : Nat} {a b c d : Int} (h : Four w B a b c d) (x : Int) : Four (w.setCell ⟨B, 1, none⟩ (.int .i64 x)) B a x c d := by
  obtain ⟨c0, c1, c2, c3, f0, f1, f2, f3⟩ := h
  constructor <;> first | exact World.frozen?_setCell.trans (by assumption) | go_simp
theorem Four.set2 {w : World} {B : Nat} {a b c d : Int} (h : Four w B a b c d) (x : Int) : Four (w.setCell ⟨B, 2, none⟩ (.int .i64 x)) B a b x d := by
  obtain ⟨c0, c1, c2, c3, f0, f1, f2, f3⟩ := h
  constructor <;> first | exact World.frozen?_setCell.trans (by assumption) | go_simp
theorem Four.set3 {w : World} {B : Nat} {a b c d : Int} (h : Four w B a b c d) (x : Int) : Four (w.setCell ⟨B, 3, none⟩ (.int .i64 x)) B a b c x := by
  obtain ⟨c0, c1, c2, c3, f0, f1, f2, f3⟩ := h
  constructor <;> first | exact World.frozen?_setCell.trans (by assumption) | go_simp
theorem has_in (A n : Nat) (w : World) (hA : A < 18446744073709551616) (hn : n < 64) :
    Calls Try.prog 50 #[.int .u64 A, .int .i64 n] w fun e w' => e = .returned (.bool (A.testBit n)) ∧ w' = w := by
  have HB := bit_eq A n hA
  go_enter Try.func50, Try.ntmps50
  go_wp2_with go_in
  go_ret
  exact ⟨rfl, rfl⟩
theorem results_cell {fn : Func} {p : Tmp} {ty : TypeId} (h : fn.results = #[.cell p ty]) (tmps : Array Value) (P : Program) (w : World) :
    (results fn tmps).run P w = ((asAddr (tmps.getD p undef)).run P w).andThen fun a w₁ => (loadVar ty a).run P w₁ := by
  simp only [results, h]
  simp [Sem.run_bind, Result.andThen]
/-- So many on each node. -/
def cntV (s : Nat) (l : List Cpu) (k : Nat) : Value := .agg #[.int .i64 (cntTo s l 0 k : Nat), .int .i64 (cntTo s l 1 k : Nat), .int .i64 (cntTo s l 2 k : Nat), .int .i64 (cntTo s l 3 k : Nat)]
set_option maxHeartbeats 1000000 in
theorem count_any (A tb b o c : Nat) (l : List Cpu) (w : World) (ht : TopoAt w tb b o c l) (hA : A < 18446744073709551616) (hg : Good l) :
    Calls Try.prog 24 #[.pointer (some ⟨tb, 0, none⟩), .int .u64 A] w fun e w' => e = .returned (cntV A l l.length) ∧ Below w.heap.size w w' := by
  have hB0 := ((Below.refl w.heap.size w).alloc (Nat.le_refl _) (.cells #[.int .i64 0, .int .i64 0, .int .i64 0, .int .i64 0] 45))
  have hB00 := hB0.alloc hB0.size (.cells #[.int .i64 0, .int .i64 0, .int .i64 0, .int .i64 0] 45)
  have ht1 := ht.below hB00
  have HC := hideIt ht.cells
  have hT := ht1.cell
  have HLB := hideIt ht.lt
  have hl := ht.len
  have HG := hideIt hg
  have HB00 := hideIt hB00
  clear ht ht1 hB0 hB00 hg
  go_enter Try.func24, Try.ntmps24
  go_wp2_with fail
  go_loopw [13] (fun i wr => ∃ k : Nat, k ≤ l.length ∧ i = .int .i64 k ∧ Four wr w.heap.size 0 0 0 0 ∧ Four wr (w.heap.size + 1) (cntTo A l 0 k : Nat) (cntTo A l 1 k : Nat) (cntTo A l 2 k : Nat) (cntTo A l 3 k : Nat) ∧ Below w.heap.size w wr) (fun i _ => l.length - (intOf i).toNat)
  case atStart => exact ⟨0, by omega, rfl, (Four.made _ _ _ _ _ _).alloc _, by have := Four.made (w.alloc (.cells #[.int .i64 0, .int .i64 0, .int .i64 0, .int .i64 0] 45)) 45 0 0 0 0; simpa [cntTo] using this, HB00.out⟩
  case round =>
    obtain ⟨k, hk, rfl, h4, h5, hB⟩ := hrel
    by_cases hlt : k < l.length
    · obtain ⟨hcell0, hcell1, hcell2⟩ := (HC.out.below HLB.out hB) k hlt
      obtain ⟨g0, g3⟩ := HG.out.at hlt
      have HI := hideIt (has_in A k (wr.alloc (.cells #[.int .i64 (l.getD k cpu0).core, .int .i64 (l.getD k cpu0).sock, .int .i64 (l.getD k cpu0).node] 35)) hA (by omega))
      have hB1 := hB.alloc hB.size (.cells #[.int .i64 (l.getD k cpu0).core, .int .i64 (l.getD k cpu0).sock, .int .i64 (l.getD k cpu0).node] 35)
      have h41 := h4.alloc (.cells #[.int .i64 (l.getD k cpu0).core, .int .i64 (l.getD k cpu0).sock, .int .i64 (l.getD k cpu0).node] 35)
      have h51 := h5.alloc (.cells #[.int .i64 (l.getD k cpu0).core, .int .i64 (l.getD k cpu0).sock, .int .i64 (l.getD k cpu0).node] 35)
      have l0 := hideIt (cntTo_le A l 0 k)
      have l1 := hideIt (cntTo_le A l 1 k)
      have l2 := hideIt (cntTo_le A l 2 k)
      have l3 := hideIt (cntTo_le A l 3 k)
      have hN : (l.getD k cpu0).node = 0 ∨ (l.getD k cpu0).node = 1 ∨ (l.getD k cpu0).node = 2 ∨ (l.getD k cpu0).node = 3 := by omega
      rcases two (A.testBit k) with hb | hb
      · rw [hb] at HI
        rcases hN with hN | hN | hN | hN
        · have EJ := hideIt (cntTo_yes (l := l) (j := 0) hb hN)
          have E1 := hideIt (cntTo_other (s := A) (l := l) (k := k) (j := 1) (by rw [hN]; decide))
          have E2 := hideIt (cntTo_other (s := A) (l := l) (k := k) (j := 2) (by rw [hN]; decide))
          have E3 := hideIt (cntTo_other (s := A) (l := l) (k := k) (j := 3) (by rw [hN]; decide))
          have q0 := h51.c0
          have r0 := h51.f0
          have h41 := hideIt h41
          have h51 := hideIt h51
          clear hb h4 h5
          rw [hN] at hcell2 HI hB1 h41 h51 q0 r0
          clear hN g0 g3
          have m0 := l0.out
          generalize l.getD k cpu0 = x at *
          generalize hcz : cntTo A l 0 k = z at *
          go_wp2_with (go_at_call 50; refine HI.out.mono ?_; rintro e w' ⟨rfl, rfl⟩)
          go_roundw
          case rel =>
            refine ⟨k + 1, by omega, by go_num, h41.out.set_other (by simp) _, ?_, hB1.setCell (by simp) _⟩
            rw [EJ.out, E1.out, E2.out, E3.out]
            have := h51.out.set0 ((z : Int) + 1)
            simpa using this
          case measure => simp [intOf]; omega
        · have EJ := hideIt (cntTo_yes (l := l) (j := 1) hb hN)
          have E0 := hideIt (cntTo_other (s := A) (l := l) (k := k) (j := 0) (by rw [hN]; decide))
          have E2 := hideIt (cntTo_other (s := A) (l := l) (k := k) (j := 2) (by rw [hN]; decide))
          have E3 := hideIt (cntTo_other (s := A) (l := l) (k := k) (j := 3) (by rw [hN]; decide))
          have q0 := h51.c1
          have r0 := h51.f1
          have h41 := hideIt h41
          have h51 := hideIt h51
          clear hb h4 h5
          rw [hN] at hcell2 HI hB1 h41 h51 q0 r0
          clear hN g0 g3
          have m0 := l1.out
          generalize l.getD k cpu0 = x at *
          generalize hcz : cntTo A l 1 k = z at *
          go_wp2_with (go_at_call 50; refine HI.out.mono ?_; rintro e w' ⟨rfl, rfl⟩)
          go_roundw
          case rel =>
            refine ⟨k + 1, by omega, by go_num, h41.out.set_other (by simp) _, ?_, hB1.setCell (by simp) _⟩
            rw [EJ.out, E0.out, E2.out, E3.out]
            have := h51.out.set1 ((z : Int) + 1)
            simpa using this
          case measure => simp [intOf]; omega
        · have EJ := hideIt (cntTo_yes (l := l) (j := 2) hb hN)
          have E0 := hideIt (cntTo_other (s := A) (l := l) (k := k) (j := 0) (by rw [hN]; decide))
          have E1 := hideIt (cntTo_other (s := A) (l := l) (k := k) (j := 1) (by rw [hN]; decide))
          have E3 := hideIt (cntTo_other (s := A) (l := l) (k := k) (j := 3) (by rw [hN]; decide))
          have q0 := h51.c2
          have r0 := h51.f2
          have h41 := hideIt h41
          have h51 := hideIt h51
          clear hb h4 h5
          rw [hN] at hcell2 HI hB1 h41 h51 q0 r0
          clear hN g0 g3
          have m0 := l2.out
          generalize l.getD k cpu0 = x at *
          generalize hcz : cntTo A l 2 k = z at *
          go_wp2_with (go_at_call 50; refine HI.out.mono ?_; rintro e w' ⟨rfl, rfl⟩)
          go_roundw
          case rel =>
            refine ⟨k + 1, by omega, by go_num, h41.out.set_other (by simp) _, ?_, hB1.setCell (by simp) _⟩
            rw [EJ.out, E0.out, E1.out, E3.out]
            have := h51.out.set2 ((z : Int) + 1)
            simpa using this
          case measure => simp [intOf]; omega
        · have EJ := hideIt (cntTo_yes (l := l) (j := 3) hb hN)
          have E0 := hideIt (cntTo_other (s := A) (l := l) (k := k) (j := 0) (by rw [hN]; decide))
          have E1 := hideIt (cntTo_other (s := A) (l := l) (k := k) (j := 1) (by rw [hN]; decide))
          have E2 := hideIt (cntTo_other (s := A) (l := l) (k := k) (j := 2) (by rw [hN]; decide))
          have q0 := h51.c3
          have r0 := h51.f3
          have h41 := hideIt h41
          have h51 := hideIt h51
          clear hb h4 h5
          rw [hN] at hcell2 HI hB1 h41 h51 q0 r0
          clear hN g0 g3
          have m0 := l3.out
          generalize l.getD k cpu0 = x at *
          generalize hcz : cntTo A l 3 k = z at *
          go_wp2_with (go_at_call 50; refine HI.out.mono ?_; rintro e w' ⟨rfl, rfl⟩)
          go_roundw
          case rel =>
            refine ⟨k + 1, by omega, by go_num, h41.out.set_other (by simp) _, ?_, hB1.setCell (by simp) _⟩
            rw [EJ.out, E0.out, E1.out, E2.out]
            have := h51.out.set3 ((z : Int) + 1)
            simpa using this
          case measure => simp [intOf]; omega
      · rw [hb] at HI
        have E0 := hideIt (cntTo_out (l := l) (j := 0) hb)
        have E1 := hideIt (cntTo_out (l := l) (j := 1) hb)
        have E2 := hideIt (cntTo_out (l := l) (j := 2) hb)
        have E3 := hideIt (cntTo_out (l := l) (j := 3) hb)
        have h41 := hideIt h41
        have h51 := hideIt h51
        clear hb h4 h5 hN
        generalize l.getD k cpu0 = x at *
        go_wp2_with (go_at_call 50; refine HI.out.mono ?_; rintro e w' ⟨rfl, rfl⟩)
        go_roundw
        case rel => exact ⟨k + 1, by omega, by go_num, h41.out, by rw [E0.out, E1.out, E2.out, E3.out]; exact h51.out, hB1⟩
        case measure => simp [intOf]; omega
    · have hkl : k = l.length := by omega
      subst hkl
      clear hk hlt
      have q0 := h5.c0
      have q1 := h5.c1
      have q2 := h5.c2
      have q3 := h5.c3
      have p0 := h4.c0
      have p1 := h4.c1
      have p2 := h4.c2
      have p3 := h4.c3
      have r0 := h4.f0
      have r1 := h4.f1
      have r2 := h4.f2
      have r3 := h4.f3
      clear h4 h5
      go_wp2_with fail
      (try simp only [Exit.inBlock, Exit.then])
      refine bodyPost_ret (v := cntV A l l.length) ?_ rfl ⟨rfl, ?_⟩
      · unfold cntV
        rw [results_cell rfl]
        go_simp
      · exact (((hB.setCell (Nat.le_refl _) _).setCell (Nat.le_refl _) _).setCell (Nat.le_refl _) _).setCell (Nat.le_refl _) _
end Go.Proofs.Ytgooigfdlbpkeaa
