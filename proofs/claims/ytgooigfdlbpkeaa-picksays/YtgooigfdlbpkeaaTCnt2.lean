/- What the document's CountOn and Nodes, and (*Topo).Nodes, Of answer: contracts. -/
import Derived.Test.YtgooigfdlbpkeaaTCnt
namespace Go.Proofs.Ytgooigfdlbpkeaa
open Go.RowKit
open Ost (Cpu cpu0 chosenTo chosen)
theorem or8 (s n : Nat) (hs : s < 256) (hn : n < 8) : bits BinOp.or IntKind.u8 (s : Int) (IntKind.u8.wrap (2 ^ n)) = ((s ||| 2 ^ n : Nat) : Int) := by
  have key : ∀ (a : Fin 256) (b : Fin 8), bits BinOp.or IntKind.u8 ((a.val : Nat) : Int) (IntKind.u8.wrap (2 ^ b.val)) = ((a.val ||| 2 ^ b.val : Nat) : Int) := by decide +kernel
  exact key ⟨s, hs⟩ ⟨n, hn⟩
theorem or8m (s n : Nat) (hs : s < 256) (hn : n < 8) : bits BinOp.or IntKind.u8 (s : Int) (2 ^ n % 256) = ((s ||| 2 ^ n : Nat) : Int) := by
  have key : ∀ (a : Fin 256) (b : Fin 8), bits BinOp.or IntKind.u8 ((a.val : Nat) : Int) (2 ^ b.val % 256) = ((a.val ||| 2 ^ b.val : Nat) : Int) := by decide +kernel
  exact key ⟨s, hs⟩ ⟨n, hn⟩
/-- The nodes of the first ones. -/
def nodesTo (l : List Cpu) : Nat → Nat
  | 0 => 0
  | k + 1 => nodesTo l k ||| 2 ^ (l.getD k cpu0).node.toNat
theorem nodesTo_bit (l : List Cpu) (k j : Nat) : (nodesTo l k).testBit j = true ↔ ∃ i, i < k ∧ (l.getD i cpu0).node.toNat = j := by
  induction k with
  | zero => simp [nodesTo]
  | succ k ih =>
    rw [nodesTo, Nat.testBit_or, Bool.or_eq_true, ih, Nat.testBit_two_pow]
    constructor
    · rintro (⟨i, hi, h⟩ | h)
      · exact ⟨i, by omega, h⟩
      · exact ⟨k, by omega, by simpa using h⟩
    · rintro ⟨i, hi, h⟩
      by_cases e : i = k
      · subst e; right; simpa using h
      · left; exact ⟨i, by omega, h⟩
theorem nodesTo_lt (l : List Cpu) (hg : Good l) (k : Nat) (hk : k ≤ l.length) : nodesTo l k < 256 := by
  apply Nat.lt_pow_two_of_testBit (n := 8)
  intro i hi
  rw [Bool.eq_false_iff]
  intro h
  obtain ⟨j, hj, he⟩ := (nodesTo_bit l k i).1 h
  have := hg.at (k := j) (by omega)
  omega
/-- The nodes for which it is so. -/
def maskTo (f : Nat → Bool) : Nat → Nat
  | 0 => 0
  | k + 1 => if f k then maskTo f k ||| 2 ^ k else maskTo f k
theorem maskTo_bit (f : Nat → Bool) (k j : Nat) : (maskTo f k).testBit j = (decide (j < k) && f j) := by
  induction k with
  | zero => simp [maskTo]
  | succ k ih =>
    rw [maskTo]
    by_cases h : f k = true
    · rw [if_pos h, Nat.testBit_or, ih, Nat.testBit_two_pow]
      by_cases e : j = k
      · subst e; simp [h]
      · by_cases h2 : j < k
        · simp [h2, show j < k + 1 by omega, show ¬ k = j by omega]
        · simp [h2, show ¬ j < k + 1 by omega, show ¬ k = j by omega]
    · have h' : f k = false := by simpa using h
      rw [if_neg h, ih]
      by_cases e : j = k
      · subst e; simp [h']
      · by_cases h2 : j < k
        · simp [h2, show j < k + 1 by omega]
        · simp [h2, show ¬ j < k + 1 by omega]
theorem cntTo_pos (s : Nat) (l : List Cpu) (j : Int) (k : Nat) : 0 < cntTo s l j k ↔ ∃ i, i < k ∧ s.testBit i = true ∧ (l.getD i cpu0).node = j := by
  induction k with
  | zero => simp [cntTo]
  | succ k ih =>
    rw [cntTo]
    by_cases h : (s.testBit k && decide ((l.getD k cpu0).node = j)) = true
    · rw [if_pos h]
      simp only [Bool.and_eq_true, decide_eq_true_eq] at h
      exact ⟨fun _ => ⟨k, by omega, h.1, h.2⟩, fun _ => by omega⟩
    · rw [if_neg h, ih]
      constructor
      · rintro ⟨i, hi, r⟩; exact ⟨i, by omega, r⟩
      · rintro ⟨i, hi, r⟩
        by_cases e : i = k
        · subst e; exact absurd (by rw [r.1, r.2]; simp) h
        · exact ⟨i, by omega, r⟩
/-- The nodes that have some are the nodes that are named. -/
theorem nodes_eq (l : List Cpu) (hg : Good l) : maskTo (fun j => decide (0 < cntTo (chosen anyCpu l) l j l.length)) 4 = nodesTo l l.length := by
  apply Nat.eq_of_testBit_eq
  intro j
  rw [maskTo_bit, Bool.eq_iff_iff, nodesTo_bit, Bool.and_eq_true, decide_eq_true_eq, decide_eq_true_eq, cntTo_pos]
  constructor
  · rintro ⟨_, i, hi, _, hn⟩
    exact ⟨i, hi, by omega⟩
  · rintro ⟨i, hi, hn⟩
    have := hg.at hi
    exact ⟨by omega, i, hi, by rw [Ost.chosen_bit]; simp [anyCpu, hi], by omega⟩
set_option maxHeartbeats 1000000 in
theorem refCount_any (A b o c : Nat) (l : List Cpu) (w : World) (hcs : CellsAt w b o l) (hlb : b < w.heap.size) (hl : l.length ≤ 64) (hA : A < 18446744073709551616) (hg : Good l) :
    Calls Try.prog 25 #[.slice (some ⟨b, o, none⟩) l.length c, .int .u64 A] w fun e w' => e = .returned (cntV A l l.length) ∧ Below w.heap.size w w' := by
  have hB0 := ((Below.refl w.heap.size w).alloc (Nat.le_refl _) (.cells #[.int .i64 0, .int .i64 0, .int .i64 0, .int .i64 0] 45))
  have hB00 := hB0.alloc hB0.size (.cells #[.int .i64 0, .int .i64 0, .int .i64 0, .int .i64 0] 45)
  have HC := hideIt hcs
  have HLB := hideIt hlb
  have HG := hideIt hg
  have HB00 := hideIt hB00
  clear hB0 hB00 hg hlb hcs
  go_enter Try.func25, Try.ntmps25
  go_wp2_with fail
  go_loopw [6] (fun i wr => ∃ k : Nat, k ≤ l.length ∧ i = .int .i64 k ∧ Four wr w.heap.size 0 0 0 0 ∧ Four wr (w.heap.size + 1) (cntTo A l 0 k : Nat) (cntTo A l 1 k : Nat) (cntTo A l 2 k : Nat) (cntTo A l 3 k : Nat) ∧ Below w.heap.size w wr) (fun i _ => l.length - (intOf i).toNat)
  case atStart => exact ⟨0, by omega, rfl, (Four.made _ _ _ _ _ _).alloc _, by have := Four.made (w.alloc (.cells #[.int .i64 0, .int .i64 0, .int .i64 0, .int .i64 0] 45)) 45 0 0 0 0; simpa [cntTo] using this, HB00.out⟩
  case round =>
    obtain ⟨k, hk, rfl, h4, h5, hB⟩ := hrel
    by_cases hlt : k < l.length
    · obtain ⟨hcell0, hcell1, hcell2⟩ := (HC.out.below HLB.out hB) k hlt
      obtain ⟨g0, g3⟩ := HG.out.at hlt
      have HBit := bit_eq A k hA
      have l0 := hideIt (cntTo_le A l 0 k)
      have l1 := hideIt (cntTo_le A l 1 k)
      have l2 := hideIt (cntTo_le A l 2 k)
      have l3 := hideIt (cntTo_le A l 3 k)
      have hN : (l.getD k cpu0).node = 0 ∨ (l.getD k cpu0).node = 1 ∨ (l.getD k cpu0).node = 2 ∨ (l.getD k cpu0).node = 3 := by omega
      rcases two (A.testBit k) with hb | hb
      · rw [hb] at HBit
        rcases hN with hN | hN | hN | hN
        · have EJ := hideIt (cntTo_yes (l := l) (j := 0) hb hN)
          have E1 := hideIt (cntTo_other (s := A) (l := l) (k := k) (j := 1) (by rw [hN]; decide))
          have E2 := hideIt (cntTo_other (s := A) (l := l) (k := k) (j := 2) (by rw [hN]; decide))
          have E3 := hideIt (cntTo_other (s := A) (l := l) (k := k) (j := 3) (by rw [hN]; decide))
          have q0 := h5.c0
          have r0 := h5.f0
          have h41 := hideIt h4
          have h51 := hideIt h5
          clear hb h4 h5
          rw [hN] at hcell2
          clear hN g0 g3
          have m0 := l0.out
          generalize l.getD k cpu0 = x at *
          generalize hcz : cntTo A l 0 k = z at *
          go_wp2_with fail
          go_roundw
          case rel =>
            refine ⟨k + 1, by omega, by go_num, h41.out.set_other (by simp) _, ?_, hB.setCell (by simp) _⟩
            rw [EJ.out, E1.out, E2.out, E3.out]
            have := h51.out.set0 ((z : Int) + 1)
            simpa using this
          case measure => simp [intOf]; omega
        · have EJ := hideIt (cntTo_yes (l := l) (j := 1) hb hN)
          have E0 := hideIt (cntTo_other (s := A) (l := l) (k := k) (j := 0) (by rw [hN]; decide))
          have E2 := hideIt (cntTo_other (s := A) (l := l) (k := k) (j := 2) (by rw [hN]; decide))
          have E3 := hideIt (cntTo_other (s := A) (l := l) (k := k) (j := 3) (by rw [hN]; decide))
          have q0 := h5.c1
          have r0 := h5.f1
          have h41 := hideIt h4
          have h51 := hideIt h5
          clear hb h4 h5
          rw [hN] at hcell2
          clear hN g0 g3
          have m0 := l1.out
          generalize l.getD k cpu0 = x at *
          generalize hcz : cntTo A l 1 k = z at *
          go_wp2_with fail
          go_roundw
          case rel =>
            refine ⟨k + 1, by omega, by go_num, h41.out.set_other (by simp) _, ?_, hB.setCell (by simp) _⟩
            rw [EJ.out, E0.out, E2.out, E3.out]
            have := h51.out.set1 ((z : Int) + 1)
            simpa using this
          case measure => simp [intOf]; omega
        · have EJ := hideIt (cntTo_yes (l := l) (j := 2) hb hN)
          have E0 := hideIt (cntTo_other (s := A) (l := l) (k := k) (j := 0) (by rw [hN]; decide))
          have E1 := hideIt (cntTo_other (s := A) (l := l) (k := k) (j := 1) (by rw [hN]; decide))
          have E3 := hideIt (cntTo_other (s := A) (l := l) (k := k) (j := 3) (by rw [hN]; decide))
          have q0 := h5.c2
          have r0 := h5.f2
          have h41 := hideIt h4
          have h51 := hideIt h5
          clear hb h4 h5
          rw [hN] at hcell2
          clear hN g0 g3
          have m0 := l2.out
          generalize l.getD k cpu0 = x at *
          generalize hcz : cntTo A l 2 k = z at *
          go_wp2_with fail
          go_roundw
          case rel =>
            refine ⟨k + 1, by omega, by go_num, h41.out.set_other (by simp) _, ?_, hB.setCell (by simp) _⟩
            rw [EJ.out, E0.out, E1.out, E3.out]
            have := h51.out.set2 ((z : Int) + 1)
            simpa using this
          case measure => simp [intOf]; omega
        · have EJ := hideIt (cntTo_yes (l := l) (j := 3) hb hN)
          have E0 := hideIt (cntTo_other (s := A) (l := l) (k := k) (j := 0) (by rw [hN]; decide))
          have E1 := hideIt (cntTo_other (s := A) (l := l) (k := k) (j := 1) (by rw [hN]; decide))
          have E2 := hideIt (cntTo_other (s := A) (l := l) (k := k) (j := 2) (by rw [hN]; decide))
          have q0 := h5.c3
          have r0 := h5.f3
          have h41 := hideIt h4
          have h51 := hideIt h5
          clear hb h4 h5
          rw [hN] at hcell2
          clear hN g0 g3
          have m0 := l3.out
          generalize l.getD k cpu0 = x at *
          generalize hcz : cntTo A l 3 k = z at *
          go_wp2_with fail
          go_roundw
          case rel =>
            refine ⟨k + 1, by omega, by go_num, h41.out.set_other (by simp) _, ?_, hB.setCell (by simp) _⟩
            rw [EJ.out, E0.out, E1.out, E2.out]
            have := h51.out.set3 ((z : Int) + 1)
            simpa using this
          case measure => simp [intOf]; omega
      · rw [hb] at HBit
        have E0 := hideIt (cntTo_out (l := l) (j := 0) hb)
        have E1 := hideIt (cntTo_out (l := l) (j := 1) hb)
        have E2 := hideIt (cntTo_out (l := l) (j := 2) hb)
        have E3 := hideIt (cntTo_out (l := l) (j := 3) hb)
        have h41 := hideIt h4
        have h51 := hideIt h5
        clear hb h4 h5 hN
        generalize l.getD k cpu0 = x at *
        go_wp2_with fail
        go_roundw
        case rel => exact ⟨k + 1, by omega, by go_num, h41.out, by rw [E0.out, E1.out, E2.out, E3.out]; exact h51.out, hB⟩
        case measure => simp [intOf]; omega
    · have hkl : k = l.length := by omega
      subst hkl
      clear hk hlt
      have q0 := h5.c0
      have q1 := h5.c1
      have q2 := h5.c2
      have q3 := h5.c3
      have p0 := h4.c0
      have p1 := h4.c1
      have p2 := h4.c2
      have p3 := h4.c3
      have r0 := h4.f0
      have r1 := h4.f1
      have r2 := h4.f2
      have r3 := h4.f3
      clear h4 h5
      go_wp2_with fail
      (try simp only [Exit.inBlock, Exit.then])
      refine bodyPost_ret (v := cntV A l l.length) ?_ rfl ⟨rfl, ?_⟩
      · unfold cntV
        rw [results_cell rfl]
        go_simp
      · exact (((hB.setCell (Nat.le_refl _) _).setCell (Nat.le_refl _) _).setCell (Nat.le_refl _) _).setCell (Nat.le_refl _) _
set_option maxHeartbeats 1000000 in
theorem refNodes_any (b o c : Nat) (l : List Cpu) (w : World) (hcs : CellsAt w b o l) (hl : l.length ≤ 64) (hg : Good l) :
    Calls Try.prog 23 #[.slice (some ⟨b, o, none⟩) l.length c] w fun e w' => e = .returned (.int .u8 (nodesTo l l.length : Nat)) ∧ w' = w := by
  have HC := hideIt hcs
  have HG := hideIt hg
  clear hcs hg
  go_enter Try.func23, Try.ntmps23
  go_wp2_with fail
  go_loop [3, 4] (fun t i => ∃ k : Nat, k ≤ l.length ∧ i = .int .i64 k ∧ t = .int .u8 (nodesTo l k : Nat)) (fun _ i => l.length - (intOf i).toNat)
  case atStart => exact ⟨0, by omega, rfl, rfl⟩
  case round =>
    obtain ⟨k, hk, rfl, rfl⟩ := hrel
    by_cases hlt : k < l.length
    · obtain ⟨hcell0, hcell1, hcell2⟩ := HC.out k hlt
      obtain ⟨g0, g3⟩ := HG.out.at hlt
      have HO : Hid (bits BinOp.or IntKind.u8 (nodesTo l k : Nat) (2 ^ (l.getD k cpu0).node.toNat % 256) = ((nodesTo l (k + 1) : Nat) : Int)) := by
        unfold Hid; rw [or8m _ _ (nodesTo_lt l HG.out k (by omega)) (by omega), nodesTo]
      generalize l.getD k cpu0 = x at *
      go_wp2_with fail
      go_round
      case rel => exact ⟨k + 1, by omega, by go_num, by rw [← HO.out]⟩
      case measure => simp [intOf]; omega
    · have hkl : k = l.length := by omega
      have H : Hid (nodesTo l k = nodesTo l l.length) := by unfold Hid; rw [hkl]
      clear hkl
      go_wp2_with fail
      go_ret
      exact ⟨congrArg (fun z : Nat => Ending.returned (.int .u8 z)) H.out, rfl⟩
theorem maskTo_lt (f : Nat → Bool) (k : Nat) (hk : k ≤ 4) : maskTo f k < 256 := by
  apply Nat.lt_pow_two_of_testBit (n := 8)
  intro i hi
  rw [maskTo_bit]; simp [show ¬ i < k by omega]
theorem four_index (a b c d : Int) (w : World) : ∀ k : Nat, k < 4 → ∃ x, (Instr.index 45 (.agg #[.int .i64 a, .int .i64 b, .int .i64 c, .int .i64 d]) (.int .i64 k)).run Try.prog w = .ok (.int .i64 x) w ∧ x = [a, b, c, d].getD k 0 := by
  intro k hk
  have : k = 0 ∨ k = 1 ∨ k = 2 ∨ k = 3 := by omega
  rcases this with rfl | rfl | rfl | rfl
  · exact ⟨a, by kernel_rfl, rfl⟩
  · exact ⟨b, by kernel_rfl, rfl⟩
  · exact ⟨c, by kernel_rfl, rfl⟩
  · exact ⟨d, by kernel_rfl, rfl⟩
set_option maxRecDepth 100000 in
set_option maxHeartbeats 1000000 in
theorem nodes_any (tb b o c : Nat) (l : List Cpu) (w : World) (ht : TopoAt w tb b o c l) (hg : Good l) :
    Calls Try.prog 22 #[.pointer (some ⟨tb, 0, none⟩)] w fun e w' => e = .returned (.int .u8 (nodesTo l l.length : Nat)) ∧ Below w.heap.size w w' := by
  rw [← nodes_eq l hg]
  have HT := hideIt ht
  have HG := hideIt hg
  have hlA := Ost.chosenTo_lt anyCpu l l.length ht.len
  have HA := hideIt (all_any tb b o c l w ht)
  change chosen anyCpu l < _ at hlA
  generalize chosen anyCpu l = A at *
  obtain ⟨f, hf⟩ : ∃ f : Nat → Bool, f = fun (j : Nat) => decide (0 < cntTo A l j l.length) := ⟨_, rfl⟩
  rw [← hf]
  have HF : Hid (∀ j : Nat, f j = decide (0 < cntTo A l j l.length)) := fun j => by rw [hf]
  clear ht hg hf
  go_enter Try.func22, Try.ntmps22
  go_wp2_with fail
  refine HA.out.mono ?_
  rintro e w1 ⟨rfl, hb1⟩
  go_wp2_with fail
  refine (count_any A tb b o c l w1 (HT.out.below hb1) hlA HG.out).mono ?_
  rintro e w2 ⟨rfl, hb2⟩
  have hB := hb1.trans (hb2.mono hb1.size)
  have HX := hideIt (fun k hk => four_index (cntTo A l 0 l.length : Nat) (cntTo A l 1 l.length : Nat) (cntTo A l 2 l.length : Nat) (cntTo A l 3 l.length : Nat) w2 k hk)
  clear hb1 hb2 hlA
  unfold cntV
  go_wp2_with fail
  go_loop [3, 10] (fun t i => ∃ k : Nat, k ≤ 4 ∧ i = .int .i64 k ∧ t = .int .u8 (maskTo f k : Nat)) (fun _ i => 4 - (intOf i).toNat)
  case atStart => exact ⟨0, by omega, rfl, rfl⟩
  case round =>
    obtain ⟨k, hk, rfl, rfl⟩ := hrel
    by_cases hlt : k < 4
    · obtain ⟨x, hx, hxe⟩ := HX.out k hlt
      have hxk : x = (cntTo A l k l.length : Nat) := by
        rw [hxe]
        have : k = 0 ∨ k = 1 ∨ k = 2 ∨ k = 3 := by omega
        rcases this with rfl | rfl | rfl | rfl <;> rfl
      have HL := hideIt (maskTo_lt f k (by omega))
      have hfk := HF.out k
      clear hxe
      by_cases h0 : 0 < cntTo A l k l.length
      · have hx0 : 0 < x := by omega
        have HO : Hid (bits BinOp.or IntKind.u8 (maskTo f k : Nat) (2 ^ k % 256) = ((maskTo f (k + 1) : Nat) : Int)) := by
          unfold Hid; rw [or8m _ _ HL.out (by omega), maskTo, if_pos (by rw [hfk]; exact decide_eq_true h0)]
        clear hxk h0 hfk
        go_wp2_with fail
        go_round
        case rel => exact ⟨k + 1, by omega, by go_num, by rw [← HO.out]⟩
        case measure => simp [intOf]; omega
      · have hx0 : ¬ 0 < x := by omega
        have HO : Hid (maskTo f k = maskTo f (k + 1)) := by
          unfold Hid; rw [maskTo, if_neg (by rw [hfk]; simpa using h0)]
        clear hxk h0 hfk
        go_wp2_with fail
        go_round
        case rel => exact ⟨k + 1, by omega, by go_num, by rw [← HO.out]⟩
        case measure => simp [intOf]; omega
    · have hkl : k = 4 := by omega
      subst hkl
      clear hk hlt
      go_wp2_with fail
      go_ret
      exact ⟨rfl, hB⟩

set_option maxHeartbeats 1000000 in
theorem of_out (n : Int) (tb b o c : Nat) (l : List Cpu) (w : World) (ht : TopoAt w tb b o c l) (hn : n < 0 ∨ (l.length : Int) ≤ n) :
    Calls Try.prog 14 #[.pointer (some ⟨tb, 0, none⟩), .int .i64 n] w fun e w' => e = .returned (.tuple #[.agg #[.int .i64 0, .int .i64 0, .int .i64 0], .iface 78 (.int .i64 1)]) ∧ Below w.heap.size w w' := by
  have hB0 := ((Below.refl w.heap.size w).alloc (Nat.le_refl _) (.cells #[.int .i64 0, .int .i64 0, .int .i64 0] 35))
  have hT := (ht.below hB0).cell
  have hl := ht.len
  have HB0 := hideIt hB0
  clear ht hB0
  have key : n < 0 ∨ (0 ≤ n ∧ (l.length : Int) ≤ n) := by omega
  clear hn
  rcases key with h | ⟨h, h2⟩
  all_goals
    go_enter Try.func14, Try.ntmps14
    go_wp2_with fail
    (try simp only [Exit.inBlock, Exit.then])
    refine bodyPost_ret (v := .tuple #[.agg #[.int .i64 0, .int .i64 0, .int .i64 0], .iface 78 (.int .i64 1)]) ?_ rfl ⟨rfl, ?_⟩
    · rw [results_cell_tmp rfl]
      go_simp
    · exact HB0.out
set_option maxHeartbeats 1000000 in
theorem of_in (n : Nat) (tb b o c : Nat) (l : List Cpu) (w : World) (ht : TopoAt w tb b o c l) (hn : n < l.length) :
    Calls Try.prog 14 #[.pointer (some ⟨tb, 0, none⟩), .int .i64 n] w fun e w' => e = .returned (.tuple #[.agg #[.int .i64 (l.getD n cpu0).core, .int .i64 (l.getD n cpu0).sock, .int .i64 (l.getD n cpu0).node], .nilIface]) ∧ Below w.heap.size w w' := by
  have hB0 := ((Below.refl w.heap.size w).alloc (Nat.le_refl _) (.cells #[.int .i64 0, .int .i64 0, .int .i64 0] 35))
  have hT := (ht.below hB0).cell
  obtain ⟨hcell0, hcell1, hcell2⟩ := (ht.below hB0).cells n hn
  have hl := ht.len
  have HB0 := hideIt hB0
  clear ht hB0
  generalize l.getD n cpu0 = x at *
  go_enter Try.func14, Try.ntmps14
  go_wp2_with fail
  (try simp only [Exit.inBlock, Exit.then])
  refine bodyPost_ret (v := .tuple #[.agg #[.int .i64 x.core, .int .i64 x.sock, .int .i64 x.node], .nilIface]) ?_ rfl ⟨rfl, ?_⟩
  · rw [results_cell_tmp rfl]
    go_simp
  · exact (Below.refl w.heap.size w).alloc (Nat.le_refl _) _
end Go.Proofs.Ytgooigfdlbpkeaa
