/- What 'TopTopo' answers: true. -/
import Derived.Test.YtlpogejkmigimaaTSame
import Derived.Test.YtlpogejkmigimaaTTMath
import Derived.Test.YtlpogejkmigimaaTPop
namespace Go.Proofs.Ytlpogejkmigimaa
open Go.RowKit
open Ost (Cpu cpu0 chosen fault low at')
def one0 : List Cpu := [⟨0, 0, 0⟩]
theorem one0_fault : fault one0 = 0 := by decide +kernel
theorem one0_all : chosen anyCpu one0 = 1 := by decide +kernel
theorem chosen64 (p : Cpu → Bool) {l : List Cpu} (h : l.length ≤ 64) : chosen p l < 18446744073709551616 := Ost.chosenTo_lt p l _ h
theorem and64 (a b c : Nat) (ha : a < 18446744073709551616) (hb : b < 18446744073709551616) (h : a &&& b = c) : bits BinOp.and IntKind.u64 (a : Int) (b : Int) = (c : Int) := by
  rw [bits_and_u64_nat a b ha hb, h]
theorem or64 (a b c : Nat) (ha : a < 18446744073709551616) (hb : b < 18446744073709551616) (h : a ||| b = c) : bits BinOp.or IntKind.u64 (a : Int) (b : Int) = (c : Int) := by
  rw [bits_or_u64_nat a b ha hb, h]
theorem on_at {l : List Cpu} (hg : Good l) {k : Nat} (hk : k < 4) : chosen (onMask (2 ^ k)) l = at' (·.node) l k := by
  apply Ost.chosen_congr
  intro c hc
  have := hg c hc
  unfold onMask
  rw [Nat.testBit_two_pow, Bool.eq_iff_iff, decide_eq_true_eq, beq_iff_eq]
  show k = c.node.toNat ↔ c.node = (k : Int)
  omega
theorem node_some {l : List Cpu} (hg : Good l) (k : Nat) : (nodesTo l l.length).testBit k = decide (at' (·.node) l k ≠ 0) := by
  rw [Bool.eq_iff_iff, nodesTo_bit, decide_eq_true_eq, Ne, Ost.at_zero]
  constructor
  · rintro ⟨i, hi, h⟩ hn
    have := hg.at hi
    exact hn i hi (by omega)
  · intro h
    apply Classical.byContradiction
    intro hn
    apply h
    intro i hi he
    exact hn ⟨i, hi, by omega⟩
set_option maxRecDepth 100000 in
set_option maxHeartbeats 2000000 in
theorem topTopo_long (ao : Option Addr) (len c : Nat) (w : World) (h : 70 < len) :
    Calls Try.prog 6 #[.slice ao len c] w fun e w' => e = .returned (.bool true) ∧ Below w.heap.size w w' := by
  have hB0 := hideIt ((Below.refl w.heap.size w).alloc (Nat.le_refl _) (.cells #[.int .i64 0, .int .i64 0, .int .i64 0] 35))
  have hC : Hid (CpusAt (w.alloc (.cells #[.int .i64 0, .int .i64 0, .int .i64 0] 35)) (.slice (some ⟨w.heap.size, 0, none⟩) one0.length 1) one0) := by
    refine .inr ⟨w.heap.size, 0, 1, rfl, fun k hk => ?_⟩
    have : k = 0 := by simp [one0] at hk; omega
    subst this; simp [one0]
  go_enter Try.func6, Try.ntmps6
  go_wp2_with fail
  refine (new_any _ 1 one0 _ hC.out).mono ?_
  rintro e w1 ⟨hgood, _, hb1⟩
  obtain ⟨tb, g, c', rfl, ht⟩ := hgood one0_fault
  have hB1 := hB0.out.trans (hb1.mono hB0.out.size)
  have HT := hideIt ht
  clear ht hb1 hgood
  go_wp2_with fail
  refine (all_any tb g 0 c' one0 _ HT.out).mono ?_
  rintro e w2 ⟨rfl, hb2⟩
  have hB2 := hB1.trans (hb2.mono hB1.size)
  rw [one0_all]
  clear hb2 hB1 HT
  go_wp2_with fail
  go_ret
  exact ⟨rfl, hB2⟩
set_option maxRecDepth 100000 in
set_option maxHeartbeats 2000000 in
theorem topTopo_bad (ao : Option Addr) (c : Nat) (l : List Cpu) (w : World) (hv : CpusAt w (.slice ao l.length c) l) (h70 : l.length ≤ 70) (hf : 0 < fault l) :
    Calls Try.prog 6 #[.slice ao l.length c] w fun e w' => e = .returned (.bool true) ∧ Below w.heap.size w w' := by
  have hB0 := hideIt ((Below.refl w.heap.size w).alloc (Nat.le_refl _) (.cells #[.int .i64 0, .int .i64 0, .int .i64 0] 35))
  have HV := hideIt hv
  clear hv
  have hC : Hid (CpusAt (w.alloc (.cells #[.int .i64 0, .int .i64 0, .int .i64 0] 35)) (.slice (some ⟨w.heap.size, 0, none⟩) one0.length 1) one0) := by
    refine .inr ⟨w.heap.size, 0, 1, rfl, fun k hk => ?_⟩
    have : k = 0 := by simp [one0] at hk; omega
    subst this; simp [one0]
  go_enter Try.func6, Try.ntmps6
  go_wp2_with fail
  refine (new_any _ 1 one0 _ hC.out).mono ?_
  rintro e w1 ⟨hgood, _, hb1⟩
  obtain ⟨tb, g, c', rfl, ht⟩ := hgood one0_fault
  have hB1 := hB0.out.trans (hb1.mono hB0.out.size)
  have HT := hideIt ht
  clear ht hb1 hgood
  go_wp2_with fail
  refine (all_any tb g 0 c' one0 _ HT.out).mono ?_
  rintro e w2 ⟨rfl, hb2⟩
  have hB2 := hB1.trans (hb2.mono hB1.size)
  rw [one0_all]
  clear hb2 hB1 HT
  go_wp2_with fail
  refine (new_any ao c l w2 (HV.out.below hB2)).mono ?_
  rintro e w3 ⟨_, hbad, hb3⟩
  obtain rfl := hbad (by omega)
  have hB3 := hB2.trans (hb3.mono hB2.size)
  clear hB2 hb3 hbad HV
  generalize fault l = f at *
  go_wp2_with fail
  go_ret
  exact ⟨rfl, hB3⟩
set_option maxRecDepth 100000 in
set_option maxHeartbeats 4000000 in
theorem topTopo_good (ao : Option Addr) (c : Nat) (l : List Cpu) (w : World) (hv : CpusAt w (.slice ao l.length c) l) (hf : fault l = 0) :
    Calls Try.prog 6 #[.slice ao l.length c] w fun e w' => e = .returned (.bool true) ∧ Below w.heap.size w w' := by
  have hg := fault_Good hf
  have h64 := (Ost.fault_good hf).2.1
  have hB0 := hideIt ((Below.refl w.heap.size w).alloc (Nat.le_refl _) (.cells #[.int .i64 0, .int .i64 0, .int .i64 0] 35))
  have HV := hideIt hv
  have HF := hideIt hf
  have HG := hideIt hg
  have z1 : low (·.core) l 0 = 0 := Ost.low_zero (fun x hx => (hg x hx).1)
  have z2 : low (·.sock) l 0 = 0 := Ost.low_zero (fun x hx => (hg x hx).2.2.1)
  have z3 : low (·.node) l 0 = 0 := Ost.low_zero (fun x hx => (hg x hx).2.2.2.2.1)
  have a1 : low (·.core) l 64 = chosen anyCpu l := Ost.low_all (fun x hx => by have := hg x hx; omega)
  have a2 : low (·.sock) l 64 = chosen anyCpu l := Ost.low_all (fun x hx => by have := hg x hx; omega)
  have a3 : low (·.node) l 64 = chosen anyCpu l := Ost.low_all (fun x hx => by have := hg x hx; omega)
  have HZ := hideIt (And.intro z1 (And.intro z2 z3))
  have HA := hideIt (And.intro a1 (And.intro a2 a3))
  clear hv hf hg z1 z2 z3 a1 a2 a3
  have hC : Hid (CpusAt (w.alloc (.cells #[.int .i64 0, .int .i64 0, .int .i64 0] 35)) (.slice (some ⟨w.heap.size, 0, none⟩) one0.length 1) one0) := by
    refine .inr ⟨w.heap.size, 0, 1, rfl, fun k hk => ?_⟩
    have : k = 0 := by simp [one0] at hk; omega
    subst this; simp [one0]
  go_enter Try.func6, Try.ntmps6
  go_wp2_with fail
  refine (new_any _ 1 one0 _ hC.out).mono ?_
  rintro e w1 ⟨hgood, _, hb1⟩
  obtain ⟨tb, g, c', rfl, ht⟩ := hgood one0_fault
  have hB1 := hB0.out.trans (hb1.mono hB0.out.size)
  have HT := hideIt ht
  clear ht hb1 hgood
  go_wp2_with fail
  refine (all_any tb g 0 c' one0 _ HT.out).mono ?_
  rintro e w2 ⟨rfl, hb2⟩
  have hB2 := hB1.trans (hb2.mono hB1.size)
  rw [one0_all]
  clear hb2 hB1 HT
  go_wp2_with fail
  refine (new_any ao c l w2 (HV.out.below hB2)).mono ?_
  rintro e w3 ⟨hgood, _, hb3⟩
  obtain ⟨tb, g, c', rfl, ht⟩ := hgood HF.out
  have hB3 := hideIt (hB2.trans (hb3.mono hB2.size))
  have HT3 := hideIt ht
  clear hB2 hb3 HV hgood ht
  go_wp2_with fail
  go_loopw [5, 6, 7, 8] (fun tc ts tn i wr => ∃ k : Nat, k ≤ 64 ∧ tc = .int .u64 (low (·.core) l k : Nat) ∧ ts = .int .u64 (low (·.sock) l k : Nat) ∧ tn = .int .u64 (low (·.node) l k : Nat) ∧ i = .int .i64 k ∧ Hid (TopoAt wr tb g 0 c' l) ∧ Below w.heap.size w wr) (fun _ _ _ i _ => 64 - (intOf i).toNat)
  case atStart => exact ⟨0, by omega, by rw [HZ.out.1]; rfl, by rw [HZ.out.2.1]; rfl, by rw [HZ.out.2.2]; rfl, rfl, HT3.out, hB3.out⟩
  case round =>
    obtain ⟨k, hk, rfl, rfl, rfl, rfl, HT, hB⟩ := hrel
    clear HT3 hB3
    by_cases hlt : k < 64
    · have HCo : Hid (Calls Try.prog 16 #[.pointer (some ⟨tb, 0, none⟩), .int .i64 k] wr fun e w' => e = .returned (.int .u64 (at' (·.core) l k : Nat)) ∧ Below wr.heap.size wr w') := core_any tb g 0 c' l k wr HT.out
      have hC := chosen64 (fun x => x.core == (k : Int)) h64
      change at' (·.core) l k < _ at hC
      have hK := chosen64 (fun x => x.sock == (k : Int)) h64
      change at' (·.sock) l k < _ at hK
      have e1 := and64 _ _ 0 (chosen64 _ h64) hC (Ost.low_and (·.core) l k)
      have e2 := and64 _ _ 0 (chosen64 _ h64) hK (Ost.low_and (·.sock) l k)
      have o1 := or64 _ _ _ (chosen64 _ h64) hC (Ost.low_or (·.core) l k)
      have o2 := or64 _ _ _ (chosen64 _ h64) hK (Ost.low_or (·.sock) l k)
      have H1 := hideIt (And.intro e1 (And.intro e2 (And.intro o1 o2)))
      clear e1 e2 o1 o2
      go_wp2_with fail
      refine HCo.out.mono ?_
      rintro e u1 ⟨rfl, hb1⟩
      have HT1 := hideIt (HT.out.below hb1)
      have hB1 := hB.trans (hb1.mono hB.size)
      clear hb1 HT hB HCo
      have HSo : Hid (Calls Try.prog 18 #[.pointer (some ⟨tb, 0, none⟩), .int .i64 k] u1 fun e w' => e = .returned (.int .u64 (at' (·.sock) l k : Nat)) ∧ Below u1.heap.size u1 w') := sock_any tb g 0 c' l k u1 HT1.out
      go_wp2_with fail
      refine HSo.out.mono ?_
      rintro e u2 ⟨rfl, hb1⟩
      have HT2 := hideIt (HT1.out.below hb1)
      have hB2 := hB1.trans (hb1.mono hB1.size)
      clear hb1 HT1 hB1 HSo
      obtain ⟨e1, e2, o1, o2⟩ := H1.out
      clear H1
      change bits BinOp.and IntKind.u64 (low (·.core) l k : Nat) _ = 0 at e1
      change bits BinOp.and IntKind.u64 (low (·.sock) l k : Nat) _ = 0 at e2
      change bits BinOp.or IntKind.u64 (low (·.core) l k : Nat) _ = _ at o1
      change bits BinOp.or IntKind.u64 (low (·.sock) l k : Nat) _ = _ at o2
      by_cases h4 : k < 4
      · have hp : (2 ^ k % 256 : Int) = ((2 ^ k : Nat) : Int) := by
          have : k = 0 ∨ k = 1 ∨ k = 2 ∨ k = 3 := by omega
          rcases this with rfl | rfl | rfl | rfl <;> rfl
        have hp2 : (2 ^ k : Nat) < 256 := by
          have : k = 0 ∨ k = 1 ∨ k = 2 ∨ k = 3 := by omega
          rcases this with rfl | rfl | rfl | rfl <;> decide
        have HOn : Hid (Calls Try.prog 20 #[.pointer (some ⟨tb, 0, none⟩), .int .u8 (2 ^ k % 256)] u2 fun e w' => e = .returned (.int .u64 (at' (·.node) l k : Nat)) ∧ Below u2.heap.size u2 w') := by
          unfold Hid
          rw [hp, ← on_at HG.out h4]
          exact on_any tb g 0 c' l (2 ^ k) u2 HT2.out HG.out hp2
        have hM := chosen64 (fun x => x.node == (k : Int)) h64
        change at' (·.node) l k < _ at hM
        have e3 := and64 _ _ 0 (chosen64 _ h64) hM (Ost.low_and (·.node) l k)
        have o3 := or64 _ _ _ (chosen64 _ h64) hM (Ost.low_or (·.node) l k)
        change bits BinOp.and IntKind.u64 (low (·.node) l k : Nat) _ = 0 at e3
        change bits BinOp.or IntKind.u64 (low (·.node) l k : Nat) _ = _ at o3
        have hb8 := bit8 (nodesTo l l.length) k (nodesTo_lt l HG.out _ (Nat.le_refl _))
        rw [node_some HG.out k] at hb8
        have hMn : ((at' (·.node) l k : Int) != 0) = decide (at' (·.node) l k ≠ 0) := by
          rw [Bool.eq_iff_iff, bne_iff_ne, decide_eq_true_eq]; omega
        have HP := hideIt (And.intro hb8 hMn)
        clear hp hp2 hb8 hMn
        go_wp2_with fail
        refine HOn.out.mono ?_
        rintro e u3 ⟨rfl, hb1⟩
        have HT3 := hideIt (HT2.out.below hb1)
        have hB3 := hB2.trans (hb1.mono hB2.size)
        clear hb1 HT2 hB2 HOn
        go_wp2_with fail
        refine (nodes_any tb g 0 c' l u3 HT3.out HG.out).mono ?_
        rintro e u4 ⟨rfl, hb1⟩
        have HT4 := hideIt (HT3.out.below hb1)
        have hB4 := hB3.trans (hb1.mono hB3.size)
        clear hb1 HT3 hB3
        obtain ⟨hb8, hMn⟩ := HP.out
        clear HP
        generalize decide (at' (·.node) l k ≠ 0) = bn at hb8 hMn
        cases bn
        all_goals
          go_wp2_with fail
          clear e1 e2 e3 hb8 hMn
          go_loopw [12] (fun i wi => ∃ j : Nat, j ≤ 64 ∧ i = .int .i64 j ∧ Hid (TopoAt wi tb g 0 c' l) ∧ Below w.heap.size w wi) (fun i _ => 64 - (intOf i).toNat)
          case atStart => exact ⟨0, by omega, rfl, HT4.out, hB4⟩
          case round =>
            obtain ⟨j, hj, rfl, HTi, hBi⟩ := hrel
            clear HT4 hB4
            by_cases hj64 : j < 64
            · have HSo : Hid (Calls Try.prog 18 #[.pointer (some ⟨tb, 0, none⟩), .int .i64 j] wr fun e w' => e = .returned (.int .u64 (at' (·.sock) l j : Nat)) ∧ Below wr.heap.size wr w') := sock_any tb g 0 c' l j wr HTi.out
              have hS := chosen64 (fun x => x.sock == (j : Int)) h64
              change at' (·.sock) l j < _ at hS
              have HCS := hideIt (Ost.core_sock HF.out k j)
              generalize at' (·.sock) l j = S at *
              generalize at' (·.core) l k = C at *
              go_wp2_with fail
              refine HSo.out.mono ?_
              rintro e u9 ⟨rfl, hb9⟩
              have HT9 := hideIt (HTi.out.below hb9)
              have hB9 := hBi.trans (hb9.mono hBi.size)
              clear hb9 HSo HTi hBi
              by_cases hC0 : C = 0
              · have q1 : ((C : Int) != 0) = false := by rw [hC0]; rfl
                clear hC0 HCS
                go_wp2_with fail
                go_roundw
                case rel => exact ⟨j + 1, by omega, by go_num, HT9, hB9⟩
                case measure => simp [intOf]; omega
              · have q1 : ((C : Int) != 0) = true := by rw [bne_iff_ne]; omega
                by_cases hCS : C &&& S = 0
                · have q2 : bits BinOp.and IntKind.u64 (C : Int) (S : Int) = 0 := and64 C S 0 hC hS hCS
                  clear hC0 hCS HCS
                  go_wp2_with fail
                  go_roundw
                  case rel => exact ⟨j + 1, by omega, by go_num, HT9, hB9⟩
                  case measure => simp [intOf]; omega
                · have q2 : bits BinOp.and IntKind.u64 (C : Int) (S : Int) = (C : Int) := and64 C S C hC hS (HCS.out hCS)
                  clear hC0 hCS HCS
                  go_wp2_with fail
                  go_roundw
                  case rel => exact ⟨j + 1, by omega, by go_num, HT9, hB9⟩
                  case measure => simp [intOf]; omega
            · have hj2 : j = 64 := by omega
              subst hj2
              clear hj hj64
              go_wp2_with fail
              go_roundw
              case rel => exact ⟨k + 1, by omega, by rw [← o1], by rw [← o2], by rw [← o3], by go_num, HTi, hBi⟩
              case measure => simp [intOf]; omega
      · have o3 : Hid (low (·.node) l k = low (·.node) l (k + 1)) := Ost.low_stay (fun x hx => by have := HG.out x hx; omega)
        go_wp2_with fail
        clear e1 e2
        go_loopw [12] (fun i wi => ∃ j : Nat, j ≤ 64 ∧ i = .int .i64 j ∧ Hid (TopoAt wi tb g 0 c' l) ∧ Below w.heap.size w wi) (fun i _ => 64 - (intOf i).toNat)
        case atStart => exact ⟨0, by omega, rfl, HT2.out, hB2⟩
        case round =>
          obtain ⟨j, hj, rfl, HTi, hBi⟩ := hrel
          clear HT2 hB2
          by_cases hj64 : j < 64
          · have HSo : Hid (Calls Try.prog 18 #[.pointer (some ⟨tb, 0, none⟩), .int .i64 j] wr fun e w' => e = .returned (.int .u64 (at' (·.sock) l j : Nat)) ∧ Below wr.heap.size wr w') := sock_any tb g 0 c' l j wr HTi.out
            have hS := chosen64 (fun x => x.sock == (j : Int)) h64
            change at' (·.sock) l j < _ at hS
            have HCS := hideIt (Ost.core_sock HF.out k j)
            generalize at' (·.sock) l j = S at *
            generalize at' (·.core) l k = C at *
            go_wp2_with fail
            refine HSo.out.mono ?_
            rintro e u9 ⟨rfl, hb9⟩
            have HT9 := hideIt (HTi.out.below hb9)
            have hB9 := hBi.trans (hb9.mono hBi.size)
            clear hb9 HSo HTi hBi
            by_cases hC0 : C = 0
            · have q1 : ((C : Int) != 0) = false := by rw [hC0]; rfl
              clear hC0 HCS
              go_wp2_with fail
              go_roundw
              case rel => exact ⟨j + 1, by omega, by go_num, HT9, hB9⟩
              case measure => simp [intOf]; omega
            · have q1 : ((C : Int) != 0) = true := by rw [bne_iff_ne]; omega
              by_cases hCS : C &&& S = 0
              · have q2 : bits BinOp.and IntKind.u64 (C : Int) (S : Int) = 0 := and64 C S 0 hC hS hCS
                clear hC0 hCS HCS
                go_wp2_with fail
                go_roundw
                case rel => exact ⟨j + 1, by omega, by go_num, HT9, hB9⟩
                case measure => simp [intOf]; omega
              · have q2 : bits BinOp.and IntKind.u64 (C : Int) (S : Int) = (C : Int) := and64 C S C hC hS (HCS.out hCS)
                clear hC0 hCS HCS
                go_wp2_with fail
                go_roundw
                case rel => exact ⟨j + 1, by omega, by go_num, HT9, hB9⟩
                case measure => simp [intOf]; omega
          · have hj2 : j = 64 := by omega
            subst hj2
            clear hj hj64
            go_wp2_with fail
            go_roundw
            case rel => exact ⟨k + 1, by omega, by rw [← o1], by rw [← o2], by rw [← o3.out], by go_num, HTi, hBi⟩
            case measure => simp [intOf]; omega
    · have hk64 : k = 64 := by omega
      subst hk64
      clear hk hlt
      go_wp2_with fail
      refine (all_any tb g 0 c' l wr HT.out).mono ?_
      rintro e u1 ⟨rfl, hb1⟩
      have HT1 := hideIt (HT.out.below hb1)
      have hB1 := hB.trans (hb1.mono hB.size)
      clear hb1 HT hB
      rw [HA.out.1, HA.out.2.1, HA.out.2.2]
      go_wp2_with fail
      refine (all_any tb g 0 c' l u1 HT1.out).mono ?_
      rintro e u2 ⟨rfl, hb1⟩
      have HT2 := hideIt (HT1.out.below hb1)
      have hB2 := hB1.trans (hb1.mono hB1.size)
      clear hb1 HT1 hB1
      go_wp2_with fail
      refine (all_any tb g 0 c' l u2 HT2.out).mono ?_
      rintro e u3 ⟨rfl, hb1⟩
      have HT3 := hideIt (HT2.out.below hb1)
      have hB3 := hB2.trans (hb1.mono hB2.size)
      clear hb1 HT2 hB2
      go_wp2_with fail
      refine (all_any tb g 0 c' l u3 HT3.out).mono ?_
      rintro e u4 ⟨rfl, hb1⟩
      have hB4 := hB3.trans (hb1.mono hB3.size)
      clear hb1 HT3 hB3
      have hcnt : ((Ost.listTo (chosen anyCpu l) 64).length : Nat) = l.length := by
        have := Ost.listTo_all l 64
        rw [show chosen anyCpu l = chosen (fun _ => true) l from rfl, this]; omega
      have HCn := hideIt (bitsCount_any (chosen anyCpu l) u4 (chosen64 _ h64))
      rw [hcnt] at HCn
      clear hcnt
      go_wp2_with fail
      refine HCn.out.mono ?_
      rintro e u5 ⟨rfl, rfl⟩
      go_wp2_with fail
      go_ret
      exact ⟨rfl, hB4⟩
end Go.Proofs.Ytlpogejkmigimaa
