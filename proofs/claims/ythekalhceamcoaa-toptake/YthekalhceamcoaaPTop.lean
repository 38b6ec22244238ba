/- What 'TopTake' answers: true. -/
import Derived.Test.YthekalhceamcoaaPW2
namespace Go.Proofs.Ythekalhceamcoaa
open Go.RowKit
open Ost (Cpu cpu0 chosen fault cnt coreAt takeOut)
def one0 : List Cpu := [⟨0, 0, 0⟩]
theorem one0_fault : fault one0 = 0 := by decide +kernel
theorem one0_take : takeOut one0 1 1 (chosen (onMask 1) one0) = (1, 0) := by decide +kernel
set_option maxRecDepth 100000 in
set_option maxHeartbeats 2000000 in
theorem topTake_long (ao : Option Addr) (len c : Nat) (A L m : Int) (w : World) (h : 70 < len) :
    Calls Try.prog 4 #[.slice ao len c, .int .u64 A, .int .i64 L, .int .u8 m] w fun e w' => e = .returned (.bool true) ∧ Below w.heap.size w w' := by
  have hB0 := hideIt ((Below.refl w.heap.size w).alloc (Nat.le_refl _) (.cells #[.int .i64 0, .int .i64 0, .int .i64 0] 40))
  have hC : Hid (CpusAt (w.alloc (.cells #[.int .i64 0, .int .i64 0, .int .i64 0] 40)) (.slice (some ⟨w.heap.size, 0, none⟩) one0.length 1) one0) := by
    refine .inr ⟨w.heap.size, 0, 1, rfl, fun k hk => ?_⟩
    have : k = 0 := by simp [one0] at hk; omega
    subst this; simp [one0]
  go_enter Try.func4, Try.ntmps4
  go_wp2_with fail
  refine (new_any _ 1 one0 _ hC.out).mono ?_
  rintro e w1 ⟨hgood, _, hb1⟩
  obtain ⟨tb, g, c', rfl, ht⟩ := hgood one0_fault
  have hB1 := hB0.out.trans (hb1.mono hB0.out.size)
  have HT := hideIt (take_any tb g 0 c' 1 1 1 one0 w1 ht (fault_Good one0_fault) (by omega) (by omega))
  rw [one0_take, tookV_0] at HT
  clear ht hb1 hgood
  go_wp2_with fail
  refine HT.out.mono ?_
  rintro e w2 ⟨rfl, hb2⟩
  have hB2 := hB1.trans (hb2.mono hB1.size)
  clear hb2 hB1 HT
  go_wp2_with fail
  go_ret
  exact ⟨rfl, hB2⟩
set_option maxRecDepth 100000 in
set_option maxHeartbeats 2000000 in
theorem topTake_bad (ao : Option Addr) (c : Nat) (l : List Cpu) (A L m : Int) (w : World) (hv : CpusAt w (.slice ao l.length c) l) (h70 : l.length ≤ 70) (hf : 0 < fault l) :
    Calls Try.prog 4 #[.slice ao l.length c, .int .u64 A, .int .i64 L, .int .u8 m] w fun e w' => e = .returned (.bool true) ∧ Below w.heap.size w w' := by
  have hB0 := hideIt ((Below.refl w.heap.size w).alloc (Nat.le_refl _) (.cells #[.int .i64 0, .int .i64 0, .int .i64 0] 40))
  have HV := hideIt hv
  clear hv
  have hC : Hid (CpusAt (w.alloc (.cells #[.int .i64 0, .int .i64 0, .int .i64 0] 40)) (.slice (some ⟨w.heap.size, 0, none⟩) one0.length 1) one0) := by
    refine .inr ⟨w.heap.size, 0, 1, rfl, fun k hk => ?_⟩
    have : k = 0 := by simp [one0] at hk; omega
    subst this; simp [one0]
  go_enter Try.func4, Try.ntmps4
  go_wp2_with fail
  refine (new_any _ 1 one0 _ hC.out).mono ?_
  rintro e w1 ⟨hgood, _, hb1⟩
  obtain ⟨tb, g, c', rfl, ht⟩ := hgood one0_fault
  have hB1 := hB0.out.trans (hb1.mono hB0.out.size)
  have HT := hideIt (take_any tb g 0 c' 1 1 1 one0 w1 ht (fault_Good one0_fault) (by omega) (by omega))
  rw [one0_take, tookV_0] at HT
  clear ht hb1 hgood
  go_wp2_with fail
  refine HT.out.mono ?_
  rintro e w2 ⟨rfl, hb2⟩
  have hB2 := hB1.trans (hb2.mono hB1.size)
  clear hb2 hB1 HT
  go_wp2_with fail
  refine (new_any ao c l w2 (HV.out.below hB2)).mono ?_
  rintro e w3 ⟨_, hbad, hb3⟩
  obtain rfl := hbad (by omega)
  have hB3 := hB2.trans (hb3.mono hB2.size)
  clear hB2 hb3 hbad HV
  generalize fault l = f at *
  go_wp2_with fail
  go_ret
  exact ⟨rfl, hB3⟩
/-- What is given where something is given. -/
theorem take_ok {l : List Cpu} (hf : fault l = 0) {A mm : Nat} (hA : A < 18446744073709551616) {L : Int} (h0 : 0 ≤ L) (h64 : L ≤ 64) (hin : A &&& chosen anyCpu l = A) (hc : L ≤ cnt A) :
    ∃ s, takeOut l A L mm = (s, 0) ∧ s < 18446744073709551616 ∧ (cnt s : Int) = L ∧ s &&& A = s ∧ (cnt (s &&& mm) : Int) = min L (cnt (A &&& mm)) ∧
      ∀ n, n < 64 → coreAt l n ≠ 0 → coreAt l n &&& (A &&& mm) = coreAt l n → (cnt (coreAt l n) : Int) = L → ∃ k, k < 64 ∧ coreAt l k ≠ 0 ∧ coreAt l k &&& s = coreAt l k := by
  obtain ⟨h1, h2, h3⟩ := Ost.take_facts (l := l) mm h0 hc _ rfl
  refine ⟨_, Ost.take_good mm h0 h64 hin hc, Ost.sub_lt hA h2, h1, h2, h3, fun n hn hn0 hni hnc => ?_⟩
  obtain ⟨k, hk, hk0, hks⟩ := Ost.some_core hf hn hn0 hni hnc
  exact ⟨k, hk, hk0, Ost.sub_trans hks (Ost.sub_or _ _)⟩
/-- Is one of the first ones whole in a set? -/
def wTo (f : Nat → Nat) (s : Nat) : Nat → Bool
  | 0 => false
  | k + 1 => wTo f s k || (decide (f k = s) || (decide (f k ||| s = s) && decide (f k ≠ 0)))
theorem wTo_mono {f : Nat → Nat} {s k : Nat} (h : wTo f s k = true) (j : Nat) : wTo f s (k + j) = true := by
  induction j with
  | zero => exact h
  | succ j ih => rw [← Nat.add_assoc, wTo, ih]; rfl
theorem wTo_true {f : Nat → Nat} {s k : Nat} (hk : k < 64) (h0 : f k ≠ 0) (hs : f k &&& s = f k) : wTo f s 64 = true := by
  have e : f k ||| s = s := by
    apply Nat.eq_of_testBit_eq
    intro i
    rw [Nat.testBit_or]
    have := (Ost.sub_iff _ _).1 hs i
    cases hf : (f k).testBit i with
    | true => rw [this hf]; rfl
    | false => rfl
  have h1 : wTo f s (k + 1) = true := by rw [wTo, decide_eq_true e, decide_eq_true h0]; simp
  have := wTo_mono h1 (63 - k)
  rwa [show k + 1 + (63 - k) = 64 by omega] at this
theorem wTo_step (f : Nat → Nat) (s k : Nat) : wTo f s (k + 1) = (wTo f s k || (decide (f k = s) || (decide (f k ||| s = s) && decide (f k ≠ 0)))) := rfl
set_option maxRecDepth 100000 in
set_option maxHeartbeats 4000000 in
theorem topTake_out (ao : Option Addr) (c : Nat) (l : List Cpu) (A m : Nat) (L : Int) (w : World) (hv : CpusAt w (.slice ao l.length c) l) (hf : fault l = 0) (hm : m < 256) (hA : A < 18446744073709551616) (hL : L < 0 ∨ 64 < L) :
    Calls Try.prog 4 #[.slice ao l.length c, .int .u64 A, .int .i64 L, .int .u8 m] w fun e w' => e = .returned (.bool true) ∧ Below w.heap.size w w' := by
  have hg := fault_Good hf
  have h64 := (Ost.fault_good hf).2.1
  have HF := hideIt hf
  have HG := hideIt hg
  have hB0 := hideIt ((Below.refl w.heap.size w).alloc (Nat.le_refl _) (.cells #[.int .i64 0, .int .i64 0, .int .i64 0] 40))
  have HV := hideIt hv
  clear hv
  have hC : Hid (CpusAt (w.alloc (.cells #[.int .i64 0, .int .i64 0, .int .i64 0] 40)) (.slice (some ⟨w.heap.size, 0, none⟩) one0.length 1) one0) := by
    refine .inr ⟨w.heap.size, 0, 1, rfl, fun k hk => ?_⟩
    have : k = 0 := by simp [one0] at hk; omega
    subst this; simp [one0]
  go_enter Try.func4, Try.ntmps4
  go_wp2_with fail
  refine (new_any _ 1 one0 _ hC.out).mono ?_
  rintro e w1 ⟨hgood, _, hb1⟩
  obtain ⟨tb, g, c', rfl, ht⟩ := hgood one0_fault
  have hB1 := hB0.out.trans (hb1.mono hB0.out.size)
  have HT := hideIt (take_any tb g 0 c' 1 1 1 one0 w1 ht (fault_Good one0_fault) (by omega) (by omega))
  rw [one0_take, tookV_0] at HT
  clear ht hb1 hgood
  go_wp2_with fail
  refine HT.out.mono ?_
  rintro e w2 ⟨rfl, hb2⟩
  have hB2 := hB1.trans (hb2.mono hB1.size)
  clear hb2 hB1 HT
  go_wp2_with fail
  refine (new_any ao c l w2 (HV.out.below hB2)).mono ?_
  rintro e w3 ⟨hgood, _, hb3⟩
  obtain ⟨tb, g, c', rfl, ht⟩ := hgood HF.out
  have hB3 := hideIt (hB2.trans (hb3.mono hB2.size))
  have HT3 := hideIt ht
  clear hB2 hb3 HV hgood ht hg hf
  have HTk := hideIt (take_any tb g 0 c' A m L l w3 HT3.out HG.out hA hm)
  have HE : Hid (takeOut l A L (chosen (onMask m) l) = (0, 1)) := by unfold Hid takeOut; rw [if_pos (by omega)]
  rw [HE.out, tookV_1] at HTk
  clear HE
  have key : L < 0 ∨ (0 ≤ L ∧ 64 < L) := by omega
  clear hL
  go_wp2_with fail
  refine HTk.out.mono ?_
  rintro e w4 ⟨rfl, hb⟩
  have HT4 := hideIt (HT3.out.below hb)
  have hB4 := hideIt (hB3.out.trans (hb.mono hB3.out.size))
  clear HT3 hb hB3 HTk
  rcases key with h | ⟨h, h2⟩
  all_goals
    go_wp2_with fail
    go_ret
    exact ⟨rfl, hB4.out⟩
set_option maxRecDepth 100000 in
set_option maxHeartbeats 4000000 in
theorem topTake_strange (ao : Option Addr) (c : Nat) (l : List Cpu) (A m : Nat) (L : Int) (w : World) (hv : CpusAt w (.slice ao l.length c) l) (hf : fault l = 0) (hm : m < 256) (hA : A < 18446744073709551616) (h0 : 0 ≤ L) (hL : L ≤ 64) (hin : ¬ A &&& chosen anyCpu l = A) :
    Calls Try.prog 4 #[.slice ao l.length c, .int .u64 A, .int .i64 L, .int .u8 m] w fun e w' => e = .returned (.bool true) ∧ Below w.heap.size w w' := by
  have hg := fault_Good hf
  have h64 := (Ost.fault_good hf).2.1
  have HF := hideIt hf
  have HG := hideIt hg
  have hB0 := hideIt ((Below.refl w.heap.size w).alloc (Nat.le_refl _) (.cells #[.int .i64 0, .int .i64 0, .int .i64 0] 40))
  have HV := hideIt hv
  clear hv
  have hC : Hid (CpusAt (w.alloc (.cells #[.int .i64 0, .int .i64 0, .int .i64 0] 40)) (.slice (some ⟨w.heap.size, 0, none⟩) one0.length 1) one0) := by
    refine .inr ⟨w.heap.size, 0, 1, rfl, fun k hk => ?_⟩
    have : k = 0 := by simp [one0] at hk; omega
    subst this; simp [one0]
  go_enter Try.func4, Try.ntmps4
  go_wp2_with fail
  refine (new_any _ 1 one0 _ hC.out).mono ?_
  rintro e w1 ⟨hgood, _, hb1⟩
  obtain ⟨tb, g, c', rfl, ht⟩ := hgood one0_fault
  have hB1 := hB0.out.trans (hb1.mono hB0.out.size)
  have HT := hideIt (take_any tb g 0 c' 1 1 1 one0 w1 ht (fault_Good one0_fault) (by omega) (by omega))
  rw [one0_take, tookV_0] at HT
  clear ht hb1 hgood
  go_wp2_with fail
  refine HT.out.mono ?_
  rintro e w2 ⟨rfl, hb2⟩
  have hB2 := hB1.trans (hb2.mono hB1.size)
  clear hb2 hB1 HT
  go_wp2_with fail
  refine (new_any ao c l w2 (HV.out.below hB2)).mono ?_
  rintro e w3 ⟨hgood, _, hb3⟩
  obtain ⟨tb, g, c', rfl, ht⟩ := hgood HF.out
  have hB3 := hideIt (hB2.trans (hb3.mono hB2.size))
  have HT3 := hideIt ht
  clear hB2 hb3 HV hgood ht hg hf
  have HTk := hideIt (take_any tb g 0 c' A m L l w3 HT3.out HG.out hA hm)
  have HE : Hid (takeOut l A L (chosen (onMask m) l) = (0, 1)) := by unfold Hid takeOut; rw [if_pos (.inr (.inr hin))]
  rw [HE.out, tookV_1] at HTk
  have hal : chosen anyCpu l < 18446744073709551616 := Ost.chosenTo_lt anyCpu l _ h64
  have HI := hideIt (fun W => inside_any A (chosen anyCpu l) W hA hal)
  rw [decide_eq_false hin] at HI
  clear HE hin
  go_wp2_with fail
  refine HTk.out.mono ?_
  rintro e w4 ⟨rfl, hb⟩
  have HT4 := hideIt (HT3.out.below hb)
  have hB4 := hideIt (hB3.out.trans (hb.mono hB3.out.size))
  clear HT3 hb hB3 HTk
  go_wp2_with fail
  refine (all_any tb g 0 c' l _ HT4.out).mono ?_
  rintro e w5 ⟨rfl, hb⟩
  have hB5 := hideIt (hB4.out.trans (hb.mono hB4.out.size))
  clear hb hB4 HT4
  go_wp2_with fail
  refine (HI.out _).mono ?_
  rintro e w6 ⟨rfl, rfl⟩
  go_wp2_with fail
  go_ret
  exact ⟨rfl, hB5.out⟩
set_option maxRecDepth 100000 in
set_option maxHeartbeats 4000000 in
theorem topTake_few (ao : Option Addr) (c : Nat) (l : List Cpu) (A m : Nat) (L : Int) (w : World) (hv : CpusAt w (.slice ao l.length c) l) (hf : fault l = 0) (hm : m < 256) (hA : A < 18446744073709551616) (h0 : 0 ≤ L) (hL : L ≤ 64) (hin : A &&& chosen anyCpu l = A) (hcn : (cnt A : Int) < L) :
    Calls Try.prog 4 #[.slice ao l.length c, .int .u64 A, .int .i64 L, .int .u8 m] w fun e w' => e = .returned (.bool true) ∧ Below w.heap.size w w' := by
  have hg := fault_Good hf
  have h64 := (Ost.fault_good hf).2.1
  have HF := hideIt hf
  have HG := hideIt hg
  have hB0 := hideIt ((Below.refl w.heap.size w).alloc (Nat.le_refl _) (.cells #[.int .i64 0, .int .i64 0, .int .i64 0] 40))
  have HV := hideIt hv
  clear hv
  have hC : Hid (CpusAt (w.alloc (.cells #[.int .i64 0, .int .i64 0, .int .i64 0] 40)) (.slice (some ⟨w.heap.size, 0, none⟩) one0.length 1) one0) := by
    refine .inr ⟨w.heap.size, 0, 1, rfl, fun k hk => ?_⟩
    have : k = 0 := by simp [one0] at hk; omega
    subst this; simp [one0]
  go_enter Try.func4, Try.ntmps4
  go_wp2_with fail
  refine (new_any _ 1 one0 _ hC.out).mono ?_
  rintro e w1 ⟨hgood, _, hb1⟩
  obtain ⟨tb, g, c', rfl, ht⟩ := hgood one0_fault
  have hB1 := hB0.out.trans (hb1.mono hB0.out.size)
  have HT := hideIt (take_any tb g 0 c' 1 1 1 one0 w1 ht (fault_Good one0_fault) (by omega) (by omega))
  rw [one0_take, tookV_0] at HT
  clear ht hb1 hgood
  go_wp2_with fail
  refine HT.out.mono ?_
  rintro e w2 ⟨rfl, hb2⟩
  have hB2 := hB1.trans (hb2.mono hB1.size)
  clear hb2 hB1 HT
  go_wp2_with fail
  refine (new_any ao c l w2 (HV.out.below hB2)).mono ?_
  rintro e w3 ⟨hgood, _, hb3⟩
  obtain ⟨tb, g, c', rfl, ht⟩ := hgood HF.out
  have hB3 := hideIt (hB2.trans (hb3.mono hB2.size))
  have HT3 := hideIt ht
  clear hB2 hb3 HV hgood ht hg hf
  have HTk := hideIt (take_any tb g 0 c' A m L l w3 HT3.out HG.out hA hm)
  have HE : Hid (takeOut l A L (chosen (onMask m) l) = (0, 8)) := by
    unfold Hid takeOut
    rw [if_neg (fun hh => by rcases hh with hh | hh | hh; omega; omega; exact hh hin), if_pos hcn]
  rw [HE.out, tookV_8] at HTk
  have hal : chosen anyCpu l < 18446744073709551616 := Ost.chosenTo_lt anyCpu l _ h64
  have HI := hideIt (fun W => inside_any A (chosen anyCpu l) W hA hal)
  rw [decide_eq_true hin] at HI
  have HC : Hid (∀ W, Calls Try.prog 22 #[.int .u64 A] W fun e w' => e = .returned (.int .i64 (cnt A : Nat)) ∧ w' = W) := fun W => bitsCount_any A W hA
  generalize cnt A = cA at *
  clear HE hin
  go_wp2_with fail
  refine HTk.out.mono ?_
  rintro e w4 ⟨rfl, hb⟩
  have HT4 := hideIt (HT3.out.below hb)
  have hB4 := hideIt (hB3.out.trans (hb.mono hB3.out.size))
  clear HT3 hb hB3 HTk
  go_wp2_with fail
  refine (all_any tb g 0 c' l _ HT4.out).mono ?_
  rintro e w5 ⟨rfl, hb⟩
  have hB5 := hideIt (hB4.out.trans (hb.mono hB4.out.size))
  clear hb hB4 HT4
  go_wp2_with fail
  refine (HI.out _).mono ?_
  rintro e w6 ⟨rfl, rfl⟩
  go_wp2_with fail
  refine (HC.out _).mono ?_
  rintro e w7 ⟨rfl, rfl⟩
  go_wp2_with fail
  go_ret
  exact ⟨rfl, hB5.out⟩
set_option maxRecDepth 100000 in
set_option maxHeartbeats 4000000 in
theorem topTake_some (ao : Option Addr) (c : Nat) (l : List Cpu) (A m : Nat) (L : Int) (w : World) (hv : CpusAt w (.slice ao l.length c) l) (hf : fault l = 0) (hm : m < 256) (hA : A < 18446744073709551616) (h0 : 0 ≤ L) (hL : L ≤ 64) (hin : A &&& chosen anyCpu l = A) (hcn : L ≤ (cnt A : Int)) :
    Calls Try.prog 4 #[.slice ao l.length c, .int .u64 A, .int .i64 L, .int .u8 m] w fun e w' => e = .returned (.bool true) ∧ Below w.heap.size w w' := by
  have hg := fault_Good hf
  have h64 := (Ost.fault_good hf).2.1
  have HF := hideIt hf
  have HG := hideIt hg
  have hB0 := hideIt ((Below.refl w.heap.size w).alloc (Nat.le_refl _) (.cells #[.int .i64 0, .int .i64 0, .int .i64 0] 40))
  have HV := hideIt hv
  clear hv
  have hC : Hid (CpusAt (w.alloc (.cells #[.int .i64 0, .int .i64 0, .int .i64 0] 40)) (.slice (some ⟨w.heap.size, 0, none⟩) one0.length 1) one0) := by
    refine .inr ⟨w.heap.size, 0, 1, rfl, fun k hk => ?_⟩
    have : k = 0 := by simp [one0] at hk; omega
    subst this; simp [one0]
  go_enter Try.func4, Try.ntmps4
  go_wp2_with fail
  refine (new_any _ 1 one0 _ hC.out).mono ?_
  rintro e w1 ⟨hgood, _, hb1⟩
  obtain ⟨tb, g, c', rfl, ht⟩ := hgood one0_fault
  have hB1 := hB0.out.trans (hb1.mono hB0.out.size)
  have HT := hideIt (take_any tb g 0 c' 1 1 1 one0 w1 ht (fault_Good one0_fault) (by omega) (by omega))
  rw [one0_take, tookV_0] at HT
  clear ht hb1 hgood
  go_wp2_with fail
  refine HT.out.mono ?_
  rintro e w2 ⟨rfl, hb2⟩
  have hB2 := hB1.trans (hb2.mono hB1.size)
  clear hb2 hB1 HT
  go_wp2_with fail
  refine (new_any ao c l w2 (HV.out.below hB2)).mono ?_
  rintro e w3 ⟨hgood, _, hb3⟩
  obtain ⟨tb, g, c', rfl, ht⟩ := hgood HF.out
  have hB3 := hideIt (hB2.trans (hb3.mono hB2.size))
  have HT3 := hideIt ht
  clear hB2 hb3 HV hgood ht hg hf
  have HTk := hideIt (take_any tb g 0 c' A m L l w3 HT3.out HG.out hA hm)
  obtain ⟨s, hE, hs64, hcs, hsA, hsm, hcore⟩ := take_ok HF.out (mm := chosen (onMask m) l) hA h0 hL hin hcn
  rw [hE, tookV_0] at HTk
  have HCore := hideIt hcore
  have hmm : chosen (onMask m) l < 18446744073709551616 := Ost.chosenTo_lt _ l _ h64
  have HOn : Hid (∀ W, TopoAt W tb g 0 c' l → Calls Try.prog 23 #[.pointer (some ⟨tb, 0, none⟩), .int .u8 m] W fun e w' => e = .returned (.int .u64 (chosen (onMask m) l : Nat)) ∧ Below W.heap.size W w') := fun W hW => on_any tb g 0 c' l m W hW HG.out hm
  generalize chosen (onMask m) l = mm at *
  have hN : A &&& mm < 18446744073709551616 := Ost.sub_lt hA (Ost.and_sub A mm)
  have hSm : s &&& mm < 18446744073709551616 := Ost.sub_lt hs64 (Ost.and_sub s mm)
  have n1 := bits_and_u64_nat A mm hA hmm
  have n2 := bits_and_u64_nat s mm hs64 hmm
  have HC1 : Hid (∀ W, Calls Try.prog 22 #[.int .u64 (A &&& mm : Nat)] W fun e w' => e = .returned (.int .i64 (cnt (A &&& mm) : Nat)) ∧ w' = W) := fun W => bitsCount_any _ W hN
  have HC2 : Hid (∀ W, Calls Try.prog 22 #[.int .u64 s] W fun e w' => e = .returned (.int .i64 (cnt s : Nat)) ∧ w' = W) := fun W => bitsCount_any s W hs64
  have HC3 : Hid (∀ W, Calls Try.prog 22 #[.int .u64 (s &&& mm : Nat)] W fun e w' => e = .returned (.int .i64 (cnt (s &&& mm) : Nat)) ∧ w' = W) := fun W => bitsCount_any _ W hSm
  have HI := hideIt (fun W => inside_any s A W hs64 hA)
  rw [decide_eq_true hsA] at HI
  have HI2 := hideIt (fun x W hx => inside_any x (A &&& mm) W hx hN)
  generalize A &&& mm = near at *
  generalize s &&& mm = sm at *
  generalize cnt near = cn at *
  generalize cnt s = cs at *
  generalize cnt sm = cm at *
  subst hcs
  clear hE hsA hcore hin hcn
  have hmin : min (cs : Int) (cn : Int) = (cm : Int) := hsm.symm
  clear hsm
  go_wp2_with fail
  refine HTk.out.mono ?_
  rintro e w4 ⟨rfl, hb⟩
  have HT4 := hideIt (HT3.out.below hb)
  have hB4 := hideIt (hB3.out.trans (hb.mono hB3.out.size))
  clear HT3 hb hB3 HTk
  go_wp2_with fail
  refine (HOn.out _ HT4.out).mono ?_
  rintro e w5 ⟨rfl, hb⟩
  have HT5 := hideIt (HT4.out.below hb)
  have hB5 := hideIt (hB4.out.trans (hb.mono hB4.out.size))
  clear HT4 hb hB4
  go_wp2_with fail
  refine (HC1.out _).mono ?_
  rintro e w6 ⟨rfl, rfl⟩
  go_wp2_with fail
  refine (HC2.out _).mono ?_
  rintro e w6 ⟨rfl, rfl⟩
  go_wp2_with fail
  refine (HI.out _).mono ?_
  rintro e w6 ⟨rfl, rfl⟩
  go_wp2_with fail
  refine (HOn.out _ HT5.out).mono ?_
  rintro e w7 ⟨rfl, hb⟩
  have HT6 := hideIt (HT5.out.below hb)
  have hB6 := hideIt (hB5.out.trans (hb.mono hB5.out.size))
  clear HT5 hb hB5
  go_wp2_with fail
  refine (HC3.out _).mono ?_
  rintro e w8 ⟨rfl, rfl⟩
  by_cases hmore : cn < cs
  · have hm2 : (cn : Int) < (cs : Int) := by omega
    go_wp2_with fail
    go_ret
    exact ⟨rfl, hB6.out⟩
  · have hm2 : (cs : Int) ≤ (cn : Int) := by omega
    clear hmore
    go_wp2_with fail
    rw [show decide (cn < cs) = false from decide_eq_false (by omega)]
    clear n2 hmin
    go_loopw [13] (fun i wr => ∃ n : Nat, n ≤ 64 ∧ i = .int .i64 n ∧ Hid (TopoAt wr tb g 0 c' l) ∧ Hid (Below w.heap.size w wr)) (fun i _ => 64 - (intOf i).toNat)
    case atStart => exact ⟨0, by omega, rfl, HT6, hB6⟩
    case round =>
      clear HT6 hB6
      obtain ⟨n, hn, rfl, HT7, hB7⟩ := hrel
      by_cases hlt : n < 64
      · have HCn : Hid (Calls Try.prog 24 #[.pointer (some ⟨tb, 0, none⟩), .int .i64 n] wr fun e w' => e = .returned (.int .u64 (coreAt l n : Nat)) ∧ Below wr.heap.size wr w') := core_any tb g 0 c' l n wr HT7.out
        have hcl := Ost.at_lt (·.core) h64 n
        change coreAt l n < _ at hcl
        have HCc : Hid (∀ W, Calls Try.prog 22 #[.int .u64 (coreAt l n : Nat)] W fun e w' => e = .returned (.int .i64 (cnt (coreAt l n) : Nat)) ∧ w' = W) := fun W => bitsCount_any _ W hcl
        have HIc := hideIt (fun W => HI2.out (coreAt l n) W hcl)
        have HWh : Hid (coreAt l n ≠ 0 → coreAt l n &&& near = coreAt l n → (cnt (coreAt l n) : Int) = (cs : Int) → wTo (coreAt l) s 64 = true) := fun a1 a2 a3 => by
          obtain ⟨k, hk, hk0, hks⟩ := HCore.out n hlt a1 a2 a3
          exact wTo_true hk hk0 hks
        generalize hcc : coreAt l n = cc at HCn hcl HCc HIc HWh
        clear hcc
        generalize cnt cc = ccn at *
        go_wp2_with fail
        refine HCn.out.mono ?_
        rintro e w8 ⟨rfl, hb⟩
        have HT9 := hideIt (HT7.out.below hb)
        have hB9 := hideIt (hB7.out.trans (hb.mono hB7.out.size))
        clear HT7 hB7 hb HCn
        by_cases hc0 : cc = 0
        · have q1 : ((cc : Int) != 0) = false := by rw [hc0]; rfl
          clear hc0 HWh
          go_wp2_with fail
          go_roundw
          case rel => exact ⟨n + 1, by omega, by go_num, HT9, hB9⟩
          case measure => simp [intOf]; omega
        · have q1 : ((cc : Int) != 0) = true := by rw [bne_iff_ne]; omega
          go_wp2_with fail
          refine (HOn.out _ HT9.out).mono ?_
          rintro e w9 ⟨rfl, hb⟩
          have HTY := hideIt (HT9.out.below hb)
          have hBY := hideIt (hB9.out.trans (hb.mono hB9.out.size))
          clear HT9 hB9 hb
          go_wp2_with fail
          by_cases hi : cc &&& near = cc
          · rw [decide_eq_true hi] at HIc
            refine (HIc.out _).mono ?_
            rintro e w10 ⟨rfl, rfl⟩
            go_wp2_with fail
            refine (HCc.out _).mono ?_
            rintro e w10 ⟨rfl, rfl⟩
            by_cases he : ccn = cs
            · have HWt := hideIt (HWh.out hc0 hi (by rw [he]))
              subst he
              have HTZ := HTY
              have hBZ := hBY
              clear HTY hBY HWh hc0 hi
              go_wp2_with fail
              go_loopw [15, 16] (fun t i wr => ∃ k : Nat, k ≤ 64 ∧ i = .int .i64 k ∧ t = .bool (wTo (coreAt l) s k) ∧ Hid (TopoAt wr tb g 0 c' l) ∧ Hid (Below w.heap.size w wr)) (fun _ i _ => 64 - (intOf i).toNat)
              case atStart => exact ⟨0, by omega, rfl, rfl, HTZ, hBZ⟩
              case round =>
                clear HTZ hBZ
                obtain ⟨k, hk, rfl, rfl, HTi0, hBi0⟩ := hrel
                by_cases hk64 : k < 64
                · have HW := hideIt (wTo_step (coreAt l) s k)
                  have HCk : Hid (∀ W, TopoAt W tb g 0 c' l → Calls Try.prog 24 #[.pointer (some ⟨tb, 0, none⟩), .int .i64 k] W fun e w' => e = .returned (.int .u64 (coreAt l k : Nat)) ∧ Below W.heap.size W w') := fun W hW => core_any tb g 0 c' l k W hW
                  have hfk := Ost.at_lt (·.core) h64 k
                  change coreAt l k < _ at hfk
                  have HOr := hideIt (bits_or_u64_nat (coreAt l k) s hfk hs64)
                  generalize coreAt l k = fk at HW HCk hfk HOr
                  rcases two (wTo (coreAt l) s k) with hw | hw
                  · have HE : Hid (wTo (coreAt l) s (k + 1) = true) := by unfold Hid; rw [HW.out, hw]; rfl
                    rw [hw]
                    clear hw HW HCk HOr
                    go_wp2_with fail
                    go_roundw
                    case rel => exact ⟨k + 1, by omega, by go_num, by rw [HE.out], HTi0, hBi0⟩
                    case measure => simp [intOf]; omega
                  · rw [hw] at HW ⊢
                    clear hw
                    by_cases e1 : fk = s
                    · have HE : Hid (wTo (coreAt l) s (k + 1) = true) := by unfold Hid; rw [HW.out, decide_eq_true e1]; rfl
                      have q1 : ((fk : Int) == (s : Int)) = true := by rw [e1]; simp
                      clear e1 HW HOr
                      go_wp2_with fail
                      refine (HCk.out _ HTi0.out).mono ?_
                      rintro e v1 ⟨rfl, hb⟩
                      have HTi1 := hideIt (HTi0.out.below hb)
                      have hBi1 := hideIt (hBi0.out.trans (hb.mono hBi0.out.size))
                      clear hb HTi0 hBi0
                      go_wp2_with fail
                      go_roundw
                      case rel => exact ⟨k + 1, by omega, by go_num, by rw [HE.out], HTi1, hBi1⟩
                      case measure => simp [intOf]; omega
                    · have q1 : ((fk : Int) == (s : Int)) = false := by rw [beq_eq_false_iff_ne]; omega
                      by_cases e2 : fk ||| s = s
                      · have q2 : bits BinOp.or IntKind.u64 (fk : Int) (s : Int) = (s : Int) := by rw [HOr.out, e2]
                        by_cases e3 : fk = 0
                        · have HE : Hid (wTo (coreAt l) s (k + 1) = false) := by unfold Hid; rw [HW.out, decide_eq_false e1, e3]; simp
                          have q3 : ((fk : Int) != 0) = false := by rw [e3]; rfl
                          clear e1 e2 e3 HW HOr
                          go_wp2_with fail
                          refine (HCk.out _ HTi0.out).mono ?_
                          rintro e v1 ⟨rfl, hb⟩
                          have HTi1 := hideIt (HTi0.out.below hb)
                          have hBi1 := hideIt (hBi0.out.trans (hb.mono hBi0.out.size))
                          clear hb HTi0 hBi0
                          go_wp2_with fail
                          refine (HCk.out _ HTi1.out).mono ?_
                          rintro e v2 ⟨rfl, hb⟩
                          have HTi2 := hideIt (HTi1.out.below hb)
                          have hBi2 := hideIt (hBi1.out.trans (hb.mono hBi1.out.size))
                          clear hb HTi1 hBi1
                          go_wp2_with fail
                          refine (HCk.out _ HTi2.out).mono ?_
                          rintro e v3 ⟨rfl, hb⟩
                          have HTi3 := hideIt (HTi2.out.below hb)
                          have hBi3 := hideIt (hBi2.out.trans (hb.mono hBi2.out.size))
                          clear hb HTi2 hBi2
                          go_wp2_with fail
                          go_roundw
                          case rel => exact ⟨k + 1, by omega, by go_num, by rw [HE.out], HTi3, hBi3⟩
                          case measure => simp [intOf]; omega
                        · have HE : Hid (wTo (coreAt l) s (k + 1) = true) := by unfold Hid; rw [HW.out, decide_eq_true e2, decide_eq_true e3]; simp
                          have q3 : ((fk : Int) != 0) = true := by rw [bne_iff_ne]; omega
                          clear e1 e2 e3 HW HOr
                          go_wp2_with fail
                          refine (HCk.out _ HTi0.out).mono ?_
                          rintro e v1 ⟨rfl, hb⟩
                          have HTi1 := hideIt (HTi0.out.below hb)
                          have hBi1 := hideIt (hBi0.out.trans (hb.mono hBi0.out.size))
                          clear hb HTi0 hBi0
                          go_wp2_with fail
                          refine (HCk.out _ HTi1.out).mono ?_
                          rintro e v2 ⟨rfl, hb⟩
                          have HTi2 := hideIt (HTi1.out.below hb)
                          have hBi2 := hideIt (hBi1.out.trans (hb.mono hBi1.out.size))
                          clear hb HTi1 hBi1
                          go_wp2_with fail
                          refine (HCk.out _ HTi2.out).mono ?_
                          rintro e v3 ⟨rfl, hb⟩
                          have HTi3 := hideIt (HTi2.out.below hb)
                          have hBi3 := hideIt (hBi2.out.trans (hb.mono hBi2.out.size))
                          clear hb HTi2 hBi2
                          go_wp2_with fail
                          go_roundw
                          case rel => exact ⟨k + 1, by omega, by go_num, by rw [HE.out], HTi3, hBi3⟩
                          case measure => simp [intOf]; omega
                      · have q2 : (bits BinOp.or IntKind.u64 (fk : Int) (s : Int) == (s : Int)) = false := by rw [HOr.out, beq_eq_false_iff_ne]; omega
                        have HE : Hid (wTo (coreAt l) s (k + 1) = false) := by unfold Hid; rw [HW.out, decide_eq_false e1, decide_eq_false e2]; rfl
                        clear e1 e2 HW HOr
                        go_wp2_with fail
                        refine (HCk.out _ HTi0.out).mono ?_
                        rintro e v1 ⟨rfl, hb⟩
                        have HTi1 := hideIt (HTi0.out.below hb)
                        have hBi1 := hideIt (hBi0.out.trans (hb.mono hBi0.out.size))
                        clear hb HTi0 hBi0
                        go_wp2_with fail
                        refine (HCk.out _ HTi1.out).mono ?_
                        rintro e v2 ⟨rfl, hb⟩
                        have HTi2 := hideIt (HTi1.out.below hb)
                        have hBi2 := hideIt (hBi1.out.trans (hb.mono hBi1.out.size))
                        clear hb HTi1 hBi1
                        go_wp2_with fail
                        go_roundw
                        case rel => exact ⟨k + 1, by omega, by go_num, by rw [HE.out], HTi2, hBi2⟩
                        case measure => simp [intOf]; omega
                · have hkk : k = 64 := by omega
                  subst hkk
                  clear hk hk64
                  rw [HWt.out]
                  go_wp2_with fail
                  go_ret
                  exact ⟨rfl, hBi0.out⟩
            · have q2 : ((ccn : Int) == (cs : Int)) = false := by rw [beq_eq_false_iff_ne]; omega
              clear HWh hc0 hi he
              go_wp2_with fail
              go_roundw
              case rel => exact ⟨n + 1, by omega, by go_num, HTY, hBY⟩
              case measure => simp [intOf]; omega
          · rw [decide_eq_false hi] at HIc
            clear HWh hc0 hi
            refine (HIc.out _).mono ?_
            rintro e w10 ⟨rfl, rfl⟩
            go_wp2_with fail
            go_roundw
            case rel => exact ⟨n + 1, by omega, by go_num, HTY, hBY⟩
            case measure => simp [intOf]; omega
      · have hn64 : n = 64 := by omega
        subst hn64
        clear hn hlt
        go_wp2_with fail
        go_ret
        exact ⟨rfl, hB7.out⟩
theorem topTake_good (ao : Option Addr) (c : Nat) (l : List Cpu) (A m : Nat) (L : Int) (w : World) (hv : CpusAt w (.slice ao l.length c) l) (hf : fault l = 0) (hm : m < 256) (hA : A < 18446744073709551616) :
    Calls Try.prog 4 #[.slice ao l.length c, .int .u64 A, .int .i64 L, .int .u8 m] w fun e w' => e = .returned (.bool true) ∧ Below w.heap.size w w' := by
  by_cases h1 : L < 0 ∨ 64 < L
  · exact topTake_out ao c l A m L w hv hf hm hA h1
  · by_cases h2 : A &&& chosen anyCpu l = A
    · by_cases h3 : (cnt A : Int) < L
      · exact topTake_few ao c l A m L w hv hf hm hA (by omega) (by omega) h2 h3
      · exact topTake_some ao c l A m L w hv hf hm hA (by omega) (by omega) h2 (by omega)
    · exact topTake_strange ao c l A m L w hv hf hm hA (by omega) (by omega) h2
end Go.Proofs.Ythekalhceamcoaa
