/- What 'PickSays' answers: true. -/
import Derived.Test.YthekalhceamcoaaPW2
import Derived.Test.YthekalhceamcoaaPRef2
namespace Go.Proofs.Ythekalhceamcoaa
open Go.RowKit
open Ost (Cpu cpu0 chosen fault takeOut)
def four0 : List Cpu := [⟨0, 0, 0⟩, ⟨1, 0, 0⟩, ⟨0, 0, 0⟩, ⟨1, 0, 0⟩]
theorem four0_fault : fault four0 = 0 := by decide +kernel
theorem four0_take : takeOut four0 15 2 (chosen (onMask 1) four0) = (5, 0) := by decide +kernel
set_option maxRecDepth 100000 in
set_option maxHeartbeats 1000000 in
theorem picks_any (w : World) : Calls Try.prog 14 #[] w fun e w' => e = .returned (.bool true) ∧ Below w.heap.size w w' := by
  have hB0 := hideIt ((Below.refl w.heap.size w).alloc (Nat.le_refl _) (.cells #[.int .i64 0, .int .i64 0, .int .i64 0, .int .i64 1, .int .i64 0, .int .i64 0, .int .i64 0, .int .i64 0, .int .i64 0, .int .i64 1, .int .i64 0, .int .i64 0] 40))
  have hC : Hid (CpusAt (w.alloc (.cells #[.int .i64 0, .int .i64 0, .int .i64 0, .int .i64 1, .int .i64 0, .int .i64 0, .int .i64 0, .int .i64 0, .int .i64 0, .int .i64 1, .int .i64 0, .int .i64 0] 40)) (.slice (some ⟨w.heap.size, 0, none⟩) four0.length 4) four0) := by
    refine .inr ⟨w.heap.size, 0, 4, rfl, fun k hk => ?_⟩
    have : k = 0 ∨ k = 1 ∨ k = 2 ∨ k = 3 := by simp [four0] at hk; omega
    rcases this with rfl | rfl | rfl | rfl <;> simp [four0]
  go_enter Try.func14, Try.ntmps14
  go_wp2_with fail
  refine (new_any _ 4 four0 _ hC.out).mono ?_
  rintro e w1 ⟨hgood, _, hb1⟩
  obtain ⟨tb, g, c, rfl, ht⟩ := hgood four0_fault
  have hB1 := hB0.out.trans (hb1.mono hB0.out.size)
  have HT := hideIt (take_any tb g 0 c 15 1 2 four0 w1 ht (fault_Good four0_fault) (by omega) (by omega))
  rw [four0_take, tookV_0] at HT
  clear ht hb1 hgood
  go_wp2_with fail
  refine HT.out.mono ?_
  rintro e w2 ⟨rfl, hb2⟩
  have hB2 := hB1.trans (hb2.mono hB1.size)
  clear hb2 hB1 HT
  go_wp2_with fail
  refine (same_zero _).mono ?_
  rintro e w3 ⟨rfl, rfl⟩
  go_wp2_with fail
  go_ret
  exact ⟨rfl, hB2⟩
set_option maxRecDepth 100000 in
set_option maxHeartbeats 1000000 in
theorem pickSays_bad (ao : Option Addr) (c : Nat) (l : List Cpu) (A L m : Int) (w : World) (hv : CpusAt w (.slice ao l.length c) l) (hf : 0 < fault l) :
    Calls Try.prog 3 #[.slice ao l.length c, .int .u64 A, .int .i64 L, .int .u8 m] w fun e w' => e = .returned (.bool true) ∧ Below w.heap.size w w' := by
  have HV := hideIt hv
  clear hv
  go_enter Try.func3, Try.ntmps3
  go_wp2_with fail
  refine (picks_any w).mono ?_
  rintro e w1 ⟨rfl, hb1⟩
  have HV1 := hideIt (HV.out.below hb1)
  clear HV
  go_wp2_with fail
  refine (refFault_any ao c l w1 HV1.out).mono ?_
  rintro e w3 ⟨rfl, hb3⟩
  have hB3 := hb1.trans (hb3.mono hb1.size)
  clear HV1 hb1 hb3
  generalize fault l = f at *
  go_wp2_with fail
  go_ret
  exact ⟨rfl, hB3⟩
theorem takeOut_err (l : List Cpu) (F : Nat) (L : Int) (on : Nat) : (takeOut l F L on).2 = 0 ∨ 0 < (takeOut l F L on).2 := by
  unfold takeOut
  split
  · right; decide
  · split
    · right; decide
    · left; rfl
theorem same_err (f : Int) (w : World) (h : f = 0 ∨ 0 < f) : Calls Try.prog 19 #[errV f, .int .i64 f] w fun e w' => e = .returned (.bool true) ∧ w' = w := by
  rcases h with rfl | h
  · exact same_zero w
  · unfold errV
    rw [if_neg (by omega)]
    exact same_pos f w h
set_option maxRecDepth 100000 in
set_option maxHeartbeats 2000000 in
theorem pickSays_good (b o c : Nat) (l : List Cpu) (A m : Nat) (L : Int) (w : World) (hv : CpusAt w (.slice (some ⟨b, o, none⟩) l.length c) l) (hcs : CellsAt w b o l) (hlb : b < w.heap.size) (hf : fault l = 0) (hm : m < 256) (hA : A < 18446744073709551616) :
    Calls Try.prog 3 #[.slice (some ⟨b, o, none⟩) l.length c, .int .u64 A, .int .i64 L, .int .u8 m] w fun e w' => e = .returned (.bool true) ∧ Below w.heap.size w w' := by
  have hg := fault_Good hf
  have h64 := (Ost.fault_good hf).2.1
  have HV := hideIt hv
  have HCs := hideIt hcs
  have HLb := hideIt hlb
  have HF := hideIt hf
  have HTk : Hid (∀ W tb g c', TopoAt W tb g 0 c' l → Calls Try.prog 17 #[.pointer (some ⟨tb, 0, none⟩), .int .u64 A, .int .i64 L, .int .u8 m] W fun e w' => e = .returned (tookV (takeOut l A L (chosen (onMask m) l))) ∧ Below W.heap.size W w') := fun W tb g c' hW => take_any tb g 0 c' A m L l W hW hg hA hm
  have HRk : Hid (∀ W, CellsAt W b o l → b < W.heap.size → Calls Try.prog 18 #[.slice (some ⟨b, o, none⟩) l.length c, .int .u64 A, .int .i64 L, .int .u8 m] W fun e w' => e = .returned (tookN (takeOut l A L (chosen (onMask m) l))) ∧ Below W.heap.size W w') := fun W hW hb => refTake_any b o c A m L l W hW hb h64 hg hA hm
  have HErr := hideIt (takeOut_err l A L (chosen (onMask m) l))
  unfold tookV at HTk
  unfold tookN at HRk
  generalize (takeOut l A L (chosen (onMask m) l)).1 = s at *
  generalize (takeOut l A L (chosen (onMask m) l)).2 = f at *
  clear hv hcs hlb hf hg
  go_enter Try.func3, Try.ntmps3
  go_wp2_with fail
  refine (picks_any w).mono ?_
  rintro e w1 ⟨rfl, hb⟩
  have HV1 := hideIt (HV.out.below hb)
  have hB1 := hideIt hb
  clear HV hb
  have HFt := hideIt (refFault_any (some ⟨b, o, none⟩) c l w1 HV1.out)
  rw [HF.out] at HFt
  go_wp2_with fail
  refine HFt.out.mono ?_
  rintro e w2 ⟨rfl, hb⟩
  have HV2 := hideIt (HV1.out.below hb)
  have hB2 := hideIt (hB1.out.trans (hb.mono hB1.out.size))
  clear HV1 hb hB1 HFt
  go_wp2_with fail
  refine (new_any (some ⟨b, o, none⟩) c l w2 HV2.out).mono ?_
  rintro e w3 ⟨hgood, _, hb⟩
  obtain ⟨tb, g, c', rfl, ht⟩ := hgood HF.out
  have HT3 := hideIt ht
  have hB3 := hideIt (hB2.out.trans (hb.mono hB2.out.size))
  clear HV2 hb hB2 hgood ht
  go_wp2_with fail
  refine (HTk.out _ _ _ _ HT3.out).mono ?_
  rintro e w4 ⟨rfl, hb⟩
  have hB4 := hideIt (hB3.out.trans (hb.mono hB3.out.size))
  clear HT3 hb hB3
  go_wp2_with fail
  refine (HRk.out _ (HCs.out.below HLb.out hB4.out) (Nat.lt_of_lt_of_le HLb.out hB4.out.size)).mono ?_
  rintro e w5 ⟨rfl, hb⟩
  have hB5 := hideIt (hB4.out.trans (hb.mono hB4.out.size))
  clear hb hB4
  have HSm := hideIt (fun W => same_err f W HErr.out)
  generalize errV f = ev at *
  go_wp2_with fail
  refine (HSm.out _).mono ?_
  rintro e w6 ⟨rfl, rfl⟩
  go_wp2_with fail
  go_ret
  exact ⟨rfl, hB5.out⟩
end Go.Proofs.Ythekalhceamcoaa
