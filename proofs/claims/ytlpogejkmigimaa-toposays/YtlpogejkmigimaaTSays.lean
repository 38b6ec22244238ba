/- What 'TopoSays' answers: true. -/
import Derived.Test.YtlpogejkmigimaaTEq
namespace Go.Proofs.Ytlpogejkmigimaa
open Go.RowKit
open Ost (Cpu cpu0 chosen fault)
set_option maxRecDepth 100000 in
set_option maxHeartbeats 1000000 in
theorem topoSays_long (ao : Option Addr) (len c : Nat) (n m A : Int) (w : World) (h : 70 < len) :
    Calls Try.prog 3 #[.slice ao len c, .int .i64 n, .int .u8 m, .int .u64 A] w fun e w' => e = .returned (.bool true) ∧ Below w.heap.size w w' := by
  go_enter Try.func3, Try.ntmps3
  go_wp2_with fail
  refine (topos_any w).mono ?_
  rintro e w1 ⟨rfl, hb1⟩
  go_wp2_with fail
  go_ret
  exact ⟨rfl, hb1⟩
set_option maxRecDepth 100000 in
set_option maxHeartbeats 1000000 in
theorem topoSays_bad (ao : Option Addr) (c : Nat) (l : List Cpu) (n m A : Int) (w : World) (hv : CpusAt w (.slice ao l.length c) l) (h70 : l.length ≤ 70) (hf : 0 < fault l) :
    Calls Try.prog 3 #[.slice ao l.length c, .int .i64 n, .int .u8 m, .int .u64 A] w fun e w' => e = .returned (.bool true) ∧ Below w.heap.size w w' := by
  have HV := hideIt hv
  clear hv
  go_enter Try.func3, Try.ntmps3
  go_wp2_with fail
  refine (topos_any w).mono ?_
  rintro e w1 ⟨rfl, hb1⟩
  have HV1 := hideIt (HV.out.below hb1)
  clear HV
  go_wp2_with fail
  refine (new_any ao c l w1 HV1.out).mono ?_
  rintro e w2 ⟨_, hbad, hb2⟩
  obtain rfl := hbad (by omega)
  have HV2 := hideIt (HV1.out.below hb2)
  have hB2 := hb1.trans (hb2.mono hb1.size)
  clear HV1 hb1 hb2 hbad
  go_wp2_with fail
  refine (refFault_any ao c l w2 HV2.out).mono ?_
  rintro e w3 ⟨rfl, hb3⟩
  have hB3 := hB2.trans (hb3.mono hB2.size)
  clear HV2 hB2 hb3
  generalize fault l = f at *
  go_wp2_with fail
  refine (same_pos f _ hf).mono ?_
  rintro e w4 ⟨rfl, rfl⟩
  go_wp2_with fail
  go_ret
  exact ⟨rfl, hB3⟩
theorem all_eq {l : List Cpu} (hg : Good l) : chosen anyCpu l = chosen (onMask 15) l := by
  apply Ost.chosen_congr
  intro c hc
  have := hg c hc
  have : c.node.toNat = 0 ∨ c.node.toNat = 1 ∨ c.node.toNat = 2 ∨ c.node.toNat = 3 := by omega
  unfold anyCpu onMask
  rcases this with h | h | h | h <;> rw [h] <;> decide
set_option maxRecDepth 100000 in
set_option maxHeartbeats 2000000 in
theorem topoSays_out (b o c : Nat) (l : List Cpu) (n : Int) (m A : Nat) (w : World) (hv : CpusAt w (.slice (some ⟨b, o, none⟩) l.length c) l) (hcs : CellsAt w b o l) (hlb : b < w.heap.size) (hf : fault l = 0) (hm : m < 256) (hA : A < 18446744073709551616) (hn : n < 0 ∨ (0 ≤ n ∧ (l.length : Int) ≤ n)) :
    Calls Try.prog 3 #[.slice (some ⟨b, o, none⟩) l.length c, .int .i64 n, .int .u8 m, .int .u64 A] w fun e w' => e = .returned (.bool true) ∧ Below w.heap.size w w' := by
  have hg := fault_Good hf
  have h64 := (Ost.fault_good hf).2.1
  have HV := hideIt hv
  have HC := hideIt hcs
  have HL := hideIt hlb
  have HG := hideIt hg
  have HF := hideIt hf
  have HE := hideIt (all_eq hg)
  clear hv hcs hlb hg hf
  go_enter Try.func3, Try.ntmps3
  go_wp2_with fail
  refine (topos_any w).mono ?_
  rintro e w1 ⟨rfl, hb1⟩
  go_wp2_with fail
  refine (new_any _ c l w1 (HV.out.below hb1)).mono ?_
  rintro e w2 ⟨hgood, _, hb2⟩
  obtain ⟨tb, g, c', rfl, ht⟩ := hgood HF.out
  have hB2 := hb1.trans (hb2.mono hb1.size)
  have HT2 := hideIt ht
  clear ht hgood
  go_wp2_with fail
  refine (refFault_any _ c l w2 ((HV.out.below hb1).below hb2)).mono ?_
  rintro e w3 ⟨rfl, hb3⟩
  have hB3 := hB2.trans (hb3.mono hB2.size)
  have HT3 := hideIt (HT2.out.below hb3)
  rw [HF.out]
  clear hb1 hb2 hb3 HT2 hB2 HV
  go_wp2_with fail
  refine (of_out n tb g 0 c' l w3 HT3.out (by omega)).mono ?_
  rintro e w4 ⟨rfl, hb4⟩
  have hB4a := hB3.trans (hb4.mono hB3.size)
  have HT4a := hideIt (HT3.out.below hb4)
  have HA4 := hideIt ((Below.refl w4.heap.size w4).alloc (Nat.le_refl _) (.cells #[.int .i64 cpu0.core, .int .i64 cpu0.sock, .int .i64 cpu0.node] 35))
  have HB4 := hideIt (hB4a.trans (HA4.out.mono hB4a.size))
  have HT4 := hideIt (HT4a.out.below HA4.out)
  have HC4 := hideIt (HC.out.below HL.out HB4.out)
  have HX := hideIt (show (w4.alloc (.cells #[.int .i64 cpu0.core, .int .i64 cpu0.sock, .int .i64 cpu0.node] 35)).cell? ⟨w4.heap.size, 0, none⟩ = some (.int .i64 cpu0.core) by simp)
  clear hb4 hB3 hB4a HT4a HT3 HA4
  rcases hn with hn | ⟨hn, hn2⟩
  all_goals
    go_wp2_with fail
    refine (same_pos 1 _ (by decide)).mono ?_
    rintro e w5 ⟨rfl, rfl⟩
    go_wp2_with fail
    refine (all_any tb g 0 c' l _ HT4.out).mono ?_
    rintro e u1 ⟨rfl, hb⟩
    have hB1x := hideIt (HB4.out.trans (hb.mono HB4.out.size))
    have HT1x := hideIt (HT4.out.below hb)
    clear hb HB4 HT4
    rw [HE.out]
    go_wp2_with fail
    refine (refOn_some b o c l 15 _ (HC.out.below HL.out hB1x.out) h64 HG.out (by decide)).mono ?_
    rintro e u2 ⟨rfl, rfl⟩
    go_wp2_with fail
    refine (core_any tb g 0 c' l n _ HT1x.out).mono ?_
    rintro e u3 ⟨rfl, hb⟩
    have hB3x := hideIt (hB1x.out.trans (hb.mono hB1x.out.size))
    have HT3x := hideIt (HT1x.out.below hb)
    clear hb hB1x HT1x
    go_wp2_with fail
    refine (refCore_some b o c l n _ (HC.out.below HL.out hB3x.out) h64).mono ?_
    rintro e u4 ⟨rfl, rfl⟩
    go_wp2_with fail
    refine (sock_any tb g 0 c' l n _ HT3x.out).mono ?_
    rintro e u5 ⟨rfl, hb⟩
    have hB5x := hideIt (hB3x.out.trans (hb.mono hB3x.out.size))
    have HT5x := hideIt (HT3x.out.below hb)
    clear hb hB3x HT3x
    go_wp2_with fail
    refine (refSocket_some b o c l n _ (HC.out.below HL.out hB5x.out) h64).mono ?_
    rintro e u6 ⟨rfl, rfl⟩
    go_wp2_with fail
    refine (on_any tb g 0 c' l m _ HT5x.out HG.out hm).mono ?_
    rintro e u7 ⟨rfl, hb⟩
    have hB7x := hideIt (hB5x.out.trans (hb.mono hB5x.out.size))
    have HT7x := hideIt (HT5x.out.below hb)
    clear hb hB5x HT5x
    go_wp2_with fail
    refine (refOn_some b o c l m _ (HC.out.below HL.out hB7x.out) h64 HG.out hm).mono ?_
    rintro e u8 ⟨rfl, rfl⟩
    go_wp2_with fail
    refine (nodes_any tb g 0 c' l _ HT7x.out HG.out).mono ?_
    rintro e u9 ⟨rfl, hb⟩
    have hB9x := hideIt (hB7x.out.trans (hb.mono hB7x.out.size))
    have HT9x := hideIt (HT7x.out.below hb)
    clear hb hB7x HT7x
    go_wp2_with fail
    refine (refNodes_any b o c l _ (HC.out.below HL.out hB9x.out) h64 HG.out).mono ?_
    rintro e u10 ⟨rfl, rfl⟩
    go_wp2_with fail
    refine (count_any A tb g 0 c' l _ HT9x.out hA HG.out).mono ?_
    rintro e u11 ⟨rfl, hb⟩
    have hB11x := hideIt (hB9x.out.trans (hb.mono hB9x.out.size))
    have HT11x := hideIt (HT9x.out.below hb)
    clear hb hB9x HT9x
    unfold cntV
    go_wp2_with fail
    refine (refCount_any A b o c l _ (HC.out.below HL.out hB11x.out) (Nat.lt_of_lt_of_le HL.out hB11x.out.size) h64 hA HG.out).mono ?_
    rintro e u12 ⟨rfl, hb⟩
    have hB12x := hideIt (hB11x.out.trans (hb.mono hB11x.out.size))
    have HT12x := hideIt (HT11x.out.below hb)
    clear hb hB11x HT11x
    unfold cntV
    have heq := eq4 (cntTo A l 0 l.length : Nat) (cntTo A l 1 l.length : Nat) (cntTo A l 2 l.length : Nat) (cntTo A l 3 l.length : Nat)
    go_wp2_with fail
    go_ret
    exact ⟨rfl, hB12x.out⟩
set_option maxRecDepth 100000 in
set_option maxHeartbeats 2000000 in
theorem topoSays_in (b o c : Nat) (l : List Cpu) (n : Nat) (m A : Nat) (w : World) (hv : CpusAt w (.slice (some ⟨b, o, none⟩) l.length c) l) (hcs : CellsAt w b o l) (hlb : b < w.heap.size) (hf : fault l = 0) (hm : m < 256) (hA : A < 18446744073709551616) (hn : n < l.length) :
    Calls Try.prog 3 #[.slice (some ⟨b, o, none⟩) l.length c, .int .i64 n, .int .u8 m, .int .u64 A] w fun e w' => e = .returned (.bool true) ∧ Below w.heap.size w w' := by
  have hg := fault_Good hf
  have h64 := (Ost.fault_good hf).2.1
  have HV := hideIt hv
  have HC := hideIt hcs
  have HL := hideIt hlb
  have HG := hideIt hg
  have HF := hideIt hf
  have HE := hideIt (all_eq hg)
  clear hv hcs hlb hg hf
  go_enter Try.func3, Try.ntmps3
  go_wp2_with fail
  refine (topos_any w).mono ?_
  rintro e w1 ⟨rfl, hb1⟩
  go_wp2_with fail
  refine (new_any _ c l w1 (HV.out.below hb1)).mono ?_
  rintro e w2 ⟨hgood, _, hb2⟩
  obtain ⟨tb, g, c', rfl, ht⟩ := hgood HF.out
  have hB2 := hb1.trans (hb2.mono hb1.size)
  have HT2 := hideIt ht
  clear ht hgood
  go_wp2_with fail
  refine (refFault_any _ c l w2 ((HV.out.below hb1).below hb2)).mono ?_
  rintro e w3 ⟨rfl, hb3⟩
  have hB3 := hB2.trans (hb3.mono hB2.size)
  have HT3 := hideIt (HT2.out.below hb3)
  rw [HF.out]
  clear hb1 hb2 hb3 HT2 hB2 HV
  go_wp2_with fail
  refine (of_in n tb g 0 c' l w3 HT3.out hn).mono ?_
  rintro e w4 ⟨rfl, hb4⟩
  have hB4a := hB3.trans (hb4.mono hB3.size)
  have HT4a := hideIt (HT3.out.below hb4)
  have HA4 := hideIt ((Below.refl w4.heap.size w4).alloc (Nat.le_refl _) (.cells #[.int .i64 (l.getD n cpu0).core, .int .i64 (l.getD n cpu0).sock, .int .i64 (l.getD n cpu0).node] 35))
  have HB4 := hideIt (hB4a.trans (HA4.out.mono hB4a.size))
  have HT4 := hideIt (HT4a.out.below HA4.out)
  have HC4 := hideIt (HC.out.below HL.out HB4.out)
  have HX := hideIt (show (w4.alloc (.cells #[.int .i64 (l.getD n cpu0).core, .int .i64 (l.getD n cpu0).sock, .int .i64 (l.getD n cpu0).node] 35)).cell? ⟨w4.heap.size, 0, none⟩ = some (.int .i64 (l.getD n cpu0).core) by simp)
  clear hb4 hB3 hB4a HT4a HT3 HA4
  obtain ⟨hcell0, hcell1, hcell2⟩ := HC4.out n hn
  generalize l.getD n cpu0 = x at *
  go_wp2_with fail
  go_quiet (fail)
  have HT5 : Hid (TopoAt ((w4.alloc (.cells #[.int .i64 x.core, .int .i64 x.sock, .int .i64 x.node] 35)).drewN nq) tb g 0 c' l)  := HT4.out.below (below_drewN (Below.refl _ _) nq)
  have HB5 := hideIt (below_drewN HB4.out nq)
  clear hcell0 hcell1 hcell2 HT4 HB4 HX HC4
  go_wp2_with fail
  refine (all_any tb g 0 c' l _ HT5.out).mono ?_
  rintro e u1 ⟨rfl, hb⟩
  have hB1x := hideIt (HB5.out.trans (hb.mono HB5.out.size))
  have HT1x := hideIt (HT5.out.below hb)
  clear hb HB5 HT5
  rw [HE.out]
  go_wp2_with fail
  refine (refOn_some b o c l 15 _ (HC.out.below HL.out hB1x.out) h64 HG.out (by decide)).mono ?_
  rintro e u2 ⟨rfl, rfl⟩
  go_wp2_with fail
  refine (core_any tb g 0 c' l (n : Int) _ HT1x.out).mono ?_
  rintro e u3 ⟨rfl, hb⟩
  have hB3x := hideIt (hB1x.out.trans (hb.mono hB1x.out.size))
  have HT3x := hideIt (HT1x.out.below hb)
  clear hb hB1x HT1x
  go_wp2_with fail
  refine (refCore_some b o c l (n : Int) _ (HC.out.below HL.out hB3x.out) h64).mono ?_
  rintro e u4 ⟨rfl, rfl⟩
  go_wp2_with fail
  refine (sock_any tb g 0 c' l (n : Int) _ HT3x.out).mono ?_
  rintro e u5 ⟨rfl, hb⟩
  have hB5x := hideIt (hB3x.out.trans (hb.mono hB3x.out.size))
  have HT5x := hideIt (HT3x.out.below hb)
  clear hb hB3x HT3x
  go_wp2_with fail
  refine (refSocket_some b o c l (n : Int) _ (HC.out.below HL.out hB5x.out) h64).mono ?_
  rintro e u6 ⟨rfl, rfl⟩
  go_wp2_with fail
  refine (on_any tb g 0 c' l m _ HT5x.out HG.out hm).mono ?_
  rintro e u7 ⟨rfl, hb⟩
  have hB7x := hideIt (hB5x.out.trans (hb.mono hB5x.out.size))
  have HT7x := hideIt (HT5x.out.below hb)
  clear hb hB5x HT5x
  go_wp2_with fail
  refine (refOn_some b o c l m _ (HC.out.below HL.out hB7x.out) h64 HG.out hm).mono ?_
  rintro e u8 ⟨rfl, rfl⟩
  go_wp2_with fail
  refine (nodes_any tb g 0 c' l _ HT7x.out HG.out).mono ?_
  rintro e u9 ⟨rfl, hb⟩
  have hB9x := hideIt (hB7x.out.trans (hb.mono hB7x.out.size))
  have HT9x := hideIt (HT7x.out.below hb)
  clear hb hB7x HT7x
  go_wp2_with fail
  refine (refNodes_any b o c l _ (HC.out.below HL.out hB9x.out) h64 HG.out).mono ?_
  rintro e u10 ⟨rfl, rfl⟩
  go_wp2_with fail
  refine (count_any A tb g 0 c' l _ HT9x.out hA HG.out).mono ?_
  rintro e u11 ⟨rfl, hb⟩
  have hB11x := hideIt (hB9x.out.trans (hb.mono hB9x.out.size))
  have HT11x := hideIt (HT9x.out.below hb)
  clear hb hB9x HT9x
  unfold cntV
  go_wp2_with fail
  refine (refCount_any A b o c l _ (HC.out.below HL.out hB11x.out) (Nat.lt_of_lt_of_le HL.out hB11x.out.size) h64 hA HG.out).mono ?_
  rintro e u12 ⟨rfl, hb⟩
  have hB12x := hideIt (hB11x.out.trans (hb.mono hB11x.out.size))
  have HT12x := hideIt (HT11x.out.below hb)
  clear hb hB11x HT11x
  unfold cntV
  have heq := eq4 (cntTo A l 0 l.length : Nat) (cntTo A l 1 l.length : Nat) (cntTo A l 2 l.length : Nat) (cntTo A l 3 l.length : Nat)
  go_wp2_with fail
  go_ret
  exact ⟨rfl, hB12x.out⟩
end Go.Proofs.Ytlpogejkmigimaa
