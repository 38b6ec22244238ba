/- What 'MergeSays' answers: true. -/
import Derived.Test.YtlpogejkmigimaaHS1
import Derived.Test.YtlpogejkmigimaaTM1
import Derived.Test.YtlpogejkmigimaaMR3
namespace Go.Proofs.Ytlpogejkmigimaa
open Go.RowKit
open Ost (Hi Wi wi0 Low told)
set_option maxRecDepth 100000 in
set_option maxHeartbeats 1000000 in
theorem mergeSays_one (pol : Int) (nodes : Nat) (ao : Option Addr) (c : Nat) (ws : List Wi) (H : Hi) (i : Bool) (err : Value) (f : Int) (w : World) (hv : WishesAt w (.slice ao ws.length c) ws)
    (HM : (∀ y, y ∈ ws → y.hs.length ≤ 16) → ∀ W, Below w.heap.size w W → Calls Try.prog 33 #[.int .i64 pol, .int .u8 nodes, .slice ao ws.length c] W fun e w' => e = .returned (.tuple #[vH H, .bool i, err]) ∧ Below W.heap.size W w')
    (HR : (∀ y, y ∈ ws → y.hs.length ≤ 16) → ∀ W, Below w.heap.size w W → Calls Try.prog 34 #[.int .i64 pol, .int .u8 nodes, .slice ao ws.length c] W fun e w' => e = .returned (.tuple #[vH H, .bool i, .int .i64 f]) ∧ Below W.heap.size W w')
    (HS : ∀ W, Calls Try.prog 12 #[err, .int .i64 f] W fun e w' => e = .returned (.bool true) ∧ w' = W) :
    Calls Try.prog 5 #[.int .i64 pol, .int .u8 nodes, .slice ao ws.length c] w fun e w' => e = .returned (.bool true) ∧ Below w.heap.size w w' := by
  have HWi := hideIt (wishes_true w)
  have HV := hideIt hv
  have HM' := hideIt HM
  have HR' := hideIt HR
  have HS' := hideIt HS
  clear hv HM HR HS
  unfold vH at *
  obtain ⟨m, g⟩ := H
  go_enter Try.func5, Try.ntmps5
  go_wp2_with fail
  refine HWi.out.mono ?_
  rintro e w1 ⟨rfl, hb1⟩
  have HB1 := hideIt hb1
  have HL := hideIt (light_any _ ws w1 (HV.out.below hb1))
  clear hb1 HWi
  go_wp2_with fail
  refine HL.out.mono ?_
  rintro e w2 ⟨b, rfl, hlt, hb2⟩
  have HB2 := hideIt (HB1.out.trans (hb2.mono HB1.out.size))
  have HLt := hideIt hlt
  clear hb2 hlt HL HB1
  rcases two b with hb | hb
  · subst hb
    have HMe := hideIt (HM'.out (HLt.out rfl) w2 HB2.out)
    have HRe := hideIt (HR'.out (HLt.out rfl))
    clear HM' HR' HLt
    go_wp2_with fail
    refine HMe.out.mono ?_
    rintro e w3 ⟨rfl, hb3⟩
    have HB3 := hideIt (HB2.out.trans (hb3.mono HB2.out.size))
    have HB4 := hideIt (HB3.out.alloc HB3.out.size (.cells #[.int .u8 (m : Nat), .bool g] 60))
    have q0 : (w3.alloc (.cells #[.int .u8 (m : Nat), .bool g] 60)).cell? ⟨w3.heap.size, 0, none⟩ = some (.int .u8 (m : Nat)) := by simp
    have q1 : (w3.alloc (.cells #[.int .u8 (m : Nat), .bool g] 60)).cell? ⟨w3.heap.size, 1, none⟩ = some (.bool g) := by simp
    have hq := hideIt (And.intro q0 q1)
    clear hb3 HB2 HMe HB3 q0 q1
    go_wp2_with fail
    refine (HRe.out _ HB4.out).mono ?_
    rintro e w5 ⟨rfl, hb5⟩
    have HB5 := hideIt (HB4.out.trans (hb5.mono HB4.out.size))
    have r0 := (hb5.cell (p := ⟨w3.heap.size, 0, none⟩) (by simp)).trans hq.out.1
    have r1 := (hb5.cell (p := ⟨w3.heap.size, 1, none⟩) (by simp)).trans hq.out.2
    have s0 := cell_alloc r0 (.cells #[.int .u8 (m : Nat), .bool g] 60)
    have s1 := cell_alloc r1 (.cells #[.int .u8 (m : Nat), .bool g] 60)
    have HB6 := hideIt (HB5.out.alloc HB5.out.size (.cells #[.int .u8 (m : Nat), .bool g] 60))
    clear hb5 HB4 HRe hq HB5 r0 r1
    go_wp2_with fail
    refine (HS'.out _).mono ?_
    rintro e w6 ⟨rfl, hw6⟩
    subst w6
    go_wp2_with fail
    go_ret
    exact ⟨rfl, HB6.out⟩
  · subst hb
    go_wp2_with fail
    go_ret
    exact ⟨rfl, HB2.out⟩
end Go.Proofs.Ytlpogejkmigimaa
