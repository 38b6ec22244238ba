/- What SameWish answers: true of two wishes that are alike. -/
import Derived.Test.YtlpogejkmigimaaMEnv
namespace Go.Proofs.Ytlpogejkmigimaa
open Go.RowKit
set_option maxRecDepth 100000 in
set_option maxHeartbeats 1000000 in
theorem sameWish_true (x : Bool) (va vb : Value) (l : List (Nat × Bool)) (w : World) (ha : HintsAt w va l) (hb : HintsAt w vb l) (hl : l.length ≤ 1000) :
    Calls Try.prog 27 #[.agg #[.bool x, va], .agg #[.bool x, vb]] w fun e w' => e = .returned (.bool true) ∧ Below w.heap.size w w' := by
  obtain ⟨aa, ca, rfl, hca⟩ := ha.form
  obtain ⟨ab, cb, rfl, hcb⟩ := hb.form
  have HCa := hideIt hca
  have HCb := hideIt hcb
  clear hca hcb ha hb
  have HB : Hid (Below w.heap.size w ((w.alloc (.cells #[.bool x, .slice aa l.length ca] 53)).alloc (.cells #[.bool x, .slice ab l.length cb] 53))) := ((Below.refl _ _).alloc (Nat.le_refl _) _).alloc (by simp) _
  have hE := hideIt (show ((w.alloc (.cells #[.bool x, .slice aa l.length ca] 53)).alloc (.cells #[.bool x, .slice ab l.length cb] 53)).cell? ⟨w.heap.size, 1, none⟩ = some (.slice aa l.length ca) ∧ ((w.alloc (.cells #[.bool x, .slice aa l.length ca] 53)).alloc (.cells #[.bool x, .slice ab l.length cb] 53)).cell? ⟨w.heap.size + 1, 1, none⟩ = some (.slice ab l.length cb) by refine ⟨?_, ?_⟩ <;> go_simp)
  go_enter Try.func27, Try.ntmps27
  go_wp2_with fail
  generalize ((w.alloc (.cells #[.bool x, .slice aa l.length ca] 53)).alloc (.cells #[.bool x, .slice ab l.length cb] 53)) = W0 at *
  go_loopw [5] (fun i wr => ∃ k n : Nat, k ≤ l.length ∧ i = .int .i64 k ∧ wr = W0.drewN n) (fun i _ => l.length - (intOf i).toNat)
  case atStart => exact ⟨0, 0, by omega, rfl, rfl⟩
  case round =>
    obtain ⟨k, n, hk, rfl, rfl⟩ := hrel
    have e0 := hE.out.1
    have e1 := hE.out.2
    by_cases hlt : k < l.length
    · obtain ⟨b1, o1, rfl, hb1, hc1⟩ := HCa.out (by omega)
      obtain ⟨b2, o2, rfl, hb2, hc2⟩ := HCb.out (by omega)
      obtain ⟨p0, p1⟩ := hc1 k hlt
      obtain ⟨q0, q1⟩ := hc2 k hlt
      replace p0 := (HB.out.cell (p := ⟨b1, o1 + k * 2, none⟩) hb1).trans p0
      replace p1 := (HB.out.cell (p := ⟨b1, o1 + k * 2 + 1, none⟩) hb1).trans p1
      replace q0 := (HB.out.cell (p := ⟨b2, o2 + k * 2, none⟩) hb2).trans q0
      replace q1 := (HB.out.cell (p := ⟨b2, o2 + k * 2 + 1, none⟩) hb2).trans q1
      clear hc1 hc2
      generalize l.getD k (0, false) = y at *
      obtain ⟨m, g⟩ := y
      simp only at p0 p1 q0 q1
      go_wp2_with fail
      go_quiet (fail)
      go_wp2_with fail
      go_roundw
      case rel => exact ⟨k + 1, _, by omega, by go_num, rfl⟩
      case measure => simp [intOf]; omega
    · have hkl : k = l.length := by omega
      subst hkl
      go_wp2_with fail
      go_ret
      exact ⟨rfl, below_drewN HB.out _⟩
end Go.Proofs.Ytlpogejkmigimaa
