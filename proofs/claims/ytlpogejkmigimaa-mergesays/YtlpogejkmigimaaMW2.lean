/- What hints.choices answers: contract. -/
import Derived.Test.YtlpogejkmigimaaMW1
namespace Go.Proofs.Ytlpogejkmigimaa
open Go.RowKit
open Ost (Hi Wi wi0 Low withL bet pop8 choTo choP okH within)
/-- What choices leaves. -/
def Chosen (w : World) (l : List Hi) (e : Ending) (w' : World) : Prop := ∃ v, e = .returned v ∧ HintsAt w' v l ∧ Below w.heap.size w w'
theorem and8' (a b : Nat) (ha : a < 256) (hb : b < 256) : bits BinOp.and IntKind.u8 (a : Int) (b : Int) = ((a &&& b : Nat) : Int) := by
  have hx : a &&& b < 2 ^ 8 := Nat.and_lt_two_pow _ (by omega)
  have h1 : (BitVec.ofInt 8 (a : Int)).toNat = a := by
    rw [BitVec.ofInt_natCast, BitVec.toNat_ofNat]; exact Nat.mod_eq_of_lt (by omega)
  have h2 : (BitVec.ofInt 8 (b : Int)).toNat = b := by
    rw [BitVec.ofInt_natCast, BitVec.toNat_ofNat]; exact Nat.mod_eq_of_lt (by omega)
  show IntKind.u8.wrap ((BitVec.ofInt 8 (a : Int) &&& BitVec.ofInt 8 (b : Int)).toNat : Int) = _
  rw [BitVec.toNat_and, h1, h2]
  show ((a &&& b : Nat) : Int) % 256 = _
  omega
/-- One hint, just made. -/
theorem oneHint (w : World) (m : Nat) (g : Bool) (t : TypeId) : HintsAt (w.alloc (.cells #[.int .u8 (m : Nat), .bool g] t)) (.slice (some ⟨w.heap.size, 0, none⟩) 1 1) [(m, g)] :=
  .inr ⟨w.heap.size, 0, 1, rfl, by simp, fun k hk => by
    have : k = 0 := by simpa using hk
    subst this
    exact ⟨by simp, by simp⟩⟩
set_option maxRecDepth 100000 in
set_option maxHeartbeats 1000000 in
theorem choices_free (pol : Int) (nodes : Nat) (v : Value) (w : World) (ao : Option Addr) (n c : Nat) (hv : v = .slice ao n c) :
    Calls Try.prog 59 #[.int .i64 pol, .int .u8 nodes, .agg #[.bool true, v]] w fun e w' => Chosen w [(nodes, true)] e w' := by
  subst hv
  have HB : Hid (Below w.heap.size w ((w.alloc (.cells #[.bool true, .slice ao n c] 53)).alloc (.cells #[.int .u8 (nodes : Nat), .bool true] 60))) := ((Below.refl _ _).alloc (Nat.le_refl _) _).alloc (by simp) _
  have HO := oneHint (w.alloc (.cells #[.bool true, .slice ao n c] 53)) nodes true 60
  simp only [World.size_alloc] at HO
  have HO := hideIt HO
  go_enter Try.func59, Try.ntmps59
  go_wp2_with fail
  go_ret
  exact ⟨_, rfl, HO.out, HB.out⟩
set_option maxRecDepth 100000 in
set_option maxHeartbeats 1000000 in
theorem choices_some (pol : Int) (nodes : Nat) (v : Value) (hs : List Hi) (w : World) (hv : HintsAt w v hs) (hlow : Low hs) (hl : hs.length ≤ 16) (hn : nodes < 256) (hp : 0 ≤ pol ∧ pol ≤ 3) :
    Calls Try.prog 59 #[.int .i64 pol, .int .u8 nodes, .agg #[.bool false, v]] w fun e w' => Chosen w (choP pol nodes ⟨false, hs⟩) e w' := by
  obtain ⟨ao, c, rfl, hc⟩ := hv.form
  have HC := hideIt hc
  clear hc hv
  have HX : Hid (Below w.heap.size w (w.alloc (.cells #[.bool false, .slice ao hs.length c] 53))) := (Below.refl _ _).alloc (Nat.le_refl _) _
  have HLo := hideIt hlow
  clear hlow
  go_enter Try.func59, Try.ntmps59
  go_wp2_with fail
  have HO2 := hideIt fun (w : World) => oneHint w nodes false 60
  go_loopw [7, 18] (fun l i wr => ∃ k : Nat, k ≤ hs.length ∧ i = .int .i64 k ∧ Hid (wr.ownsRow (w.heap.size + 1) 60 2 l (choTo pol nodes hs k).length (hintCells (choTo pol nodes hs k))) ∧ Hid (Below (w.heap.size + 1) (w.alloc (.cells #[.bool false, .slice ao hs.length c] 53)) wr) ∧ w.heap.size + 1 ≤ wr.heap.size) (fun _ i _ => hs.length - (intOf i).toNat)
  case atStart => exact ⟨0, by omega, rfl, World.ownsRow_nil _ _ _ _, Below.refl _ _, by simp⟩
  case round =>
    obtain ⟨k, hk, rfl, HR, HB, hsz⟩ := hrel
    have hcl := Ost.choTo_len pol nodes hs k
    by_cases hlt : k < hs.length
    · obtain ⟨b, o, rfl, hb, hcs⟩ := HC.out (by omega)
      obtain ⟨c0, c1⟩ := hcs k hlt
      replace c0 := ((HB.out.cell (p := ⟨b, o + k * 2, none⟩) (by show b < w.heap.size + 1; omega)).trans (HX.out.cell (p := ⟨b, o + k * 2, none⟩) hb)).trans c0
      replace c1 := ((HB.out.cell (p := ⟨b, o + k * 2 + 1, none⟩) (by show b < w.heap.size + 1; omega)).trans (HX.out.cell (p := ⟨b, o + k * 2 + 1, none⟩) hb)).trans c1
      have hx := HLo.out _ (Ost.getD_mem hs (0, false) k hlt)
      have hSt : choTo pol nodes hs (k + 1) = if okH pol (hs.getD k (0, false)) then withL (choTo pol nodes hs k) (within nodes (hs.getD k (0, false))) else choTo pol nodes hs k := rfl
      have HSt := hideIt hSt
      clear hSt hcs
      generalize hs.getD k (0, false) = x at *
      obtain ⟨m, g⟩ := x
      simp only at c0 c1 hx
      have HP := hideIt (fun w => nodesH_any m w hx)
      have hp8 := Ost.pop8_le m
      have hand := and8' m nodes hx hn
      have HBa := hideIt (HB.out.alloc hsz (.cells #[.int .u8 (m : Nat), .bool g] 60))
      have HRa := hideIt (HR.out.alloc (.cells #[.int .u8 (m : Nat), .bool g] 60))
      have HW := hideIt fun v' => with_any (w.heap.size + 1) v' (choTo pol nodes hs k) (within nodes (m, g)) (wr.alloc (.cells #[.int .u8 (m : Nat), .bool g] 60))
      unfold vH within at HW
      obtain ⟨ao2, c2, rfl⟩ := row_slice HR.out
      rcases two (decide (pol = 3)) with hpol | hpol
      · have hpol := of_decide_eq_true hpol
        subst hpol
        rcases two g with hg | hg
        · subst hg
          by_cases hpm : pop8 m = 1
          · have hok : Hid (okH 3 (m, true) = true) := by unfold Hid okH; simp [hpm]
            have hpm2 : ((pop8 m : Int) == 1) = true := by rw [beq_iff_eq]; omega
            clear hpm
            generalize pop8 m = p at *
            go_wp2_with fail
            refine (HP.out _).mono ?_
            rintro e w5 ⟨rfl, hw5⟩
            subst w5
            go_wp2_with fail
            refine (HW.out _ HRa.out (by omega) (by simp; omega)).mono ?_
            rintro e w2 ⟨v2, rfl, hr2, hb2⟩
            have HR2 := hideIt hr2
            have HB2 := hideIt (HBa.out.trans hb2)
            have hsz2 : w.heap.size + 1 ≤ w2.heap.size := Nat.le_trans (by simp; omega) hb2.size
            obtain ⟨ao3, c3, rfl⟩ := row_slice HR2.out
            clear hr2 hb2 HW HRa HBa HR HB c0 c1
            go_wp2_with fail
            go_roundw
            case rel => exact ⟨k + 1, by omega, by go_num, by rw [HSt.out, if_pos hok.out]; exact HR2.out, HB2.out, hsz2⟩
            case measure => simp [intOf]; omega
          · have hok : Hid (¬ okH 3 (m, true) = true) := by unfold Hid okH; simp [hpm]
            have hpm2 : ((pop8 m : Int) == 1) = false := by rw [beq_eq_false_iff_ne]; omega
            clear hpm
            generalize pop8 m = p at *
            go_wp2_with fail
            refine (HP.out _).mono ?_
            rintro e w5 ⟨rfl, hw5⟩
            subst w5
            go_wp2_with fail
            go_roundw
            case rel => exact ⟨k + 1, by omega, by go_num, by rw [HSt.out, if_neg hok.out]; exact HRa.out, HBa.out, by simp; omega⟩
            case measure => simp [intOf]; omega
        · subst hg
          have hok : Hid (¬ okH 3 (m, false) = true) := by unfold Hid okH; simp
          go_wp2_with fail
          go_roundw
          case rel => exact ⟨k + 1, by omega, by go_num, by rw [HSt.out, if_neg hok.out]; exact HRa.out, HBa.out, by simp; omega⟩
          case measure => simp [intOf]; omega
      · have hpol := of_decide_eq_false hpol
        have hok : Hid (okH pol (m, g) = true) := by unfold Hid okH; rw [decide_eq_true (by omega)]; rfl
        have hpol2 : (pol == 3) = false := by rw [beq_eq_false_iff_ne]; exact hpol
        go_wp2_with fail
        refine (HW.out _ HRa.out (by omega) (by simp; omega)).mono ?_
        rintro e w2 ⟨v2, rfl, hr2, hb2⟩
        have HR2 := hideIt hr2
        have HB2 := hideIt (HBa.out.trans hb2)
        have hsz2 : w.heap.size + 1 ≤ w2.heap.size := Nat.le_trans (by simp; omega) hb2.size
        obtain ⟨ao3, c3, rfl⟩ := row_slice HR2.out
        clear hr2 hb2 HW HRa HBa HR HB c0 c1
        go_wp2_with fail
        go_roundw
        case rel => exact ⟨k + 1, by omega, by go_num, by rw [HSt.out, if_pos hok.out]; exact HR2.out, HB2.out, hsz2⟩
        case measure => simp [intOf]; omega
    · have hkl : k = hs.length := by omega
      subst hkl
      have hEq : choP pol nodes ⟨false, hs⟩ = if (choTo pol nodes hs hs.length).length = 0 then [(nodes, false)] else choTo pol nodes hs hs.length := rfl
      obtain ⟨ao2, c2, rfl⟩ := row_slice HR.out
      have HBe := hideIt (HX.out.trans (HB.out.mono (by omega)))
      have hsz' : w.heap.size ≤ wr.heap.size := by omega
      by_cases h0 : (choTo pol nodes hs hs.length).length = 0
      · rw [if_pos h0] at hEq
        have hEq := hideIt hEq
        have HH := hideIt (HO2.out wr)
        go_wp2_with fail
        go_ret
        exact ⟨_, rfl, by rw [hEq.out]; exact HH.out, HBe.out.alloc hsz' _⟩
      · rw [if_neg h0] at hEq
        have hEq := hideIt hEq
        have h0' : ((((choTo pol nodes hs hs.length).length : Nat) : Int) == 0) = false := by rw [beq_eq_false_iff_ne]; omega
        have HH := hideIt (HintsAt.of_row HR.out)
        generalize choTo pol nodes hs hs.length = l at *
        go_wp2_with fail
        go_ret
        exact ⟨_, rfl, by rw [hEq.out]; exact HH.out, HBe.out⟩
theorem choices_any (pol : Int) (nodes : Nat) (any : Bool) (v : Value) (hs : List Hi) (w : World) (hv : HintsAt w v hs) (hlow : Low hs) (hl : hs.length ≤ 16) (hn : nodes < 256) (hp : 0 ≤ pol ∧ pol ≤ 3) :
    Calls Try.prog 59 #[.int .i64 pol, .int .u8 nodes, .agg #[.bool any, v]] w fun e w' => Chosen w (choP pol nodes ⟨any, hs⟩) e w' := by
  cases any
  · exact choices_some pol nodes v hs w hv hlow hl hn hp
  · obtain ⟨ao, c, hv', _⟩ := hv.form
    exact choices_free pol nodes v w ao _ c hv'
end Go.Proofs.Ytlpogejkmigimaa
