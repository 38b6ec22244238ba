/- What hints.outcomes answers: contract. -/
import Derived.Test.YtlpogejkmigimaaMW2
namespace Go.Proofs.Ytlpogejkmigimaa
open Go.RowKit
open Ost (Hi Wi wi0 Low withL bet pop8 choTo choP okH within nextIn nextTo waysTo com)
/-- Wishes that are no great ones. -/
def Light (ws : List Wi) : Prop := ∀ y, y ∈ ws → Low y.hs ∧ y.hs.length ≤ 16
theorem choP_low (pol : Int) (nodes : Nat) (y : Wi) (hn : nodes < 256) : Low (choP pol nodes y) := fun x hx => by
  obtain ⟨c, _, rfl⟩ := (Ost.choP_mem ..).1 hx
  exact Nat.lt_of_le_of_lt Nat.and_le_right hn
/-- A cell of a block that is as it was. -/
theorem far_cell {w w' : World} {b o : Nat} {v : Value} (h : w'.heap[b]? = w.heap[b]?) (hc : w.cell? ⟨b, o, none⟩ = some v) : w'.cell? ⟨b, o, none⟩ = some v := (World.cell?_of_block (w := w) (a := ⟨b, o, none⟩) h).trans hc
/-- What outcomes leaves: made anew. -/
def ChosenF (w : World) (l : List Hi) (e : Ending) (w' : World) : Prop := ∃ v, e = .returned v ∧ HintsAt w' v l ∧ Below w.heap.size w w' ∧ ∀ b o n c, v = .slice (some ⟨b, o, none⟩) n c → w.heap.size ≤ b
set_option maxRecDepth 100000 in
set_option maxHeartbeats 4000000 in
theorem outcomes_any (pol : Int) (nodes : Nat) (v : Value) (ws : List Wi) (w : World) (hv : WishesAt w v ws) (hw : Light ws) (hl : ws.length ≤ 4) (hn : nodes < 256) (hp : 0 ≤ pol ∧ pol ≤ 3) :
    Calls Try.prog 52 #[.int .i64 pol, .int .u8 nodes, v] w fun e w' => ChosenF w (waysTo pol nodes ws ws.length) e w' := by
  have HV := hideIt hv
  obtain ⟨ao, c, rfl, _⟩ := hv.form
  have HLi := hideIt hw
  clear hv hw
  go_enter Try.func52, Try.ntmps52
  go_wp2_with fail
  have HO0 := hideIt (oneHint w nodes true 60)
  have HB0 : Hid (Below w.heap.size w (w.alloc (.cells #[.int .u8 (nodes : Nat), .bool true] 60))) := (Below.refl _ _).alloc (Nat.le_refl _) _
  go_loopw [7, 21] (fun vW i wr => ∃ k : Nat, k ≤ ws.length ∧ i = .int .i64 k ∧ Hid (HintsAt wr vW (waysTo pol nodes ws k)) ∧ Hid (Below w.heap.size w wr) ∧ Hid (∀ b o n c, vW = .slice (some ⟨b, o, none⟩) n c → w.heap.size ≤ b)) (fun _ i _ => ws.length - (intOf i).toNat)
  case atStart => exact ⟨0, by omega, rfl, HO0.out, HB0.out, fun b o n c h => by cases h; exact Nat.le_refl _⟩
  case round =>
    obtain ⟨k, hk, rfl, HW, HB, HFr⟩ := hrel
    clear HO0 HB0
    have hlenW := Ost.waysTo_len pol nodes ws (fun y hy => (HLi.out y hy).2) k hk
    have hpow := Ost.pow_le4 k (by omega)
    by_cases hlt : k < ws.length
    · obtain ⟨ao', c', hv', hcs⟩ := (HV.out.below HB.out).form
      obtain ⟨rfl, rfl⟩ : ao = ao' ∧ c = c' := by simpa using hv'
      obtain ⟨b, o, rfl, hbl, hcs⟩ := hcs (by omega)
      obtain ⟨c0, u, c1, hu⟩ := hcs k hlt
      have hy := HLi.out _ (Ost.getD_mem ws wi0 k hlt)
      have HNx : Hid (waysTo pol nodes ws (k + 1) = nextTo (choP pol nodes (ws.getD k wi0)) (waysTo pol nodes ws k) (choP pol nodes (ws.getD k wi0)).length) := rfl
      clear hcs hv'
      generalize ws.getD k wi0 = y at *
      obtain ⟨any, hs⟩ := y
      simp only at c0 c1 hu hy
      have HLw := hideIt (Ost.Outs.low (Ost.waysTo_outs pol nodes ws k) hn)
      have HLw := hideIt (Ost.Outs.low (Ost.waysTo_outs pol nodes ws k) hn)
      have HLw := hideIt (Ost.Outs.low (Ost.waysTo_outs pol nodes ws k) hn)
      generalize waysTo pol nodes ws k = W at *
      have hCl := Ost.choP_len pol nodes ⟨any, hs⟩ hy.2
      have HLc := hideIt (choP_low pol nodes ⟨any, hs⟩ hn)
      have HLc := hideIt (choP_low pol nodes ⟨any, hs⟩ hn)
      have HLc := hideIt (choP_low pol nodes ⟨any, hs⟩ hn)
      obtain ⟨ao2, c2, rfl, _⟩ := hu.form
      have HX := hideIt ((Below.refl wr.heap.size wr).alloc (Nat.le_refl _) (.cells #[.bool any, .slice ao2 hs.length c2] 53))
      have HCh := hideIt (choices_any pol nodes any (.slice ao2 hs.length c2) hs (wr.alloc (.cells #[.bool any, .slice ao2 hs.length c2] 53)) (hu.below HX.out) hy.1 hy.2 hn hp)
      have HWa := hideIt (HW.out.below HX.out)
      have HBa := hideIt (HB.out.trans (HX.out.mono HB.out.size))
      have HWl := hideIt (HintsAt.form HW.out)
      obtain ⟨aw, cw, rfl, _⟩ := HintsAt.form HW.out
      clear hu hy HW HB
      go_wp2_with fail
      refine HCh.out.mono ?_
      rintro e w2 ⟨vC, rfl, hC, hb2⟩
      have HW2 := hideIt (HWa.out.below hb2)
      have HB2 := hideIt (HBa.out.trans (hb2.mono HBa.out.size))
      have HC := hideIt hC
      generalize choP pol nodes ⟨any, hs⟩ = C at *
      obtain ⟨ac, cc, rfl, _⟩ := hC.form
      clear hC hb2 HWa HBa HCh HX c0 c1
      go_wp2_with fail
      generalize hB2 : w2.heap.size = B at *
      go_loopw [10, 30] (fun vN i wq => ∃ i' : Nat, i' ≤ C.length ∧ i = .int .i64 i' ∧ Hid (wq.ownsRow B 60 2 vN (nextTo C W i').length (hintCells (nextTo C W i'))) ∧ Hid (Below B w2 wq)) (fun _ i _ => C.length - (intOf i).toNat)
      case atStart => exact ⟨0, by omega, rfl, World.ownsRow_nil _ _ _ _, Below.refl _ _⟩
      case round =>
        obtain ⟨i', hi, rfl, HR, HBq⟩ := hrel
        have hszq : B ≤ wr.heap.size := Nat.le_trans (Nat.le_of_eq hB2.symm) HBq.out.size
        have hNl := Ost.nextTo_len C W i'
        have hml : i' * W.length ≤ 16 * 65536 := Nat.mul_le_mul (by omega) (by omega)
        have HStep : Hid (nextTo C W (i' + 1) = nextIn (C.getD i' (0, false)) W (nextTo C W i') W.length) := rfl
        obtain ⟨an0, cn0, rfl⟩ := row_slice HR.out
        by_cases hit : i' < C.length
        · obtain ⟨ac', cc', hv', hcs⟩ := (HC.out.below (by rw [hB2]; exact HBq.out)).form
          obtain ⟨rfl, rfl⟩ : ac = ac' ∧ cc = cc' := by simpa using hv'
          obtain ⟨b3, o3, rfl, hbl3, hcs⟩ := hcs (by omega)
          obtain ⟨d0, d1⟩ := hcs i' hit
          have hm := HLc.out _ (Ost.getD_mem C (0, false) i' hit)
          clear hcs hv'
          generalize C.getD i' (0, false) = x at *
          obtain ⟨m, g⟩ := x
          simp only at d0 d1 hm
          generalize nextTo C W i' = N at *
          have HRa := hideIt (HR.out.alloc (.cells #[.int .u8 (m : Nat), .bool g] 60))
          have HBa := hideIt (HBq.out.alloc hszq (.cells #[.int .u8 (m : Nat), .bool g] 60))
          have HLn := hideIt (HR.out.lt)
          have hL0 : (wr.alloc (.cells #[.int .u8 (m : Nat), .bool g] 60)).cell? ⟨wr.heap.size, 0, none⟩ = some (.int .u8 (m : Nat)) := by simp
          have hL1 : (wr.alloc (.cells #[.int .u8 (m : Nat), .bool g] 60)).cell? ⟨wr.heap.size, 1, none⟩ = some (.bool g) := by simp
          have hL0 := hideIt hL0
          have hL1 := hideIt hL1
          clear HR HBq
          go_wp2_with fail
          generalize hLL : wr.heap.size = L at *
          go_loopw [10, 36] (fun vN i wx => ∃ (j : Nat) (vv : Value), j ≤ W.length ∧ i = .int .i64 j ∧ vN = vv ∧ Hid (wx.ownsRow B 60 2 vv (nextIn (m, g) W N j).length (hintCells (nextIn (m, g) W N j))) ∧ Hid (Below B w2 wx) ∧ wx.cell? ⟨L, 0, none⟩ = some (.int .u8 (m : Nat)) ∧ wx.cell? ⟨L, 1, none⟩ = some (.bool g) ∧ Hid (some L ≠ vv.ownBlock)) (fun _ i _ => W.length - (intOf i).toNat)
          case atStart => exact ⟨0, _, by omega, rfl, rfl, HRa.out, HBa.out, hL0.out, hL1.out, fun h => by have := (HLn.out L h.symm).2; omega⟩
          case round =>
            obtain ⟨j, vv, hj, rfl, rfl, HRx, HBx, l0, l1, HOwn⟩ := hrel
            clear HRa HBa hL0 hL1 HLn hLL
            have hszx : B ≤ wr.heap.size := Nat.le_trans (Nat.le_of_eq hB2.symm) HBx.out.size
            have hLx := World.block_lt_of_cell? _ _ l0
            have hnl2 := Ost.nextIn_len (m, g) W N j
            obtain ⟨an, cn, rfl⟩ := row_slice HRx.out
            by_cases hjt : j < W.length
            · obtain ⟨aw', cw', hv', hcs⟩ := (HW2.out.below (by rw [hB2]; exact HBx.out)).form
              obtain ⟨rfl, rfl⟩ : aw = aw' ∧ cw = cw' := by simpa using hv'
              obtain ⟨b4, o4, rfl, hbl4, hcs⟩ := hcs (by omega)
              obtain ⟨q0, q1⟩ := hcs j hjt
              have hpp := HLw.out _ (Ost.getD_mem W (0, false) j hjt)
              have HStp : nextIn (m, g) W N (j + 1) = if (Ost.com (W.getD j (0, false)) (m, g)).1 = 0 then nextIn (m, g) W N j else withL (nextIn (m, g) W N j) (Ost.com (W.getD j (0, false)) (m, g)) := rfl
              clear hcs hv'
              generalize W.getD j (0, false) = z at *
              obtain ⟨p, f⟩ := z
              simp only at q0 q1 hpp
              have hand := and8' p m hpp hm
              rcases two f with hf | hf
              · subst hf
                have HCo : Hid (Ost.com (p, true) (m, g) = (p &&& m, g)) := by cases g <;> rfl
                rw [HCo.out] at HStp
                have HWi := hideIt (with_far B (.slice an (nextIn (m, g) W N j).length cn) (nextIn (m, g) W N j) (p &&& m, g) ((wr.alloc (.cells #[.int .u8 (p : Nat), .bool true] 60)).alloc (.cells #[.int .u8 ((p &&& m : Nat) : Int), .bool g] 60)) ((HRx.out.alloc _).alloc _) (by omega) (by simp; omega))
                unfold vH at HWi
                have HBx2 := hideIt ((HBx.out.alloc hszx (.cells #[.int .u8 (p : Nat), .bool true] 60)).alloc (by simp; omega) (.cells #[.int .u8 ((p &&& m : Nat) : Int), .bool g] 60))
                have HRx2 := hideIt ((HRx.out.alloc (.cells #[.int .u8 (p : Nat), .bool true] 60)).alloc (.cells #[.int .u8 ((p &&& m : Nat) : Int), .bool g] 60))
                have z0 := cell_alloc l0 (.cells #[.int .u8 (p : Nat), .bool true] 60)
                have z1 := cell_alloc l1 (.cells #[.int .u8 (p : Nat), .bool true] 60)
                have zz0 := cell_alloc z0 (.cells #[.int .u8 ((p &&& m : Nat) : Int), .bool g] 60)
                have zz1 := cell_alloc z1 (.cells #[.int .u8 ((p &&& m : Nat) : Int), .bool g] 60)
                by_cases hz : p &&& m = 0
                · have hz0 : ((p &&& m : Nat) : Int) = 0 := by omega
                  rw [if_pos hz] at HStp
                  have HStp := hideIt HStp
                  rw [hz0] at HBx2 HRx2 zz0 zz1 hand
                  clear hz hz0 HWi
                  go_wp2_with fail
                  go_roundw
                  case rel => exact ⟨j + 1, _, by omega, by go_num, rfl, by rw [HStp.out]; exact HRx2.out, HBx2.out, zz0, zz1, HOwn.out⟩
                  case measure => simp [intOf]; omega
                · have hz2 : (((p &&& m : Nat) : Int) == 0) = false := by rw [beq_eq_false_iff_ne]; omega
                  rw [if_neg hz] at HStp
                  have HStp := hideIt HStp
                  have hz := hideIt hz
                  generalize p &&& m = pm at *
                  go_wp2_with fail
                  refine HWi.out.mono ?_
                  rintro e w5 ⟨v5, rfl, hr5, hb5, hfar⟩
                  have HR5 := hideIt hr5
                  have HB5 := hideIt (HBx2.out.trans hb5)
                  have hLs : L < ((wr.alloc (.cells #[.int .u8 (p : Nat), .bool true] 60)).alloc (.cells #[.int .u8 (pm : Int), .bool g] 60)).heap.size := by simp; omega
                  have y0 := far_cell (hfar L hLs HOwn.out).1 zz0
                  have y1 := far_cell (hfar L hLs HOwn.out).1 zz1
                  have HOwn5 := hideIt (hfar L hLs HOwn.out).2
                  obtain ⟨a5, c5, rfl⟩ := row_slice HR5.out
                  clear hr5 hb5 hfar hLs HWi zz0 zz1 z0 z1 l0 l1 HBx2 HRx2
                  go_wp2_with fail
                  go_roundw
                  case rel => exact ⟨j + 1, _, by omega, by go_num, rfl, by rw [HStp.out]; exact HR5.out, HB5.out, y0, y1, HOwn5.out⟩
                  case measure => simp [intOf]; omega
              · subst hf
                have HCo : Hid (Ost.com (p, false) (m, g) = (p &&& m, false)) := by rfl
                rw [HCo.out] at HStp
                have HWi := hideIt (with_far B (.slice an (nextIn (m, g) W N j).length cn) (nextIn (m, g) W N j) (p &&& m, false) ((wr.alloc (.cells #[.int .u8 (p : Nat), .bool false] 60)).alloc (.cells #[.int .u8 ((p &&& m : Nat) : Int), .bool false] 60)) ((HRx.out.alloc _).alloc _) (by omega) (by simp; omega))
                unfold vH at HWi
                have HBx2 := hideIt ((HBx.out.alloc hszx (.cells #[.int .u8 (p : Nat), .bool false] 60)).alloc (by simp; omega) (.cells #[.int .u8 ((p &&& m : Nat) : Int), .bool false] 60))
                have HRx2 := hideIt ((HRx.out.alloc (.cells #[.int .u8 (p : Nat), .bool false] 60)).alloc (.cells #[.int .u8 ((p &&& m : Nat) : Int), .bool false] 60))
                have z0 := cell_alloc l0 (.cells #[.int .u8 (p : Nat), .bool false] 60)
                have z1 := cell_alloc l1 (.cells #[.int .u8 (p : Nat), .bool false] 60)
                have zz0 := cell_alloc z0 (.cells #[.int .u8 ((p &&& m : Nat) : Int), .bool false] 60)
                have zz1 := cell_alloc z1 (.cells #[.int .u8 ((p &&& m : Nat) : Int), .bool false] 60)
                by_cases hz : p &&& m = 0
                · have hz0 : ((p &&& m : Nat) : Int) = 0 := by omega
                  rw [if_pos hz] at HStp
                  have HStp := hideIt HStp
                  rw [hz0] at HBx2 HRx2 zz0 zz1 hand
                  clear hz hz0 HWi
                  go_wp2_with fail
                  go_roundw
                  case rel => exact ⟨j + 1, _, by omega, by go_num, rfl, by rw [HStp.out]; exact HRx2.out, HBx2.out, zz0, zz1, HOwn.out⟩
                  case measure => simp [intOf]; omega
                · have hz2 : (((p &&& m : Nat) : Int) == 0) = false := by rw [beq_eq_false_iff_ne]; omega
                  rw [if_neg hz] at HStp
                  have HStp := hideIt HStp
                  have hz := hideIt hz
                  generalize p &&& m = pm at *
                  go_wp2_with fail
                  refine HWi.out.mono ?_
                  rintro e w5 ⟨v5, rfl, hr5, hb5, hfar⟩
                  have HR5 := hideIt hr5
                  have HB5 := hideIt (HBx2.out.trans hb5)
                  have hLs : L < ((wr.alloc (.cells #[.int .u8 (p : Nat), .bool false] 60)).alloc (.cells #[.int .u8 (pm : Int), .bool false] 60)).heap.size := by simp; omega
                  have y0 := far_cell (hfar L hLs HOwn.out).1 zz0
                  have y1 := far_cell (hfar L hLs HOwn.out).1 zz1
                  have HOwn5 := hideIt (hfar L hLs HOwn.out).2
                  obtain ⟨a5, c5, rfl⟩ := row_slice HR5.out
                  clear hr5 hb5 hfar hLs HWi zz0 zz1 z0 z1 l0 l1 HBx2 HRx2
                  go_wp2_with fail
                  go_roundw
                  case rel => exact ⟨j + 1, _, by omega, by go_num, rfl, by rw [HStp.out]; exact HR5.out, HB5.out, y0, y1, HOwn5.out⟩
                  case measure => simp [intOf]; omega
            · have hjl : j = W.length := by omega
              subst hjl
              go_wp2_with fail
              go_roundw
              case rel => exact ⟨i' + 1, by omega, by go_num, by rw [HStep.out]; exact HRx.out, HBx.out⟩
              case measure => simp [intOf]; omega
        · have hil : i' = C.length := by omega
          subst hil
          have HH := hideIt (HintsAt.of_row HR.out)
          have hBs : w.heap.size ≤ B := by rw [← hB2]; exact HB2.out.size
          have HBf := hideIt (HB2.out.trans (HBq.out.mono hBs))
          have HFr2 := hideIt (fresh_row HR.out hBs)
          go_wp2_with fail
          go_roundw
          case rel => exact ⟨k + 1, by omega, by go_num, by rw [HNx.out]; exact HH.out, HBf.out, HFr2.out⟩
          case measure => simp [intOf]; omega
    · have hkl : k = ws.length := by omega
      subst hkl
      obtain ⟨aw, cw, rfl, _⟩ := HintsAt.form HW.out
      go_wp2_with fail
      go_ret
      exact ⟨_, rfl, HW.out, HB.out, HFr.out⟩
end Go.Proofs.Ytlpogejkmigimaa
