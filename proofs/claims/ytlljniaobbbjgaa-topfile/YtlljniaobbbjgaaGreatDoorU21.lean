/- VL1 -/
import Derived.Test.YtlljniaobbbjgaaGreatDoorU20
import Derived.Test.YtlljniaobbbjgaaGreatDoorU2
namespace Go.Proofs.YtlljniaobbbjgaaGreatDoor
open Go.RowKit Go.Shelf
open Qos (Nd Ct Pd nd ct pd)
open Sv (Gv Hd gv hd)
theorem NeedsAt.rowsL {w : World} {v : Value} {ds : List Nd} (h : NeedsAt w v ds) : RowsOf w v 2 pairP := by
  obtain ⟨ao, c, hv, hm, hr⟩ := h
  refine ⟨ao, _, c, hv, hm, fun h0 => ?_⟩
  obtain ⟨b, o, ha, hlt, hc⟩ := hr h0
  refine ⟨b, o, ha, hlt, fun k hk => ⟨[.string (nd ds k).kind, .int .i64 (nd ds k).many], rfl, fun j hj => ?_, ⟨_, _, rfl⟩⟩⟩
  match j, hj with
  | 0, _ => exact (hc k hk).1
  | 1, _ => exact (hc k hk).2
theorem ConsAt.rowsL {w : World} {v : Value} {cs : List Ct} (h : ConsAt w v cs) : RowsOf w v 6 (contP w) := by
  obtain ⟨ao, c, hv, hm, hr⟩ := h
  refine ⟨ao, _, c, hv, Nat.le_trans hm.1 hm.2, fun h0 => ?_⟩
  obtain ⟨b, o, dv, ha, hc⟩ := hr h0
  exact ⟨b, o, ha, hc.1, fun k hk => ⟨contCells (ct cs k) (dv k), rfl, (hc.2 k hk).1, ⟨_, _, _, _, _, _, rfl, (hc.2 k hk).2.rowsL⟩⟩⟩
theorem lightPodL {p : Pd} {cv : Value} {w : World} (h : ConsAt w cv p.cs) : Calls Tryz.prog 25 #[podV p cv] w fun e w' => Ans e ∧ Below w.heap.size w w' := lightPod_any p.nm p.pr cv w h.rowsL
set_option maxRecDepth 100000 in
set_option maxHeartbeats 2000000 in
theorem lightHeld_any (v : Value) (hs : List Hd) (w : World) (h : HldsAt w v hs) : Calls Tryz.prog 7 #[v] w fun e w' => Ans e ∧ Below w.heap.size w w' := by
  obtain ⟨ao, c, rfl, hm, hr⟩ := h
  unfold maxLen at hm
  have HR := hideIt hr
  clear hr
  by_cases h16 : (16 : Int) < (hs.length : Int)
  · have hx : decide ((16 : Int) < (hs.length : Int)) = true := decide_eq_true h16
    go_enter Tryz.func7, Tryz.ntmps7
    go_wp2_with fail
    go_ret
    exact ⟨⟨_, rfl⟩, Below.refl _ _⟩
  · have hx : decide ((16 : Int) < (hs.length : Int)) = false := decide_eq_false h16
    go_enter Tryz.func7, Tryz.ntmps7
    go_wp2_with fail
    go_loopw [3] (fun i wr => ∃ k : Nat, k ≤ hs.length ∧ i = .int .i64 k ∧ Below w.heap.size w wr) (fun i _ => hs.length - (intOf i).toNat)
    case atStart => exact ⟨0, by omega, rfl, Below.refl _ _⟩
    case round =>
      obtain ⟨k, hk, rfl, hb⟩ := hrel
      have HB1 := hideIt hb
      clear hb
      by_cases hlt : k < hs.length
      · obtain ⟨b, o, cv, gvv, rfl, hc⟩ := HR.out (by omega)
        obtain ⟨x0, x1, x2, x3⟩ := (hc.below HB1.out).atE hlt
        have hC := ((hc.below HB1.out).2 k hlt).2
        have HL := hideIt (hc.below HB1.out).1
        have HLP := hideIt (lightPodL hC.1)
        unfold podV at HLP
        obtain ⟨na, nc, hn, _, _⟩ := hC.1
        obtain ⟨ga, gc, hg, gm, hG⟩ := hC.2.parts
        have HG := hideIt hG
        unfold maxLen at gm
        rw [hn] at HLP x2
        rw [hg] at x3
        clear hC hc hG hn hg
        generalize (hd hs k).pod.nm = nm at *
        generalize (hd hs k).pod.pr = pr at *
        generalize (hd hs k).pod.cs.length = cl at *
        generalize (hd hs k).gs = xg at *
        go_wp2_with fail
        refine HLP.out.mono ?_
        rintro e W1 ⟨⟨lb, rfl⟩, hb1⟩
        have y3 := (hb1.cell (p := ⟨b, o + k * 4 + 3, none⟩) HL.out).trans x3
        have HB2 := hideIt (HB1.out.trans (hb1.mono HB1.out.size))
        have HBW := hideIt hb1
        clear hb1 HLP
        cases lb with
        | false =>
          go_wp2_with fail
          go_ret
          exact ⟨⟨_, rfl⟩, HB2.out⟩
        | true =>
          by_cases h5 : (5 : Int) < (xg.length : Int)
          · have hx5 : decide ((5 : Int) < (xg.length : Int)) = true := decide_eq_true h5
            go_wp2_with fail
            go_ret
            exact ⟨⟨_, rfl⟩, HB2.out⟩
          · have hx5 : decide ((5 : Int) < (xg.length : Int)) = false := decide_eq_false h5
            go_wp2_with fail
            go_loopw [4] (fun i wq => ∃ j : Nat, j ≤ xg.length ∧ i = .int .i64 j ∧ wq = W1) (fun i _ => xg.length - (intOf i).toNat)
            case atStart => exact ⟨0, by omega, rfl, rfl⟩
            case round =>
              obtain ⟨j, hj, rfl, rfl⟩ := hrel
              by_cases hjl : j < xg.length
              · obtain ⟨u, v, dv, rfl, hu, z0, z1, hi⟩ := HG.out j hjl
                have z1 := (HBW.out.cell (p := ⟨u, v + j * 2 + 1, none⟩) hu).trans z1
                obtain ⟨da, dc, rfl, dm, _⟩ := hi
                unfold maxLen at dm
                generalize (gv xg j).dv = dx at *
                by_cases h20 : (20 : Int) < (dx.length : Int)
                · have hx20 : decide ((20 : Int) < (dx.length : Int)) = true := decide_eq_true h20
                  go_wp2_with fail
                  go_ret
                  exact ⟨⟨_, rfl⟩, HB2.out⟩
                · have hx20 : decide ((20 : Int) < (dx.length : Int)) = false := decide_eq_false h20
                  go_wp2_with fail
                  go_roundw
                  case rel => exact ⟨j + 1, by omega, by go_num, trivial⟩
                  case measure => simp [intOf]; omega
              · have hje : j = xg.length := by omega
                subst hje
                go_wp2_with fail
                go_roundw
                case rel => exact ⟨k + 1, by omega, by go_num, HB2.out⟩
                case measure => simp [intOf]; omega
      · have hke : k = hs.length := by omega
        subst hke
        go_wp2_with fail
        go_ret
        exact ⟨⟨_, rfl⟩, HB1.out⟩
theorem run_assertN (f : Int) (w : World) : (Instr.typeAssert (.iface 80 (.int .i64 f)) 27 80 true).run Tryz.prog w = .ok (.tuple #[.int .i64 f, .bool true]) w := by kernel_rfl
set_option maxRecDepth 100000 in
theorem number_any (k : Int) (w : World) : Calls Tryz.prog 23 #[.iface 80 (.int .i64 k)] w fun e w' => e = .returned (.int .i64 k) ∧ w' = w := by
  have hta := run_assertN k
  go_enter Tryz.func23, Tryz.ntmps23
  go_wp2_with fail
  go_ret
  exact ⟨rfl, rfl⟩
end Go.Proofs.YtlljniaobbbjgaaGreatDoor
