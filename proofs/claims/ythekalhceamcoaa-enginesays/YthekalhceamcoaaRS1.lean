/- What runs, held against each other: contracts. -/
import Derived.Test.YthekalhceamcoaaRE3
import Derived.Deep.QuietTactic
import Derived.BigQuiet
namespace Go.Proofs.Ythekalhceamcoaa
open Go.RowKit
set_option maxRecDepth 100000 in
set_option maxHeartbeats 1000000 in
theorem sameDevs_any (x y : RV) (w : World) (hx : DevsOk w x) (hy : DevsOk w y) (he : devsOf w x = devsOf w y) (hl : x.dn ≤ 1000) :
    Calls Try.prog 31 #[.slice x.da x.dn x.dc, .slice y.da y.dn y.dc] w fun e w' => e = .returned (.bool true) ∧ ∃ n, w' = w.drewN n := by
  have hn : x.dn = y.dn := by rw [← devs_len w x, ← devs_len w y, he]
  have hd : ∀ k, k < x.dn → devAt w x k = devAt w y k := fun k hk => by
    have h1 := congrArg (fun l => l[k]?) he
    simp only [devsOf] at h1
    rw [List.getElem?_map, List.getElem?_map, List.getElem?_range hk, List.getElem?_range (by omega)] at h1
    simpa using h1
  have HX := hideIt (fun h0 => hx h0)
  have HY := hideIt (fun h0 => hy h0)
  have HD := hideIt hd
  clear hx hy hd he
  rw [← hn]
  rw [← hn] at HY
  generalize devAt w x = dx at *
  generalize devAt w y = dy at *
  generalize x.da = xa at *
  generalize y.da = ya at *
  generalize x.dn = n at *
  go_enter Try.func31, Try.ntmps31
  go_wp2_with fail
  go_loopw [5] (fun i wr => ∃ k m : Nat, k ≤ n ∧ i = .int .i64 k ∧ wr = w.drewN m) (fun i _ => n - (intOf i).toNat)
  case atStart => exact ⟨0, 0, by omega, rfl, rfl⟩
  case round =>
    obtain ⟨k, m, hk, rfl, rfl⟩ := hrel
    by_cases hlt : k < n
    · obtain ⟨g1, o1, rfl, _, hc1⟩ := HX.out (by omega)
      obtain ⟨g2, o2, rfl, _, hc2⟩ := HY.out (by omega)
      have d1 := hc1 k hlt
      have d2 := hc2 k (by omega)
      rw [HD.out k hlt] at d1
      clear hc1 hc2
      generalize dy k = z at *
      go_wp2_with fail
      go_quiet (fail)
      go_wp2_with fail
      go_roundw
      case rel => exact ⟨k + 1, _, by omega, by go_num, rfl⟩
      case measure => simp [intOf]; omega
    · have hke : k = n := by omega
      subst hke
      go_wp2_with fail
      go_ret
      exact ⟨rfl, _, rfl⟩
set_option maxRecDepth 100000 in
set_option maxHeartbeats 1000000 in
theorem sameRun_any (x y : RV) (w : World) (h1 : y.pod = x.pod) (h2 : y.cont = x.cont) (h3 : y.cpus = x.cpus) (hx : DevsOk w x) (hy : DevsOk w y) (he : devsOf w x = devsOf w y) (hl : x.dn ≤ 1000) :
    Calls Try.prog 120 #[.agg #[.string x.pod, .string x.cont, .int .u64 x.cpus, .slice x.da x.dn x.dc], .agg #[.string y.pod, .string y.cont, .int .u64 y.cpus, .slice y.da y.dn y.dc]] w fun e w' => e = .returned (.bool true) ∧ Below w.heap.size w w' := by
  rw [h1, h2, h3]
  have hb1 := (Below.refl w.heap.size w).alloc (Nat.le_refl _) (.cells #[.string x.pod, .string x.cont, .int .u64 x.cpus, .slice x.da x.dn x.dc] 119)
  have hb2 := hb1.alloc hb1.size (.cells #[.string x.pod, .string x.cont, .int .u64 x.cpus, .slice y.da y.dn y.dc] 119)
  have HB2 := hideIt hb2
  obtain ⟨p1, p2⟩ := hx.below hb2 (fun _ _ _ h => h)
  obtain ⟨q1, q2⟩ := hy.below hb2 (fun _ _ _ h => h)
  have HSD := hideIt (sameDevs_any x y _ p1 q1 (by rw [p2, q2]; exact he) hl)
  clear hb1 hb2 p1 p2 q1 q2 h1 h2 h3 hx hy he
  generalize y.da = ya at *
  generalize y.dn = yn at *
  generalize y.dc = yc at *
  go_enter Try.func120, Try.ntmps120
  go_wp2_with fail
  refine HSD.out.mono ?_
  rintro e w3 ⟨rfl, n3, rfl⟩
  have HB3 := hideIt (below_drewN HB2.out n3)
  go_wp2_with fail
  go_ret
  exact ⟨by simp, HB3.out⟩
theorem RunsAt.below {base : Nat} {w w' : World} {v : Value} {ys : List RV} (h : RunsAt base w v ys) (hb : Below w.heap.size w w') : RunsAt base w' v ys := by
  obtain ⟨a, c, hv, hc, hr⟩ := h
  refine ⟨a, c, hv, hc, fun h0 => ?_⟩
  obtain ⟨g, ha, hg1, hg2, hcs⟩ := hr h0
  exact ⟨g, ha, hg1, Nat.lt_of_lt_of_le hg2 hb.size, RowsR.block hcs (hb.block g hg2)⟩
theorem abs_at {w : World} {ys zs : List RV} (h : ys.map (absR w) = zs.map (absR w)) {k : Nat} (hk : k < ys.length) : absR w (rv ys k) = absR w (rv zs k) := by
  have hl : ys.length = zs.length := by simpa using congrArg List.length h
  have h1 := congrArg (fun l => l[k]?) h
  simp only [List.getElem?_map] at h1
  rw [List.getElem?_eq_getElem hk, List.getElem?_eq_getElem (by omega)] at h1
  have hk2 : k < zs.length := by omega
  simpa [rv, hk, hk2] using h1
set_option maxRecDepth 100000 in
set_option maxHeartbeats 4000000 in
theorem sameRuns_any (b1 b2 : Nat) (v1 v2 : Value) (ys zs : List RV) (w : World) (h1 : RunsAt b1 w v1 ys) (h2 : RunsAt b2 w v2 zs) (hy : ∀ y ∈ ys, DevsOk w y ∧ y.dn ≤ 1000) (hz : ∀ z ∈ zs, DevsOk w z) (he : ys.map (absR w) = zs.map (absR w)) (hl : ys.length ≤ 1000) :
    Calls Try.prog 80 #[v1, v2] w fun e w' => e = .returned (.bool true) ∧ Below w.heap.size w w' := by
  have hyz : ys.length = zs.length := by simpa using congrArg List.length he
  obtain ⟨a1, c1, rfl, _, hr1⟩ := h1
  obtain ⟨a2, c2, rfl, _, hr2⟩ := h2
  have HR1 := hideIt hr1
  have HR2 := hideIt hr2
  have HP := hideIt (show ∀ k, k < ys.length → ((rv zs k).pod = (rv ys k).pod ∧ (rv zs k).cont = (rv ys k).cont ∧ (rv zs k).cpus = (rv ys k).cpus) ∧ DevsOk w (rv ys k) ∧ DevsOk w (rv zs k) ∧ devsOf w (rv ys k) = devsOf w (rv zs k) ∧ (rv ys k).dn ≤ 1000 from fun k hk => by
    have e := abs_at he hk
    unfold absR at e
    simp only [Rn.mk.injEq] at e
    exact ⟨⟨e.1.symm, e.2.1.symm, e.2.2.1.symm⟩, (hy _ (rv_mem hk)).1, hz _ (rv_mem (by omega)), e.2.2.2, (hy _ (rv_mem hk)).2⟩)
  rw [← hyz]
  have HYZ := hideIt hyz
  clear hr1 hr2 hy hz he hyz
  go_enter Try.func80, Try.ntmps80
  go_wp2_with fail
  go_loopw [5] (fun i wr => ∃ k : Nat, k ≤ ys.length ∧ i = .int .i64 k ∧ Below w.heap.size w wr) (fun i _ => ys.length - (intOf i).toNat)
  case atStart => exact ⟨0, by omega, rfl, Below.refl _ _⟩
  case round =>
    obtain ⟨k, hk, rfl, hB⟩ := hrel
    by_cases hlt : k < ys.length
    · obtain ⟨g1, rfl, _, hg1, hc1⟩ := HR1.out (by omega)
      obtain ⟨g2, rfl, _, hg2, hc2⟩ := HR2.out (by rw [← HYZ.out]; omega)
      have hbd := below_drewR hB
      obtain ⟨⟨x0, x1, x2, x3⟩, _⟩ := RowsR.block (W' := wr.drew) hc1 (hbd.block g1 hg1) k hlt
      obtain ⟨⟨y0, y1, y2, y3⟩, _⟩ := RowsR.block (W' := wr.drew) hc2 (hbd.block g2 hg2) k (by rw [← HYZ.out]; exact hlt)
      obtain ⟨⟨e1, e2, e3⟩, d1, d2, d3, d4⟩ := HP.out k hlt
      obtain ⟨p1, p2⟩ := d1.below hbd (fun _ _ _ h => h)
      obtain ⟨q1, q2⟩ := d2.below hbd (fun _ _ _ h => h)
      have HSR := hideIt (sameRun_any (rv ys k) (rv zs k) wr.drew e1 e2 e3 p1 q1 (by rw [p2, q2]; exact d3) d4)
      have HB := hideIt hbd
      have hg1w : g1 < wr.drew.heap.size := Nat.lt_of_lt_of_le hg1 hbd.size
      have hg2w : g2 < wr.drew.heap.size := Nat.lt_of_lt_of_le hg2 hbd.size
      clear hc1 hc2 hB hbd e1 e2 e3 d1 d2 d3 p1 p2 q1 q2
      generalize rv ys k = x at *
      generalize rv zs k = y at *
      go_wp2_with fail
      refine wp_region_held_drew (S := (fun w' => (w'.cell? ⟨g1, k * 4, none⟩ = some (.string x.pod) ∧ w'.cell? ⟨g1, k * 4 + 1, none⟩ = some (.string x.cont) ∧ w'.cell? ⟨g1, k * 4 + 2, none⟩ = some (.int .u64 x.cpus) ∧ w'.cell? ⟨g1, k * 4 + 3, none⟩ = some (.slice x.da x.dn x.dc)) ∧ (w'.cell? ⟨g2, k * 4, none⟩ = some (.string y.pod) ∧ w'.cell? ⟨g2, k * 4 + 1, none⟩ = some (.string y.cont) ∧ w'.cell? ⟨g2, k * 4 + 2, none⟩ = some (.int .u64 y.cpus) ∧ w'.cell? ⟨g2, k * 4 + 3, none⟩ = some (.slice y.da y.dn y.dc)))) (by kernel_rfl) ⟨⟨x0, x1, x2, x3⟩, y0, y1, y2, y3⟩ (fun hHeld => ?_)
      refine wpAnyH_take (i := 0) (oi := { dst := some 18, op := Op.move (Operand.tmp 0), type := 117, pos := "ostler.go:608", after := #[], guard := none }) (v := ?v1x0) rfl (by kernel_rfl) (by kernel_rfl) (by kernel_rfl) (fun _ _ _ h => h) (Or.inl ⟨by rfl, ?h1x0⟩) (by assumption) ?r1x0
      case h1x0 =>
        intro w' hSw
        (try dsimp only at hSw)
        go_simp
        first | done | with_reducible rfl | rfl
      (try simp only [Act.put, List.setIfInBounds_toArray, List.set_cons_zero, List.set_cons_succ])
      refine wpAnyH_take (i := 1) (oi := { dst := some 19, op := Op.move (Operand.tmp 5), type := 3, pos := "ostler.go:608", after := #[], guard := none }) (v := ?v2x1) rfl (by kernel_rfl) (by kernel_rfl) (by kernel_rfl) (fun _ _ _ h => h) (Or.inl ⟨by rfl, ?h2x1⟩) (by assumption) ?r2x1
      case h2x1 =>
        intro w' hSw
        (try dsimp only at hSw)
        go_simp
        first | done | with_reducible rfl | rfl
      (try simp only [Act.put, List.setIfInBounds_toArray, List.set_cons_zero, List.set_cons_succ])
      refine wpAnyH_take (i := 2) (oi := { dst := some 20, op := Op.indexAddr 117 (Operand.tmp 18) (Operand.tmp 19), type := 0, pos := "ostler.go:608", after := #[{ on := 0, ground := Ground.data }, { on := 1, ground := Ground.data }], guard := none }) (v := ?v3x2) rfl (by kernel_rfl) (by kernel_rfl) (by kernel_rfl) (fun _ _ _ h => h) (Or.inl ⟨by rfl, ?h3x2⟩) (by assumption) ?r3x2
      case h3x2 =>
        intro w' hSw
        (try dsimp only at hSw)
        go_simp
        first | done | with_reducible rfl | rfl
      (try simp only [Act.put, List.setIfInBounds_toArray, List.set_cons_zero, List.set_cons_succ])
      refine wpAnyH_take (i := 3) (oi := { dst := some 21, op := Op.load 119 (Operand.tmp 20), type := 119, pos := "ostler.go:608", after := #[{ on := 2, ground := Ground.data }], guard := none }) (v := ?v4x3) rfl (by kernel_rfl) (by kernel_rfl) (by kernel_rfl) (fun _ _ _ h => h) (Or.inl ⟨by rfl, ?h4x3⟩) (by assumption) ?r4x3
      case h4x3 =>
        intro w' hSw
        (try dsimp only at hSw)
        go_simp
        first | done | with_reducible rfl | rfl
      (try simp only [Act.put, List.setIfInBounds_toArray, List.set_cons_zero, List.set_cons_succ])
      refine wpAnyH_take (i := 4) (oi := { dst := some 22, op := Op.move (Operand.tmp 1), type := 117, pos := "ostler.go:608", after := #[], guard := none }) (v := ?v5x4) rfl (by kernel_rfl) (by kernel_rfl) (by kernel_rfl) (fun _ _ _ h => h) (Or.inl ⟨by rfl, ?h5x4⟩) (by assumption) ?r5x4
      case h5x4 =>
        intro w' hSw
        (try dsimp only at hSw)
        go_simp
        first | done | with_reducible rfl | rfl
      (try simp only [Act.put, List.setIfInBounds_toArray, List.set_cons_zero, List.set_cons_succ])
      refine wpAnyH_take (i := 5) (oi := { dst := some 23, op := Op.move (Operand.tmp 5), type := 3, pos := "ostler.go:608", after := #[], guard := none }) (v := ?v6x5) rfl (by kernel_rfl) (by kernel_rfl) (by kernel_rfl) (fun _ _ _ h => h) (Or.inl ⟨by rfl, ?h6x5⟩) (by assumption) ?r6x5
      case h6x5 =>
        intro w' hSw
        (try dsimp only at hSw)
        go_simp
        first | done | with_reducible rfl | rfl
      (try simp only [Act.put, List.setIfInBounds_toArray, List.set_cons_zero, List.set_cons_succ])
      refine wpAnyH_take (i := 6) (oi := { dst := some 24, op := Op.indexAddr 117 (Operand.tmp 22) (Operand.tmp 23), type := 0, pos := "ostler.go:608", after := #[{ on := 4, ground := Ground.data }, { on := 5, ground := Ground.data }], guard := none }) (v := ?v7x6) rfl (by kernel_rfl) (by kernel_rfl) (by kernel_rfl) (fun _ _ _ h => h) (Or.inl ⟨by rfl, ?h7x6⟩) (by assumption) ?r7x6
      case h7x6 =>
        intro w' hSw
        (try dsimp only at hSw)
        go_simp
        first | done | with_reducible rfl | rfl
      (try simp only [Act.put, List.setIfInBounds_toArray, List.set_cons_zero, List.set_cons_succ])
      refine wpAnyH_take (i := 7) (oi := { dst := some 25, op := Op.load 119 (Operand.tmp 24), type := 119, pos := "ostler.go:608", after := #[{ on := 6, ground := Ground.data }], guard := none }) (v := ?v8x7) rfl (by kernel_rfl) (by kernel_rfl) (by kernel_rfl) (fun _ _ _ h => h) (Or.inl ⟨by rfl, ?h8x7⟩) (by assumption) ?r8x7
      case h8x7 =>
        intro w' hSw
        (try dsimp only at hSw)
        go_simp
        first | done | with_reducible rfl | rfl
      (try simp only [Act.put, List.setIfInBounds_toArray, List.set_cons_zero, List.set_cons_succ])
      refine wpAnyH_ready (rs := [8]) (by kernel_rfl) (by simp) (AllReadyH.cons rfl (fun K hK => ?_) AllReadyH.nil)
      go_simp
      go_wp2_with fail
      refine HSR.out.mono ?_
      rintro e w5 ⟨rfl, hb5⟩
      have HS5 := hideIt (show ((w5.cell? ⟨g1, k * 4, none⟩ = some (.string x.pod) ∧ w5.cell? ⟨g1, k * 4 + 1, none⟩ = some (.string x.cont) ∧ w5.cell? ⟨g1, k * 4 + 2, none⟩ = some (.int .u64 x.cpus) ∧ w5.cell? ⟨g1, k * 4 + 3, none⟩ = some (.slice x.da x.dn x.dc)) ∧ (w5.cell? ⟨g2, k * 4, none⟩ = some (.string y.pod) ∧ w5.cell? ⟨g2, k * 4 + 1, none⟩ = some (.string y.cont) ∧ w5.cell? ⟨g2, k * 4 + 2, none⟩ = some (.int .u64 y.cpus) ∧ w5.cell? ⟨g2, k * 4 + 3, none⟩ = some (.slice y.da y.dn y.dc))) from ⟨⟨(hb5.cell (p := ⟨g1, k * 4, none⟩) hg1w).trans x0, (hb5.cell (p := ⟨g1, k * 4 + 1, none⟩) hg1w).trans x1, (hb5.cell (p := ⟨g1, k * 4 + 2, none⟩) hg1w).trans x2, (hb5.cell (p := ⟨g1, k * 4 + 3, none⟩) hg1w).trans x3⟩, (hb5.cell (p := ⟨g2, k * 4, none⟩) hg2w).trans y0, (hb5.cell (p := ⟨g2, k * 4 + 1, none⟩) hg2w).trans y1, (hb5.cell (p := ⟨g2, k * 4 + 2, none⟩) hg2w).trans y2, (hb5.cell (p := ⟨g2, k * 4 + 3, none⟩) hg2w).trans y3⟩)
      have HB5 := hideIt (HB.out.trans (hb5.mono HB.out.size))
      clear hb5
      go_wp2_with fail
      refine hK.out _ _ HS5.out (fun hHeld => ?_)
      clear hK K
      refine wpAnyH_take (i := 9) (oi := { dst := some 6, op := Op.assign (Operand.tmp 26), type := 4, pos := "ostler.go:608", after := #[{ on := 8, ground := Ground.data }, { on := 8, ground := Ground.chain }, { on := 0, ground := Ground.phase }, { on := 1, ground := Ground.phase }, { on := 2, ground := Ground.phase }, { on := 3, ground := Ground.phase }, { on := 4, ground := Ground.phase }, { on := 5, ground := Ground.phase }, { on := 6, ground := Ground.phase }, { on := 7, ground := Ground.phase }, { on := 8, ground := Ground.phase }], guard := none }) (v := ?v9x9) rfl (by kernel_rfl) (by kernel_rfl) (by kernel_rfl) (fun _ _ _ h => h) (Or.inl ⟨by rfl, ?h9x9⟩) (by assumption) ?r9x9
      case h9x9 =>
        intro w' hSw
        (try dsimp only at hSw)
        go_simp
        first | done | with_reducible rfl | rfl
      (try simp only [Act.put, List.setIfInBounds_toArray, List.set_cons_zero, List.set_cons_succ])
      refine wpAnyH_done (by kernel_rfl) ?_ _
      clear hHeld HSR x0 x1 x2 x3 y0 y1 y2 y3
      go_wp2_with fail
      go_roundw
      case rel => exact ⟨k + 1, by omega, by go_num, HB5.out⟩
      case measure => simp [intOf]; omega
    · have hke : k = ys.length := by omega
      subst hke
      have HB := hideIt hB
      clear hB
      go_wp2_with fail
      go_ret
      exact ⟨rfl, HB.out⟩
end Go.Proofs.Ythekalhceamcoaa
