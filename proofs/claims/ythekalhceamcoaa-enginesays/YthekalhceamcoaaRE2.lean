/- Starting what runs: the contract of (*Engine).Start. -/
import Derived.Test.YthekalhceamcoaaRE1
namespace Go.Proofs.Ythekalhceamcoaa
open Go.RowKit Go.Maps
/-- Behind a start. -/
structure Started (w w' : World) (Bd Bm n : Nat) (xs : List RV) (x : RV) (l : Int) (d : Bool) (f : Nat) : Prop where
  disk : DiskZ w' Bd (stepL l d) (stepD l d)
  out : OutR Bd Bm w w'
  no : f ≠ 0 → MapR w' Bm n xs
  yes : f = 0 → ∃ a c, MapR w' Bm (n + 1) ({ x with da := a, dc := c } :: xs) ∧ DevOwn w' { x with da := a, dc := c } ∧ devsOf w' { x with da := a, dc := c } = devsOf w x
def startErr (l : Int) (d has : Bool) : Nat := if stepErr l d ≠ 0 then stepErr l d else if has = true then 5 else 0
theorem stepErr_pos {l : Int} {d : Bool} (h : stepErr l d ≠ 0) : stepErr l d = 11 := by
  unfold stepErr at *
  split
  · rfl
  · rename_i hc; rw [if_neg hc] at h; exact absurd rfl h
theorem far_cellR {w w' : World} {row : Option Nat} (hg : w.grownBy w' row) (a : Addr) (h : a.block < w.heap.size) (hne : some a.block ≠ row) : w'.cell? a = w.cell? a := World.cell?_of_block (hg.block _ h hne)
theorem wp_putRun {o : Oper} {a : Act} {N : Act → World → Prop} {Q : Exit → Act → World → Prop} (w : World) (m x v : Operand) (hop : o.op = Op.mapUpdate 184 m x v)
    (B n : Nat) (xs : List RV) (y : RV) (hm : a.eval m = .map (some B)) (hx : a.eval x = .agg #[.string y.pod, .string y.cont]) (hv : a.eval v = .agg #[.string y.pod, .string y.cont, .int .u64 y.cpus, .slice y.da y.dn y.dc]) (hM : MapR w B n xs) (hy : y.Short) (hn : n < 1000) (hno : (xs.any fun z => decide (z.pod = y.pod ∧ z.cont = y.cont)) = false)
    (hK : ∀ w', MapR w' B (n + 1) (y :: xs) → w.grownBy w' (some B) → w'.heap.size = w.heap.size → N (a.put o.dst undef) w') :
    o.wp Try.prog a w N Q := by
  obtain ⟨w', hrun, r1, r2, r3⟩ := hM.put y hy hn hno
  unfold nameV RV.val at hrun
  unfold Oper.wp
  simp [execOp, hop, hm, hx, hv, hrun, Result.andThen]
  exact hK w' r1 r2 r3
set_option maxRecDepth 100000 in
set_option maxHeartbeats 8000000 in
theorem start_any (Be Bd Bm n : Nat) (xs : List RV) (x : RV) (l : Int) (d : Bool) (w : World) (he : EngAt w Be Bd Bm) (hm : MapR w Bm n xs) (hd : DiskZ w Bd l d) (hl : -9223372036854775808 ≤ l ∧ l ≤ 9223372036854775807) (hx : x.Short) (hdv : DevsOk w x) (haw : Away Bd x) (hdn : x.dn ≤ 1000) (hn : n < 1000) :
    Calls Try.prog 75 #[.pointer (some ⟨Be, 0, none⟩), .agg #[.string x.pod, .string x.cont, .int .u64 x.cpus, .slice x.da x.dn x.dc]] w fun e w' => e = .returned (errV ((startErr l d (xs.any fun y => decide (y.pod = x.pod ∧ y.cont = x.cont)) : Nat) : Int)) ∧ Started w w' Bd Bm n xs x l d (startErr l d (xs.any fun y => decide (y.pod = x.pod ∧ y.cont = x.cont))) := by
  obtain ⟨hn1, hn2, hn3⟩ := apart_eng he hm hd
  have hb1 := (Below.refl w.heap.size w).alloc (Nat.le_refl _) (.cells #[.string x.pod, .string x.cont, .int .u64 x.cpus, .slice x.da x.dn x.dc] 119)
  have he1 := he.block (hb1.block Be he.lt)
  obtain ⟨c0, c1⟩ := he1.cells
  have HM1 := hideIt (hm.block (hb1.block Bm hm.lt))
  have hd1 : DiskZ (w.alloc (.cells #[.string x.pod, .string x.cont, .int .u64 x.cpus, .slice x.da x.dn x.dc] 119)) Bd l d := (hb1.block Bd hd.lt).trans hd
  have HST := hideIt (stepD_any Bd l d _ hd1 hl)
  have HX1 := hideIt (RBox.made w x)
  obtain ⟨hv1, hv2⟩ := hdv.below hb1 (fun _ _ _ h => h)
  have HV1 := hideIt hv1
  have HV2 := hideIt hv2
  have HB1 := hideIt hb1
  have HE1 := hideIt he1
  have hml := hm.lt
  have hdl := hd.lt
  have hel := he.lt
  clear he hm hd hb1 he1 hd1 hv1 hv2
  go_enter Try.func75, Try.ntmps75
  go_wp2_with fail
  generalize hW1 : w.alloc (.cells #[.string x.pod, .string x.cont, .int .u64 x.cpus, .slice x.da x.dn x.dc] 119) = W1 at *
  have hsz1 : W1.heap.size = w.heap.size + 1 := by rw [← hW1]; simp
  clear hW1
  refine HST.out.mono ?_
  rintro e w2 ⟨rfl, hz2, ho2⟩
  have HZ2 := hideIt hz2
  have HO2 := hideIt (OutR.trans (OutR.of_below HB1.out) (OutR.of_grown (B1 := Bd) (B2 := Bm) ho2.1 (.inl rfl)))
  have HM2 := hideIt (HM1.out.block (ho2.1.block Bm (by omega) (by simpa using hn3.symm)))
  have he2 := HE1.out.block (ho2.1.block Be (by omega) (by simpa using hn1))
  have HE2 := hideIt he2
  obtain ⟨g0, g1⟩ := he2.cells
  have hx2 : RBox w2 w.heap.size x := (ho2.1.block w.heap.size (by omega) (by intro e; cases e; omega)).trans HX1.out
  have HX2 := hideIt hx2
  obtain ⟨hk2a, hk2b⟩ := devs_away (w' := w2) HV1.out haw (fun b hb hlt => ho2.1.block b hlt (by simpa using hb)) (Nat.le_of_eq ho2.2.symm)
  have HK2 := hideIt hk2a
  have HK2b := hideIt (hk2b.trans HV2.out)
  have hsz2 : w2.heap.size = w.heap.size + 1 := by rw [ho2.2]; exact hsz1
  obtain ⟨r0, r1, r2, r3⟩ := hx2.cells
  clear hz2 ho2 he2 hx2 HST HM1 HX1 HE1 c0 c1 hk2a hk2b HV1 HV2
  by_cases hse : stepErr l d = 0
  · have HSE := hideIt (show startErr l d (xs.any fun y => decide (y.pod = x.pod ∧ y.cont = x.cont)) = if (xs.any fun y => decide (y.pod = x.pod ∧ y.cont = x.cont)) = true then 5 else 0 from by unfold startErr; rw [if_neg (by rw [hse]; decide)])
    rw [hse, show errV ((0 : Nat) : Int) = .nilIface from rfl]
    obtain ⟨y, hlk⟩ := HM2.out.look2 x.pod x.cont hx.1 hx.2
    unfold nameV at hlk
    have hbA := (Below.refl w2.heap.size w2).alloc (Nat.le_refl _) (.cells #[.string x.pod, .string x.cont] 189)
    have hbB := hbA.alloc hbA.size (.cells #[.string ⟨#[]⟩, .string ⟨#[]⟩, .int .u64 0, .slice none 0 0] 119)
    have hbY := hbA.alloc hbA.size (.cells #[.string y.pod, .string y.cont, .int .u64 y.cpus, .slice y.da y.dn y.dc] 119)
    have hq1 := hlk ((w2.alloc (.cells #[.string x.pod, .string x.cont] 189)).drew) ((below_drewR hbA).block Bm (by omega))
    have hq2 := hlk (((w2.alloc (.cells #[.string x.pod, .string x.cont] 189)).alloc (.cells #[.string ⟨#[]⟩, .string ⟨#[]⟩, .int .u64 0, .slice none 0 0] 119)).drew) ((below_drewR hbB).block Bm (by omega))
    have k1 := ((below_drewR hbA).cell (p := ⟨Be, 1, none⟩) (by show Be < _; omega)).trans g1
    have k2 := ((below_drewR hbB).cell (p := ⟨Be, 1, none⟩) (by show Be < _; omega)).trans g1
    have HBY := hideIt (below_drewR hbY)
    have HN := hideIt (show (((w2.alloc (.cells #[.string x.pod, .string x.cont] 189)).alloc (.cells #[.string ⟨#[]⟩, .string ⟨#[]⟩, .int .u64 0, .slice none 0 0] 119)).drew).cell? ⟨w2.heap.size, 0, none⟩ = some (.string x.pod) ∧ (((w2.alloc (.cells #[.string x.pod, .string x.cont] 189)).alloc (.cells #[.string ⟨#[]⟩, .string ⟨#[]⟩, .int .u64 0, .slice none 0 0] 119)).drew).cell? ⟨w2.heap.size, 1, none⟩ = some (.string x.cont) from ⟨by simp, by simp⟩)
    have HNY := hideIt (show (((w2.alloc (.cells #[.string x.pod, .string x.cont] 189)).alloc (.cells #[.string y.pod, .string y.cont, .int .u64 y.cpus, .slice y.da y.dn y.dc] 119)).drew).cell? ⟨w2.heap.size, 0, none⟩ = some (.string x.pod) ∧ (((w2.alloc (.cells #[.string x.pod, .string x.cont] 189)).alloc (.cells #[.string y.pod, .string y.cont, .int .u64 y.cpus, .slice y.da y.dn y.dc] 119)).drew).cell? ⟨w2.heap.size, 1, none⟩ = some (.string x.cont) from ⟨by simp, by simp⟩)
    rw [hsz2] at HN HNY
    obtain ⟨n0, n1⟩ := HN.out
    clear hbA hbB hbY hlk
    unfold RV.val at hq1 hq2
    rcases two (xs.any fun y => decide (y.pod = x.pod ∧ y.cont = x.cont)) with hh | hh
    · rw [hh] at hq1 hq2
      have HH := hideIt hh
      clear hh
      go_wp2_with fail
      go_region
      all_goals
        generalize ((w2.alloc (.cells #[.string x.pod, .string x.cont] 189)).alloc (.cells #[.string y.pod, .string y.cont, .int .u64 y.cpus, .slice y.da y.dn y.dc] 119)).drew = W5 at *
        go_wp2_with fail
        go_ret
        exact ⟨by rw [HSE.out, if_pos HH.out]; rfl, ⟨(HBY.out.block Bd (by omega)).trans HZ2.out, HO2.out.trans (OutR.of_below HBY.out), fun _ => HM2.out.block (HBY.out.block Bm (by omega)), fun h0 => by rw [HSE.out, if_pos HH.out] at h0; cases h0⟩⟩
    · rw [hh] at hq1 hq2
      have HH := hideIt hh
      clear hh
      go_wp2_with fail
      go_region
      · have hbd := below_drewR HBY.out
        have HSD := hideIt (show (((w2.alloc (.cells #[.string x.pod, .string x.cont] 189)).alloc (.cells #[.string y.pod, .string y.cont, .int .u64 y.cpus, .slice y.da y.dn y.dc] 119)).drew.drew.cell? ⟨Be, 1, none⟩ = some (.map (some Bm)) ∧ (((w2.alloc (.cells #[.string x.pod, .string x.cont] 189)).alloc (.cells #[.string y.pod, .string y.cont, .int .u64 y.cpus, .slice y.da y.dn y.dc] 119)).drew.drew.cell? ⟨w.heap.size + 1, 0, none⟩ = some (.string x.pod) ∧ ((w2.alloc (.cells #[.string x.pod, .string x.cont] 189)).alloc (.cells #[.string y.pod, .string y.cont, .int .u64 y.cpus, .slice y.da y.dn y.dc] 119)).drew.drew.cell? ⟨w.heap.size + 1, 1, none⟩ = some (.string x.cont)) ∧ (((w2.alloc (.cells #[.string x.pod, .string x.cont] 189)).alloc (.cells #[.string y.pod, .string y.cont, .int .u64 y.cpus, .slice y.da y.dn y.dc] 119)).drew.drew.cell? ⟨w.heap.size, 0, none⟩ = some (.string x.pod) ∧ ((w2.alloc (.cells #[.string x.pod, .string x.cont] 189)).alloc (.cells #[.string y.pod, .string y.cont, .int .u64 y.cpus, .slice y.da y.dn y.dc] 119)).drew.drew.cell? ⟨w.heap.size, 1, none⟩ = some (.string x.cont) ∧ ((w2.alloc (.cells #[.string x.pod, .string x.cont] 189)).alloc (.cells #[.string y.pod, .string y.cont, .int .u64 y.cpus, .slice y.da y.dn y.dc] 119)).drew.drew.cell? ⟨w.heap.size, 2, none⟩ = some (.int .u64 x.cpus) ∧ ((w2.alloc (.cells #[.string x.pod, .string x.cont] 189)).alloc (.cells #[.string y.pod, .string y.cont, .int .u64 y.cpus, .slice y.da y.dn y.dc] 119)).drew.drew.cell? ⟨w.heap.size, 3, none⟩ = some (.slice x.da x.dn x.dc))) from ⟨(hbd.cell (p := ⟨Be, 1, none⟩) (by show Be < _; omega)).trans g1, HNY.out, ⟨(hbd.cell (p := ⟨w.heap.size, 0, none⟩) (by show w.heap.size < _; omega)).trans r0, (hbd.cell (p := ⟨w.heap.size, 1, none⟩) (by show w.heap.size < _; omega)).trans r1, (hbd.cell (p := ⟨w.heap.size, 2, none⟩) (by show w.heap.size < _; omega)).trans r2, (hbd.cell (p := ⟨w.heap.size, 3, none⟩) (by show w.heap.size < _; omega)).trans r3⟩⟩)
        have HBd := hideIt hbd
        have hsz5 : w.heap.size + 1 + 1 ≤ ((w2.alloc (.cells #[.string x.pod, .string x.cont] 189)).alloc (.cells #[.string y.pod, .string y.cont, .int .u64 y.cpus, .slice y.da y.dn y.dc] 119)).drew.heap.size := by simp [World.drew]; omega
        clear hbd hq1 hq2 k1 k2 n0 n1 HN HNY
        generalize ((w2.alloc (.cells #[.string x.pod, .string x.cont] 189)).alloc (.cells #[.string y.pod, .string y.cont, .int .u64 y.cpus, .slice y.da y.dn y.dc] 119)).drew = W5 at *
        have hsz5d : w.heap.size + 1 + 1 ≤ W5.drew.heap.size := hsz5
        obtain ⟨hv5, hv5b⟩ := HK2.out.below HBd.out (fun _ _ _ h => h)
        have HV5b := hideIt (hv5b.trans HK2b.out)
        have HAP := hideIt (apartR_any x W5.drew hv5 hdn)
        have HM5 := hideIt (HM2.out.block (HBd.out.block Bm (by omega)))
        clear hv5 hv5b
        go_wp2_with fail
        refine wp_region_held_drew (S := (fun w' => w'.cell? ⟨Be, 1, none⟩ = some (.map (some Bm)) ∧ (w'.cell? ⟨w.heap.size + 1, 0, none⟩ = some (.string x.pod) ∧ w'.cell? ⟨w.heap.size + 1, 1, none⟩ = some (.string x.cont)) ∧ (w'.cell? ⟨w.heap.size, 0, none⟩ = some (.string x.pod) ∧ w'.cell? ⟨w.heap.size, 1, none⟩ = some (.string x.cont) ∧ w'.cell? ⟨w.heap.size, 2, none⟩ = some (.int .u64 x.cpus) ∧ w'.cell? ⟨w.heap.size, 3, none⟩ = some (.slice x.da x.dn x.dc)))) (by kernel_rfl) HSD.out (fun hHeld => ?_)
        refine wpAnyH_take (i := 0) (oi := { dst := some 33, op := Op.move (Operand.tmp 0), type := 113, pos := "engine.go:36", after := #[], guard := none }) (v := ?v1x0) rfl (by kernel_rfl) (by kernel_rfl) (by kernel_rfl) (fun _ _ _ h => h) (Or.inl ⟨by rfl, ?h1x0⟩) (by assumption) ?r1x0
        case h1x0 =>
          intro w' hSw
          (try dsimp only at hSw)
          go_simp
          first | done | with_reducible rfl | rfl
        (try simp only [Act.put, List.setIfInBounds_toArray, List.set_cons_zero, List.set_cons_succ])
        refine wpAnyH_take (i := 1) (oi := { dst := some 34, op := Op.nilCheck (Operand.tmp 33), type := 0, pos := "engine.go:36", after := #[{ on := 0, ground := Ground.data }], guard := none }) (v := ?v2x1) rfl (by kernel_rfl) (by kernel_rfl) (by kernel_rfl) (fun _ _ _ h => h) (Or.inl ⟨by rfl, ?h2x1⟩) (by assumption) ?r2x1
        case h2x1 =>
          intro w' hSw
          (try dsimp only at hSw)
          go_simp
          first | done | with_reducible rfl | rfl
        (try simp only [Act.put, List.setIfInBounds_toArray, List.set_cons_zero, List.set_cons_succ])
        refine wpAnyH_take (i := 2) (oi := { dst := some 35, op := Op.fieldAddr 186 (Operand.tmp 34) 1, type := 0, pos := "engine.go:36", after := #[{ on := 1, ground := Ground.data }], guard := none }) (v := ?v3x2) rfl (by kernel_rfl) (by kernel_rfl) (by kernel_rfl) (fun _ _ _ h => h) (Or.inl ⟨by rfl, ?h3x2⟩) (by assumption) ?r3x2
        case h3x2 =>
          intro w' hSw
          (try dsimp only at hSw)
          go_simp
          first | done | with_reducible rfl | rfl
        (try simp only [Act.put, List.setIfInBounds_toArray, List.set_cons_zero, List.set_cons_succ])
        refine wpAnyH_take (i := 3) (oi := { dst := some 36, op := Op.load 184 (Operand.tmp 35), type := 184, pos := "engine.go:36", after := #[{ on := 2, ground := Ground.data }], guard := none }) (v := ?v4x3) rfl (by kernel_rfl) (by kernel_rfl) (by kernel_rfl) (fun _ _ _ h => h) (Or.inl ⟨by rfl, ?h4x3⟩) (by assumption) ?r4x3
        case h4x3 =>
          intro w' hSw
          (try dsimp only at hSw)
          go_simp
          first | done | with_reducible rfl | rfl
        (try simp only [Act.put, List.setIfInBounds_toArray, List.set_cons_zero, List.set_cons_succ])
        refine wpAnyH_take (i := 4) (oi := { dst := some 37, op := Op.load 189 (Operand.tmp 6), type := 189, pos := "engine.go:36", after := #[], guard := none }) (v := ?v5x4) rfl (by kernel_rfl) (by kernel_rfl) (by kernel_rfl) (fun _ _ _ h => h) (Or.inl ⟨by rfl, ?h5x4⟩) (by assumption) ?r5x4
        case h5x4 =>
          intro w' hSw
          (try dsimp only at hSw)
          go_simp
          first | done | with_reducible rfl | rfl
        (try simp only [Act.put, List.setIfInBounds_toArray, List.set_cons_zero, List.set_cons_succ])
        refine wpAnyH_take (i := 5) (oi := { dst := some 38, op := Op.load 119 (Operand.tmp 3), type := 119, pos := "engine.go:36", after := #[], guard := none }) (v := ?v6x5) rfl (by kernel_rfl) (by kernel_rfl) (by kernel_rfl) (fun _ _ _ h => h) (Or.inl ⟨by rfl, ?h6x5⟩) (by assumption) ?r6x5
        case h6x5 =>
          intro w' hSw
          (try dsimp only at hSw)
          go_simp
          first | done | with_reducible rfl | rfl
        (try simp only [Act.put, List.setIfInBounds_toArray, List.set_cons_zero, List.set_cons_succ])
        refine wpAnyH_ready (rs := [6]) (by kernel_rfl) (by simp) (AllReadyH.cons rfl (fun K hK => ?_) AllReadyH.nil)
        go_simp
        go_wp2_with fail
        refine HAP.out.mono ?_
        rintro e w6 ⟨a', c', rfl, ho6, hd6, _, hb6⟩
        have HS6 := hideIt (show (w6.cell? ⟨Be, 1, none⟩ = some (.map (some Bm)) ∧ (w6.cell? ⟨w.heap.size + 1, 0, none⟩ = some (.string x.pod) ∧ w6.cell? ⟨w.heap.size + 1, 1, none⟩ = some (.string x.cont)) ∧ (w6.cell? ⟨w.heap.size, 0, none⟩ = some (.string x.pod) ∧ w6.cell? ⟨w.heap.size, 1, none⟩ = some (.string x.cont) ∧ w6.cell? ⟨w.heap.size, 2, none⟩ = some (.int .u64 x.cpus) ∧ w6.cell? ⟨w.heap.size, 3, none⟩ = some (.slice x.da x.dn x.dc))) from ⟨(hb6.cell (p := ⟨Be, 1, none⟩) (by show Be < _; omega)).trans HSD.out.1, ⟨(hb6.cell (p := ⟨w.heap.size + 1, 0, none⟩) (by show w.heap.size + 1 < _; omega)).trans HSD.out.2.1.1, (hb6.cell (p := ⟨w.heap.size + 1, 1, none⟩) (by show w.heap.size + 1 < _; omega)).trans HSD.out.2.1.2⟩, ⟨(hb6.cell (p := ⟨w.heap.size, 0, none⟩) (by show w.heap.size < _; omega)).trans HSD.out.2.2.1, (hb6.cell (p := ⟨w.heap.size, 1, none⟩) (by show w.heap.size < _; omega)).trans HSD.out.2.2.2.1, (hb6.cell (p := ⟨w.heap.size, 2, none⟩) (by show w.heap.size < _; omega)).trans HSD.out.2.2.2.2.1, (hb6.cell (p := ⟨w.heap.size, 3, none⟩) (by show w.heap.size < _; omega)).trans HSD.out.2.2.2.2.2⟩⟩)
        have HM6 := hideIt (HM5.out.block (hb6.block Bm (by omega)))
        have HO6 := hideIt ho6
        have HD6 := hideIt (hd6.trans HV5b.out)
        have HB6 := hideIt (HBd.out.trans (hb6.mono HBd.out.size))
        have hsz6 : w.heap.size + 1 + 1 ≤ w6.heap.size := Nat.le_trans hsz5d hb6.size
        clear ho6 hd6 hb6
        go_wp2_with fail
        refine hK.out _ _ HS6.out (fun hHeld => ?_)
        clear hK K
        refine wpAnyH_ready (rs := [7]) (by kernel_rfl) (by simp) (AllReadyH.cons rfl (fun K hK => ?_) AllReadyH.nil)
        rw [if_pos (by rfl)]
        refine wp_putRun _ _ _ _ rfl Bm n xs { x with da := a', dc := c' } rfl rfl rfl HM6.out hx hn HH.out ?_
        intro w7 hM7 hgr7 hsz7
        have HS7 := hideIt (show (w7.cell? ⟨Be, 1, none⟩ = some (.map (some Bm)) ∧ (w7.cell? ⟨w.heap.size + 1, 0, none⟩ = some (.string x.pod) ∧ w7.cell? ⟨w.heap.size + 1, 1, none⟩ = some (.string x.cont)) ∧ (w7.cell? ⟨w.heap.size, 0, none⟩ = some (.string x.pod) ∧ w7.cell? ⟨w.heap.size, 1, none⟩ = some (.string x.cont) ∧ w7.cell? ⟨w.heap.size, 2, none⟩ = some (.int .u64 x.cpus) ∧ w7.cell? ⟨w.heap.size, 3, none⟩ = some (.slice x.da x.dn x.dc))) from ⟨(far_cellR hgr7 ⟨Be, 1, none⟩ (by show Be < _; omega) (by simpa using hn2)).trans HS6.out.1, ⟨(far_cellR hgr7 ⟨w.heap.size + 1, 0, none⟩ (by show w.heap.size + 1 < _; omega) (fun e => by have e2 : w.heap.size + 1 = Bm := Option.some.inj e; omega)).trans HS6.out.2.1.1, (far_cellR hgr7 ⟨w.heap.size + 1, 1, none⟩ (by show w.heap.size + 1 < _; omega) (fun e => by have e2 : w.heap.size + 1 = Bm := Option.some.inj e; omega)).trans HS6.out.2.1.2⟩, ⟨(far_cellR hgr7 ⟨w.heap.size, 0, none⟩ (by show w.heap.size < _; omega) (fun e => by have e2 : w.heap.size = Bm := Option.some.inj e; omega)).trans HS6.out.2.2.1, (far_cellR hgr7 ⟨w.heap.size, 1, none⟩ (by show w.heap.size < _; omega) (fun e => by have e2 : w.heap.size = Bm := Option.some.inj e; omega)).trans HS6.out.2.2.2.1, (far_cellR hgr7 ⟨w.heap.size, 2, none⟩ (by show w.heap.size < _; omega) (fun e => by have e2 : w.heap.size = Bm := Option.some.inj e; omega)).trans HS6.out.2.2.2.2.1, (far_cellR hgr7 ⟨w.heap.size, 3, none⟩ (by show w.heap.size < _; omega) (fun e => by have e2 : w.heap.size = Bm := Option.some.inj e; omega)).trans HS6.out.2.2.2.2.2⟩⟩)
        obtain ⟨ho7, hd7⟩ := HO6.out.kept (KInt.grown hgr7 HM6.out.notInt)
        have HYES := hideIt (show ∃ a c, MapR w7 Bm (n + 1) ({ x with da := a, dc := c } :: xs) ∧ DevOwn w7 { x with da := a, dc := c } ∧ devsOf w7 { x with da := a, dc := c } = devsOf w x from ⟨a', c', hM7, ho7, hd7.trans HD6.out⟩)
        have HZ7 := hideIt (show DiskZ w7 Bd (stepL l d) (stepD l d) from (hgr7.block Bd (by omega) (fun e => hn3 (Option.some.inj e))).trans ((HB6.out.block Bd (by omega)).trans HZ2.out))
        have HO7 := hideIt ((HO2.out.trans (OutR.of_below HB6.out)).trans (OutR.of_grown hgr7 (.inr rfl)))
        clear hM7 hgr7 ho7 hd7
        refine hK.out _ _ HS7.out (fun hHeld => ?_)
        clear hK K
        refine wpAnyH_done (by kernel_rfl) ?_ _
        go_wp2_with fail
        go_ret
        exact ⟨by rw [HSE.out, if_neg (by rw [HH.out]; decide)]; rfl, ⟨HZ7.out, HO7.out, fun h0 => absurd (by rw [HSE.out, if_neg (by rw [HH.out]; decide)]) h0, fun _ => HYES.out⟩⟩
      · have hbd := below_drewR HBY.out
        have HSD := hideIt (show (((w2.alloc (.cells #[.string x.pod, .string x.cont] 189)).alloc (.cells #[.string y.pod, .string y.cont, .int .u64 y.cpus, .slice y.da y.dn y.dc] 119)).drew.drew.cell? ⟨Be, 1, none⟩ = some (.map (some Bm)) ∧ (((w2.alloc (.cells #[.string x.pod, .string x.cont] 189)).alloc (.cells #[.string y.pod, .string y.cont, .int .u64 y.cpus, .slice y.da y.dn y.dc] 119)).drew.drew.cell? ⟨w.heap.size + 1, 0, none⟩ = some (.string x.pod) ∧ ((w2.alloc (.cells #[.string x.pod, .string x.cont] 189)).alloc (.cells #[.string y.pod, .string y.cont, .int .u64 y.cpus, .slice y.da y.dn y.dc] 119)).drew.drew.cell? ⟨w.heap.size + 1, 1, none⟩ = some (.string x.cont)) ∧ (((w2.alloc (.cells #[.string x.pod, .string x.cont] 189)).alloc (.cells #[.string y.pod, .string y.cont, .int .u64 y.cpus, .slice y.da y.dn y.dc] 119)).drew.drew.cell? ⟨w.heap.size, 0, none⟩ = some (.string x.pod) ∧ ((w2.alloc (.cells #[.string x.pod, .string x.cont] 189)).alloc (.cells #[.string y.pod, .string y.cont, .int .u64 y.cpus, .slice y.da y.dn y.dc] 119)).drew.drew.cell? ⟨w.heap.size, 1, none⟩ = some (.string x.cont) ∧ ((w2.alloc (.cells #[.string x.pod, .string x.cont] 189)).alloc (.cells #[.string y.pod, .string y.cont, .int .u64 y.cpus, .slice y.da y.dn y.dc] 119)).drew.drew.cell? ⟨w.heap.size, 2, none⟩ = some (.int .u64 x.cpus) ∧ ((w2.alloc (.cells #[.string x.pod, .string x.cont] 189)).alloc (.cells #[.string y.pod, .string y.cont, .int .u64 y.cpus, .slice y.da y.dn y.dc] 119)).drew.drew.cell? ⟨w.heap.size, 3, none⟩ = some (.slice x.da x.dn x.dc))) from ⟨(hbd.cell (p := ⟨Be, 1, none⟩) (by show Be < _; omega)).trans g1, HNY.out, ⟨(hbd.cell (p := ⟨w.heap.size, 0, none⟩) (by show w.heap.size < _; omega)).trans r0, (hbd.cell (p := ⟨w.heap.size, 1, none⟩) (by show w.heap.size < _; omega)).trans r1, (hbd.cell (p := ⟨w.heap.size, 2, none⟩) (by show w.heap.size < _; omega)).trans r2, (hbd.cell (p := ⟨w.heap.size, 3, none⟩) (by show w.heap.size < _; omega)).trans r3⟩⟩)
        have HBd := hideIt hbd
        have hsz5 : w.heap.size + 1 + 1 ≤ ((w2.alloc (.cells #[.string x.pod, .string x.cont] 189)).alloc (.cells #[.string y.pod, .string y.cont, .int .u64 y.cpus, .slice y.da y.dn y.dc] 119)).drew.heap.size := by simp [World.drew]; omega
        clear hbd hq1 hq2 k1 k2 n0 n1 HN HNY
        generalize ((w2.alloc (.cells #[.string x.pod, .string x.cont] 189)).alloc (.cells #[.string y.pod, .string y.cont, .int .u64 y.cpus, .slice y.da y.dn y.dc] 119)).drew = W5 at *
        have hsz5d : w.heap.size + 1 + 1 ≤ W5.drew.heap.size := hsz5
        obtain ⟨hv5, hv5b⟩ := HK2.out.below HBd.out (fun _ _ _ h => h)
        have HV5b := hideIt (hv5b.trans HK2b.out)
        have HAP := hideIt (apartR_any x W5.drew hv5 hdn)
        have HM5 := hideIt (HM2.out.block (HBd.out.block Bm (by omega)))
        clear hv5 hv5b
        go_wp2_with fail
        refine wp_region_held_drew (S := (fun w' => w'.cell? ⟨Be, 1, none⟩ = some (.map (some Bm)) ∧ (w'.cell? ⟨w.heap.size + 1, 0, none⟩ = some (.string x.pod) ∧ w'.cell? ⟨w.heap.size + 1, 1, none⟩ = some (.string x.cont)) ∧ (w'.cell? ⟨w.heap.size, 0, none⟩ = some (.string x.pod) ∧ w'.cell? ⟨w.heap.size, 1, none⟩ = some (.string x.cont) ∧ w'.cell? ⟨w.heap.size, 2, none⟩ = some (.int .u64 x.cpus) ∧ w'.cell? ⟨w.heap.size, 3, none⟩ = some (.slice x.da x.dn x.dc)))) (by kernel_rfl) HSD.out (fun hHeld => ?_)
        refine wpAnyH_take (i := 0) (oi := { dst := some 33, op := Op.move (Operand.tmp 0), type := 113, pos := "engine.go:36", after := #[], guard := none }) (v := ?v7x0) rfl (by kernel_rfl) (by kernel_rfl) (by kernel_rfl) (fun _ _ _ h => h) (Or.inl ⟨by rfl, ?h7x0⟩) (by assumption) ?r7x0
        case h7x0 =>
          intro w' hSw
          (try dsimp only at hSw)
          go_simp
          first | done | with_reducible rfl | rfl
        (try simp only [Act.put, List.setIfInBounds_toArray, List.set_cons_zero, List.set_cons_succ])
        refine wpAnyH_take (i := 1) (oi := { dst := some 34, op := Op.nilCheck (Operand.tmp 33), type := 0, pos := "engine.go:36", after := #[{ on := 0, ground := Ground.data }], guard := none }) (v := ?v8x1) rfl (by kernel_rfl) (by kernel_rfl) (by kernel_rfl) (fun _ _ _ h => h) (Or.inl ⟨by rfl, ?h8x1⟩) (by assumption) ?r8x1
        case h8x1 =>
          intro w' hSw
          (try dsimp only at hSw)
          go_simp
          first | done | with_reducible rfl | rfl
        (try simp only [Act.put, List.setIfInBounds_toArray, List.set_cons_zero, List.set_cons_succ])
        refine wpAnyH_take (i := 2) (oi := { dst := some 35, op := Op.fieldAddr 186 (Operand.tmp 34) 1, type := 0, pos := "engine.go:36", after := #[{ on := 1, ground := Ground.data }], guard := none }) (v := ?v9x2) rfl (by kernel_rfl) (by kernel_rfl) (by kernel_rfl) (fun _ _ _ h => h) (Or.inl ⟨by rfl, ?h9x2⟩) (by assumption) ?r9x2
        case h9x2 =>
          intro w' hSw
          (try dsimp only at hSw)
          go_simp
          first | done | with_reducible rfl | rfl
        (try simp only [Act.put, List.setIfInBounds_toArray, List.set_cons_zero, List.set_cons_succ])
        refine wpAnyH_take (i := 3) (oi := { dst := some 36, op := Op.load 184 (Operand.tmp 35), type := 184, pos := "engine.go:36", after := #[{ on := 2, ground := Ground.data }], guard := none }) (v := ?v10x3) rfl (by kernel_rfl) (by kernel_rfl) (by kernel_rfl) (fun _ _ _ h => h) (Or.inl ⟨by rfl, ?h10x3⟩) (by assumption) ?r10x3
        case h10x3 =>
          intro w' hSw
          (try dsimp only at hSw)
          go_simp
          first | done | with_reducible rfl | rfl
        (try simp only [Act.put, List.setIfInBounds_toArray, List.set_cons_zero, List.set_cons_succ])
        refine wpAnyH_take (i := 4) (oi := { dst := some 37, op := Op.load 189 (Operand.tmp 6), type := 189, pos := "engine.go:36", after := #[], guard := none }) (v := ?v11x4) rfl (by kernel_rfl) (by kernel_rfl) (by kernel_rfl) (fun _ _ _ h => h) (Or.inl ⟨by rfl, ?h11x4⟩) (by assumption) ?r11x4
        case h11x4 =>
          intro w' hSw
          (try dsimp only at hSw)
          go_simp
          first | done | with_reducible rfl | rfl
        (try simp only [Act.put, List.setIfInBounds_toArray, List.set_cons_zero, List.set_cons_succ])
        refine wpAnyH_take (i := 5) (oi := { dst := some 38, op := Op.load 119 (Operand.tmp 3), type := 119, pos := "engine.go:36", after := #[], guard := none }) (v := ?v12x5) rfl (by kernel_rfl) (by kernel_rfl) (by kernel_rfl) (fun _ _ _ h => h) (Or.inl ⟨by rfl, ?h12x5⟩) (by assumption) ?r12x5
        case h12x5 =>
          intro w' hSw
          (try dsimp only at hSw)
          go_simp
          first | done | with_reducible rfl | rfl
        (try simp only [Act.put, List.setIfInBounds_toArray, List.set_cons_zero, List.set_cons_succ])
        refine wpAnyH_ready (rs := [6]) (by kernel_rfl) (by simp) (AllReadyH.cons rfl (fun K hK => ?_) AllReadyH.nil)
        go_simp
        go_wp2_with fail
        refine HAP.out.mono ?_
        rintro e w6 ⟨a', c', rfl, ho6, hd6, _, hb6⟩
        have HS6 := hideIt (show (w6.cell? ⟨Be, 1, none⟩ = some (.map (some Bm)) ∧ (w6.cell? ⟨w.heap.size + 1, 0, none⟩ = some (.string x.pod) ∧ w6.cell? ⟨w.heap.size + 1, 1, none⟩ = some (.string x.cont)) ∧ (w6.cell? ⟨w.heap.size, 0, none⟩ = some (.string x.pod) ∧ w6.cell? ⟨w.heap.size, 1, none⟩ = some (.string x.cont) ∧ w6.cell? ⟨w.heap.size, 2, none⟩ = some (.int .u64 x.cpus) ∧ w6.cell? ⟨w.heap.size, 3, none⟩ = some (.slice x.da x.dn x.dc))) from ⟨(hb6.cell (p := ⟨Be, 1, none⟩) (by show Be < _; omega)).trans HSD.out.1, ⟨(hb6.cell (p := ⟨w.heap.size + 1, 0, none⟩) (by show w.heap.size + 1 < _; omega)).trans HSD.out.2.1.1, (hb6.cell (p := ⟨w.heap.size + 1, 1, none⟩) (by show w.heap.size + 1 < _; omega)).trans HSD.out.2.1.2⟩, ⟨(hb6.cell (p := ⟨w.heap.size, 0, none⟩) (by show w.heap.size < _; omega)).trans HSD.out.2.2.1, (hb6.cell (p := ⟨w.heap.size, 1, none⟩) (by show w.heap.size < _; omega)).trans HSD.out.2.2.2.1, (hb6.cell (p := ⟨w.heap.size, 2, none⟩) (by show w.heap.size < _; omega)).trans HSD.out.2.2.2.2.1, (hb6.cell (p := ⟨w.heap.size, 3, none⟩) (by show w.heap.size < _; omega)).trans HSD.out.2.2.2.2.2⟩⟩)
        have HM6 := hideIt (HM5.out.block (hb6.block Bm (by omega)))
        have HO6 := hideIt ho6
        have HD6 := hideIt (hd6.trans HV5b.out)
        have HB6 := hideIt (HBd.out.trans (hb6.mono HBd.out.size))
        have hsz6 : w.heap.size + 1 + 1 ≤ w6.heap.size := Nat.le_trans hsz5d hb6.size
        clear ho6 hd6 hb6
        go_wp2_with fail
        refine hK.out _ _ HS6.out (fun hHeld => ?_)
        clear hK K
        refine wpAnyH_ready (rs := [7]) (by kernel_rfl) (by simp) (AllReadyH.cons rfl (fun K hK => ?_) AllReadyH.nil)
        rw [if_pos (by rfl)]
        refine wp_putRun _ _ _ _ rfl Bm n xs { x with da := a', dc := c' } rfl rfl rfl HM6.out hx hn HH.out ?_
        intro w7 hM7 hgr7 hsz7
        have HS7 := hideIt (show (w7.cell? ⟨Be, 1, none⟩ = some (.map (some Bm)) ∧ (w7.cell? ⟨w.heap.size + 1, 0, none⟩ = some (.string x.pod) ∧ w7.cell? ⟨w.heap.size + 1, 1, none⟩ = some (.string x.cont)) ∧ (w7.cell? ⟨w.heap.size, 0, none⟩ = some (.string x.pod) ∧ w7.cell? ⟨w.heap.size, 1, none⟩ = some (.string x.cont) ∧ w7.cell? ⟨w.heap.size, 2, none⟩ = some (.int .u64 x.cpus) ∧ w7.cell? ⟨w.heap.size, 3, none⟩ = some (.slice x.da x.dn x.dc))) from ⟨(far_cellR hgr7 ⟨Be, 1, none⟩ (by show Be < _; omega) (by simpa using hn2)).trans HS6.out.1, ⟨(far_cellR hgr7 ⟨w.heap.size + 1, 0, none⟩ (by show w.heap.size + 1 < _; omega) (fun e => by have e2 : w.heap.size + 1 = Bm := Option.some.inj e; omega)).trans HS6.out.2.1.1, (far_cellR hgr7 ⟨w.heap.size + 1, 1, none⟩ (by show w.heap.size + 1 < _; omega) (fun e => by have e2 : w.heap.size + 1 = Bm := Option.some.inj e; omega)).trans HS6.out.2.1.2⟩, ⟨(far_cellR hgr7 ⟨w.heap.size, 0, none⟩ (by show w.heap.size < _; omega) (fun e => by have e2 : w.heap.size = Bm := Option.some.inj e; omega)).trans HS6.out.2.2.1, (far_cellR hgr7 ⟨w.heap.size, 1, none⟩ (by show w.heap.size < _; omega) (fun e => by have e2 : w.heap.size = Bm := Option.some.inj e; omega)).trans HS6.out.2.2.2.1, (far_cellR hgr7 ⟨w.heap.size, 2, none⟩ (by show w.heap.size < _; omega) (fun e => by have e2 : w.heap.size = Bm := Option.some.inj e; omega)).trans HS6.out.2.2.2.2.1, (far_cellR hgr7 ⟨w.heap.size, 3, none⟩ (by show w.heap.size < _; omega) (fun e => by have e2 : w.heap.size = Bm := Option.some.inj e; omega)).trans HS6.out.2.2.2.2.2⟩⟩)
        obtain ⟨ho7, hd7⟩ := HO6.out.kept (KInt.grown hgr7 HM6.out.notInt)
        have HYES := hideIt (show ∃ a c, MapR w7 Bm (n + 1) ({ x with da := a, dc := c } :: xs) ∧ DevOwn w7 { x with da := a, dc := c } ∧ devsOf w7 { x with da := a, dc := c } = devsOf w x from ⟨a', c', hM7, ho7, hd7.trans HD6.out⟩)
        have HZ7 := hideIt (show DiskZ w7 Bd (stepL l d) (stepD l d) from (hgr7.block Bd (by omega) (fun e => hn3 (Option.some.inj e))).trans ((HB6.out.block Bd (by omega)).trans HZ2.out))
        have HO7 := hideIt ((HO2.out.trans (OutR.of_below HB6.out)).trans (OutR.of_grown hgr7 (.inr rfl)))
        clear hM7 hgr7 ho7 hd7
        refine hK.out _ _ HS7.out (fun hHeld => ?_)
        clear hK K
        refine wpAnyH_done (by kernel_rfl) ?_ _
        go_wp2_with fail
        go_ret
        exact ⟨by rw [HSE.out, if_neg (by rw [HH.out]; decide)]; rfl, ⟨HZ7.out, HO7.out, fun h0 => absurd (by rw [HSE.out, if_neg (by rw [HH.out]; decide)]) h0, fun _ => HYES.out⟩⟩
  · have h11 := stepErr_pos hse
    have HSE := hideIt (show startErr l d (xs.any fun y => decide (y.pod = x.pod ∧ y.cont = x.cont)) = 11 from by unfold startErr; rw [if_pos hse]; exact h11)
    rw [h11, show errV ((11 : Nat) : Int) = .iface 133 (.int .i64 11) from rfl]
    go_wp2_with fail
    go_ret
    exact ⟨by rw [HSE.out]; rfl, ⟨HZ2.out, HO2.out, fun _ => HM2.out, fun h0 => by rw [HSE.out] at h0; cases h0⟩⟩
end Go.Proofs.Ythekalhceamcoaa
