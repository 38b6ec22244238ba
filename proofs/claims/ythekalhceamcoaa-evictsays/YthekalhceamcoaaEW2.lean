/- Who goes first, one by one: the contract of ostleryref.Rank. -/
import Derived.Test.YthekalhceamcoaaEW1
namespace Go.Proofs.Ythekalhceamcoaa
open Go.RowKit
open Qos (Nd Ct Pd pd0 nd ct pd usedOf Tame key keyLt Ranked Sel Best kyAt)
theorem TRow.far {base : Nat} {w : World} {v : Value} {l : List ByteArray} (h : TRow base w v l) (g j : Nat) (u : Value) (hg : g < base) : TRow base (w.setCell ⟨g, j, none⟩ u) v l := by
  refine World.ownsRow.kept (row := some g) h ⟨rfl, rfl, rfl, by simp, fun k _ hk => Below.heap_setCell _ _ _ k (fun e => hk (by rw [e]))⟩ ?_
  rcases h.2 with ⟨rfl, _⟩ | ⟨g', cap, cur, rfl, hb, _⟩
  · exact .inl rfl
  · refine .inr fun e => ?_
    have : g' = g := by simpa [Value.ownBlock] using e
    omega
theorem pd_mem {ps : List Pd} {q : Nat} (h : q < ps.length) : pd ps q ∈ ps := by simp [pd, h]
/-- The best one so far, as a number. -/
def BestV (us : List Nd) (ps : List Pd) (D : Nat → Bool) (q : Nat) (b : Value) : Prop := (b = .int .i64 (-1) ∧ ∀ j, j < q → D j = true) ∨ (∃ bb : Nat, b = .int .i64 bb ∧ Best us ps D q bb)
set_option maxRecDepth 100000 in
set_option maxHeartbeats 8000000 in
theorem refRank_any (v uv : Value) (ps : List Pd) (us : List Nd) (w : World) (h : PodsAt w v ps) (hu : NeedsAt w uv us) (hf : FitE ps) (ht : Tame us) :
    Calls Try.prog 65 #[v, uv] w fun e w' => (∃ v' qs, e = .returned v' ∧ TextsAt w' v' (qs.map Pd.nm) ∧ Sorted us ps qs) ∧ Below w.heap.size w w' := by
  obtain ⟨j0, hj0, hy0, hy1, hy2⟩ := infoQ_parts infoStr
  have HP := hideIt h
  have HU := hideIt hu
  obtain ⟨ao, c, rfl, _, hr⟩ := h
  obtain ⟨ao2, c2, rfl, _, _⟩ := hu
  have HR := hideIt hr
  have hl16 := hf.1
  have HF := hideIt hf
  obtain ⟨w1, hmk, hd1, hb1, hs1⟩ := make_done w ps.length hl16
  have HD1 := hideIt hd1
  have HB1 := hideIt hb1
  clear hd1 hb1 hr hf
  go_enter Try.func65, Try.ntmps65
  go_wp2_with fail
  clear hmk
  go_loopw [5, 14] (fun g i wr => ∃ (m : Nat) (D : Nat → Bool) (out : List Nat), m ≤ ps.length ∧ i = .int .i64 m ∧ out.length = m ∧ Hid (Sel us ps D out) ∧ DoneAt wr w.heap.size ps.length D ∧ TRow (w.heap.size + 1) wr g (out.map fun j => (pd ps j).nm) ∧ Below w.heap.size w wr) (fun _ i _ => ps.length - (intOf i).toNat)
  case atStart => exact ⟨0, fun _ => false, [], by omega, rfl, rfl, Sel.start us ps, HD1.out, World.ownsRow_nil _ _ _ _, HB1.out⟩
  case round =>
    obtain ⟨m, D, out, hm, rfl, hol, HSEL, hD, hT, hB⟩ := hrel
    clear HD1 HB1
    by_cases hlt : m < ps.length
    · have HD := hideIt hD
      have HT := hideIt hT
      have HB := hideIt hB
      have hl0 : 0 < ps.length := by omega
      obtain ⟨b, o, cv, rfl, hin⟩ := HR.out hl0
      have HIN := hideIt hin
      have hwo := World.block_lt_of_cell? _ _ (hD 0 hl0).1
      clear hD hT hB hin
      rename World => wo
      simp only at hwo
      go_wp2_with fail
      go_loopw [7, 8] (fun bv i wq => ∃ q : Nat, q ≤ ps.length ∧ i = .int .i64 q ∧ Below wo.heap.size wo wq ∧ BestV us ps D q bv) (fun _ i _ => ps.length - (intOf i).toNat)
      case atStart => exact ⟨0, by omega, rfl, Below.refl _ _, .inl ⟨rfl, fun j hj => by omega⟩⟩
      case round =>
        obtain ⟨q, hq, rfl, hBq, hbv⟩ := hrel
        by_cases hql : q < ps.length
        · have HBq := hideIt hBq
          have dq := (HD.out.block (hBq.block _ hwo) q hql).1
          have HBV := hideIt hbv
          clear hBq hbv
          rcases two (D q) with e1 | e1
          · have HN := hideIt (show BestV us ps D (q + 1) u7 from by
              rcases HBV.out with ⟨hb, ha⟩ | ⟨bb, hb, hbest⟩
              · refine .inl ⟨hb, fun j hj => ?_⟩
                by_cases e : j = q
                · rw [e]; exact e1
                · exact ha j (by omega)
              · exact .inr ⟨bb, hb, hbest.stay (.inl e1)⟩)
            rw [e1] at dq
            clear HBV
            go_wp2_with fail
            go_quiet (fail)
            have HBe := hideIt (below_drewN HBq.out nq)
            go_wp2_with fail
            go_roundw
            case rel => exact ⟨q + 1, by omega, by go_num, HBe.out, HN.out⟩
            case measure => simp [intOf]; omega
          · rw [e1] at dq
            rcases HBV.out with ⟨hb, ha⟩ | ⟨bb, hb, hbest⟩
            · subst hb
              have HN := hideIt (show BestV us ps D (q + 1) (.int .i64 (q : Int)) from .inr ⟨q, rfl, Best.first ha e1⟩)
              clear HBV ha
              go_wp2_with fail
              go_quiet (fail)
              have HBe := hideIt (below_drewN HBq.out nq)
              go_wp2_with fail
              go_roundw
              case rel => exact ⟨q + 1, by omega, by go_num, HBe.out, HN.out⟩
              case measure => simp [intOf]; omega
            · subst hb
              have hbl : bb < ps.length := by have := hbest.lt; omega
              have HBW := hideIt (HB.out.trans (HBq.out.mono HB.out.size))
              obtain ⟨c0, c1, c2, hcn⟩ := (HIN.out.below (below_drew' HBW.out)).at hql
              obtain ⟨d0, d1, d2, hdn⟩ := (HIN.out.below (below_drew' HBW.out)).at hbl
              have HFI := hideIt (first_any (pd ps q) (pd ps bb) (cv q) (cv bb) _ us _ hcn hdn (HF.out.2 _ (pd_mem hql)).1 (HF.out.2 _ (pd_mem hbl)).1 (HU.out.below (below_drew' HBW.out)) ht)
              have HYES := hideIt (fun (hk : keyLt (key us (pd ps q)) (key us (pd ps bb)) = true) => (show BestV us ps D (q + 1) (.int .i64 (q : Int)) from .inr ⟨q, rfl, hbest.turn e1 hk⟩))
              have HNO := hideIt (fun (hk : keyLt (key us (pd ps q)) (key us (pd ps bb)) = false) => (show BestV us ps D (q + 1) (.int .i64 (bb : Int)) from .inr ⟨bb, rfl, hbest.stay (.inr hk)⟩))
              have hsl1 := hcn.slice
              have hsl2 := hdn.slice
              have dq' : wr.drew.cell? ⟨w.heap.size, q, none⟩ = some (.bool false) := dq
              have hneg : decide ((bb : Int) < 0) = false := decide_eq_false (by omega)
              unfold podV at HFI
              clear HBV hcn hdn hbest dq
              generalize keyLt (key us (pd ps q)) (key us (pd ps bb)) = kl at *
              generalize pd ps q = x at *
              generalize pd ps bb = y at *
              generalize cv q = xd at *
              generalize cv bb = yd at *
              obtain ⟨xa, xn, xc, rfl⟩ := hsl1
              obtain ⟨ya, yn, yc, rfl⟩ := hsl2
              go_wp2_with fail
              refine wp_region_held_drew (S := (fun w' => w'.cell? ⟨w.heap.size, q, none⟩ = some (.bool false) ∧ (w'.cell? ⟨b, o + q * 3, none⟩ = some (.string x.nm) ∧ w'.cell? ⟨b, o + q * 3 + 1, none⟩ = some (.int .i64 x.pr) ∧ w'.cell? ⟨b, o + q * 3 + 2, none⟩ = some (.slice xa xn xc)) ∧ (w'.cell? ⟨b, o + bb * 3, none⟩ = some (.string y.nm) ∧ w'.cell? ⟨b, o + bb * 3 + 1, none⟩ = some (.int .i64 y.pr) ∧ w'.cell? ⟨b, o + bb * 3 + 2, none⟩ = some (.slice ya yn yc)))) (by kernel_rfl) ⟨dq', ⟨c0, c1, c2⟩, ⟨d0, d1, d2⟩⟩ (fun hHeld => ?_)
              refine wpAnyH_take (i := 0) (oi := { dst := some 22, op := Op.move (Operand.tmp 6), type := 168, pos := "ostler.go:212", after := #[], guard := none }) (v := ?v1x0) rfl (by kernel_rfl) (by kernel_rfl) (by kernel_rfl) (fun _ _ _ h => h) (Or.inl ⟨by rfl, ?h1x0⟩) (by assumption) ?r1x0
              case h1x0 =>
                intro w' hSw
                (try dsimp only at hSw)
                go_simp
                first | done | with_reducible rfl | rfl
              (try simp only [Act.put, List.setIfInBounds_toArray, List.set_cons_zero, List.set_cons_succ])
              refine wpAnyH_take (i := 1) (oi := { dst := some 23, op := Op.move (Operand.tmp 8), type := 3, pos := "ostler.go:212", after := #[], guard := none }) (v := ?v2x1) rfl (by kernel_rfl) (by kernel_rfl) (by kernel_rfl) (fun _ _ _ h => h) (Or.inl ⟨by rfl, ?h2x1⟩) (by assumption) ?r2x1
              case h2x1 =>
                intro w' hSw
                (try dsimp only at hSw)
                go_simp
                first | done | with_reducible rfl | rfl
              (try simp only [Act.put, List.setIfInBounds_toArray, List.set_cons_zero, List.set_cons_succ])
              refine wpAnyH_take (i := 2) (oi := { dst := some 24, op := Op.indexAddr 168 (Operand.tmp 22) (Operand.tmp 23), type := 0, pos := "ostler.go:212", after := #[{ on := 0, ground := Ground.data }, { on := 1, ground := Ground.data }], guard := none }) (v := ?v3x2) rfl (by kernel_rfl) (by kernel_rfl) (by kernel_rfl) (fun _ _ _ h => h) (Or.inl ⟨by rfl, ?h3x2⟩) (by assumption) ?r3x2
              case h3x2 =>
                intro w' hSw
                (try dsimp only at hSw)
                go_simp
                first | done | with_reducible rfl | rfl
              (try simp only [Act.put, List.setIfInBounds_toArray, List.set_cons_zero, List.set_cons_succ])
              refine wpAnyH_take (i := 3) (oi := { dst := some 25, op := Op.load 4 (Operand.tmp 24), type := 4, pos := "ostler.go:212", after := #[{ on := 2, ground := Ground.data }], guard := none }) (v := ?v4x3) rfl (by kernel_rfl) (by kernel_rfl) (by kernel_rfl) (fun _ _ _ h => h) (Or.inl ⟨by rfl, ?h4x3⟩) (by assumption) ?r4x3
              case h4x3 =>
                intro w' hSw
                (try dsimp only at hSw)
                go_simp
                first | done | with_reducible rfl | rfl
              (try simp only [Act.put, List.setIfInBounds_toArray, List.set_cons_zero, List.set_cons_succ])
              refine wpAnyH_take (i := 4) (oi := { dst := some 26, op := Op.unOp UnOp.not 4 (Operand.tmp 25), type := 4, pos := "ostler.go:212", after := #[{ on := 3, ground := Ground.data }], guard := none }) (v := Value.bool true) rfl (by kernel_rfl) (by kernel_rfl) (by kernel_rfl) (fun _ _ _ h => h) (Or.inl ⟨by rfl, ?h5x4⟩) (by assumption) ?r5x4
              case h5x4 =>
                intro w' hSw
                (try dsimp only at hSw)
                go_simp
                first | done | with_reducible rfl | rfl
              (try simp only [Act.put, List.setIfInBounds_toArray, List.set_cons_zero, List.set_cons_succ])
              refine wpAnyH_take (i := 5) (oi := { dst := some 27, op := Op.move (Operand.tmp 26), type := 4, pos := "ostler.go:212", after := #[{ on := 4, ground := Ground.data }], guard := none }) (v := Value.bool true) rfl (by kernel_rfl) (by kernel_rfl) (by kernel_rfl) (fun _ _ _ h => h) (Or.inl ⟨by rfl, ?h6x5⟩) (by assumption) ?r6x5
              case h6x5 =>
                intro w' hSw
                (try dsimp only at hSw)
                go_simp
                first | done | with_reducible rfl | rfl
              (try simp only [Act.put, List.setIfInBounds_toArray, List.set_cons_zero, List.set_cons_succ])
              refine wpAnyH_take (i := 6) (oi := { dst := some 28, op := Op.move (Operand.tmp 7), type := 3, pos := "ostler.go:212", after := #[{ on := 5, ground := Ground.guard }], guard := some (5, true) }) (v := ?v7x6) rfl (by kernel_rfl) (by kernel_rfl) (by kernel_rfl) (fun _ _ _ h => h) (Or.inl ⟨by rfl, ?h7x6⟩) (by assumption) ?r7x6
              case h7x6 =>
                intro w' hSw
                (try dsimp only at hSw)
                go_simp
                first | done | with_reducible rfl | rfl
              (try simp only [Act.put, List.setIfInBounds_toArray, List.set_cons_zero, List.set_cons_succ])
              refine wpAnyH_take (i := 7) (oi := { dst := some 29, op := Op.binOp BinOp.lss 3 (Operand.tmp 28) (Operand.const (Value.int IntKind.i64 0)) 3, type := 4, pos := "ostler.go:212", after := #[{ on := 6, ground := Ground.data }, { on := 5, ground := Ground.guard }], guard := some (5, true) }) (v := Value.bool false) rfl (by kernel_rfl) (by kernel_rfl) (by kernel_rfl) (fun _ _ _ h => h) (Or.inl ⟨by rfl, ?h8x7⟩) (by assumption) ?r8x7
              case h8x7 =>
                intro w' hSw
                (try dsimp only at hSw)
                go_simp
                first | done | with_reducible rfl | rfl
              (try simp only [Act.put, List.setIfInBounds_toArray, List.set_cons_zero, List.set_cons_succ])
              refine wpAnyH_take (i := 8) (oi := { dst := some 30, op := Op.move (Operand.tmp 29), type := 4, pos := "ostler.go:212", after := #[{ on := 7, ground := Ground.data }, { on := 5, ground := Ground.chain }, { on := 5, ground := Ground.guard }], guard := some (5, true) }) (v := Value.bool false) rfl (by kernel_rfl) (by kernel_rfl) (by kernel_rfl) (fun _ _ _ h => h) (Or.inl ⟨by rfl, ?h9x8⟩) (by assumption) ?r9x8
              case h9x8 =>
                intro w' hSw
                (try dsimp only at hSw)
                go_simp
                first | done | with_reducible rfl | rfl
              (try simp only [Act.put, List.setIfInBounds_toArray, List.set_cons_zero, List.set_cons_succ])
              refine wpAnyH_take (i := 9) (oi := { dst := some 31, op := Op.move (Operand.tmp 0), type := 84, pos := "ostler.go:212", after := #[{ on := 8, ground := Ground.guard }], guard := some (8, false) }) (v := ?v10x9) rfl (by kernel_rfl) (by kernel_rfl) (by kernel_rfl) (fun _ _ _ h => h) (Or.inl ⟨by rfl, ?h10x9⟩) (by assumption) ?r10x9
              case h10x9 =>
                intro w' hSw
                (try dsimp only at hSw)
                go_simp
                first | done | with_reducible rfl | rfl
              (try simp only [Act.put, List.setIfInBounds_toArray, List.set_cons_zero, List.set_cons_succ])
              refine wpAnyH_take (i := 10) (oi := { dst := some 32, op := Op.move (Operand.tmp 8), type := 3, pos := "ostler.go:212", after := #[{ on := 8, ground := Ground.guard }], guard := some (8, false) }) (v := ?v11x10) rfl (by kernel_rfl) (by kernel_rfl) (by kernel_rfl) (fun _ _ _ h => h) (Or.inl ⟨by rfl, ?h11x10⟩) (by assumption) ?r11x10
              case h11x10 =>
                intro w' hSw
                (try dsimp only at hSw)
                go_simp
                first | done | with_reducible rfl | rfl
              (try simp only [Act.put, List.setIfInBounds_toArray, List.set_cons_zero, List.set_cons_succ])
              refine wpAnyH_take (i := 11) (oi := { dst := some 33, op := Op.indexAddr 84 (Operand.tmp 31) (Operand.tmp 32), type := 0, pos := "ostler.go:212", after := #[{ on := 9, ground := Ground.data }, { on := 10, ground := Ground.data }, { on := 8, ground := Ground.guard }], guard := some (8, false) }) (v := ?v12x11) rfl (by kernel_rfl) (by kernel_rfl) (by kernel_rfl) (fun _ _ _ h => h) (Or.inl ⟨by rfl, ?h12x11⟩) (by assumption) ?r12x11
              case h12x11 =>
                intro w' hSw
                (try dsimp only at hSw)
                go_simp
                first | done | with_reducible rfl | rfl
              (try simp only [Act.put, List.setIfInBounds_toArray, List.set_cons_zero, List.set_cons_succ])
              refine wpAnyH_take (i := 12) (oi := { dst := some 34, op := Op.load 60 (Operand.tmp 33), type := 60, pos := "ostler.go:212", after := #[{ on := 11, ground := Ground.data }, { on := 8, ground := Ground.guard }], guard := some (8, false) }) (v := ?v13x12) rfl (by kernel_rfl) (by kernel_rfl) (by kernel_rfl) (fun _ _ _ h => h) (Or.inl ⟨by rfl, ?h13x12⟩) (by assumption) ?r13x12
              case h13x12 =>
                intro w' hSw
                (try dsimp only at hSw)
                go_simp
                first | done | with_reducible rfl | rfl
              (try simp only [Act.put, List.setIfInBounds_toArray, List.set_cons_zero, List.set_cons_succ])
              refine wpAnyH_take (i := 13) (oi := { dst := some 35, op := Op.move (Operand.tmp 0), type := 84, pos := "ostler.go:212", after := #[{ on := 8, ground := Ground.guard }], guard := some (8, false) }) (v := ?v14x13) rfl (by kernel_rfl) (by kernel_rfl) (by kernel_rfl) (fun _ _ _ h => h) (Or.inl ⟨by rfl, ?h14x13⟩) (by assumption) ?r14x13
              case h14x13 =>
                intro w' hSw
                (try dsimp only at hSw)
                go_simp
                first | done | with_reducible rfl | rfl
              (try simp only [Act.put, List.setIfInBounds_toArray, List.set_cons_zero, List.set_cons_succ])
              refine wpAnyH_take (i := 14) (oi := { dst := some 36, op := Op.move (Operand.tmp 7), type := 3, pos := "ostler.go:212", after := #[{ on := 8, ground := Ground.guard }], guard := some (8, false) }) (v := ?v15x14) rfl (by kernel_rfl) (by kernel_rfl) (by kernel_rfl) (fun _ _ _ h => h) (Or.inl ⟨by rfl, ?h15x14⟩) (by assumption) ?r15x14
              case h15x14 =>
                intro w' hSw
                (try dsimp only at hSw)
                go_simp
                first | done | with_reducible rfl | rfl
              (try simp only [Act.put, List.setIfInBounds_toArray, List.set_cons_zero, List.set_cons_succ])
              refine wpAnyH_take (i := 15) (oi := { dst := some 37, op := Op.indexAddr 84 (Operand.tmp 35) (Operand.tmp 36), type := 0, pos := "ostler.go:212", after := #[{ on := 13, ground := Ground.data }, { on := 14, ground := Ground.data }, { on := 8, ground := Ground.guard }], guard := some (8, false) }) (v := ?v16x15) rfl (by kernel_rfl) (by kernel_rfl) (by kernel_rfl) (fun _ _ _ h => h) (Or.inl ⟨by rfl, ?h16x15⟩) (by assumption) ?r16x15
              case h16x15 =>
                intro w' hSw
                (try dsimp only at hSw)
                go_simp
                first | done | with_reducible rfl | rfl
              (try simp only [Act.put, List.setIfInBounds_toArray, List.set_cons_zero, List.set_cons_succ])
              refine wpAnyH_take (i := 16) (oi := { dst := some 38, op := Op.load 60 (Operand.tmp 37), type := 60, pos := "ostler.go:212", after := #[{ on := 15, ground := Ground.data }, { on := 8, ground := Ground.guard }], guard := some (8, false) }) (v := ?v17x16) rfl (by kernel_rfl) (by kernel_rfl) (by kernel_rfl) (fun _ _ _ h => h) (Or.inl ⟨by rfl, ?h17x16⟩) (by assumption) ?r17x16
              case h17x16 =>
                intro w' hSw
                (try dsimp only at hSw)
                go_simp
                first | done | with_reducible rfl | rfl
              (try simp only [Act.put, List.setIfInBounds_toArray, List.set_cons_zero, List.set_cons_succ])
              refine wpAnyH_take (i := 17) (oi := { dst := some 39, op := Op.move (Operand.tmp 1), type := 61, pos := "ostler.go:212", after := #[{ on := 8, ground := Ground.guard }], guard := some (8, false) }) (v := ?v18x17) rfl (by kernel_rfl) (by kernel_rfl) (by kernel_rfl) (fun _ _ _ h => h) (Or.inl ⟨by rfl, ?h18x17⟩) (by assumption) ?r18x17
              case h18x17 =>
                intro w' hSw
                (try dsimp only at hSw)
                go_simp
                first | done | with_reducible rfl | rfl
              (try simp only [Act.put, List.setIfInBounds_toArray, List.set_cons_zero, List.set_cons_succ])
              refine wpAnyH_ready (rs := [18]) (by kernel_rfl) (by simp) (AllReadyH.cons rfl (fun K hK => ?_) AllReadyH.nil)
              go_simp
              go_wp2_with fail
              refine HFI.out.mono ?_
              rintro e w5 ⟨rfl, hb5⟩
              have HB5 := hideIt ((below_drew' HBq.out).trans (hb5.mono HBq.out.size))
              have hbl5 : b < wr.drew.heap.size := World.block_lt_of_cell? _ _ c0
              have hwl5 : w.heap.size < wr.drew.heap.size := World.block_lt_of_cell? _ _ dq'
              have HS5 := hideIt (show (w5.cell? ⟨w.heap.size, q, none⟩ = some (.bool false) ∧ (w5.cell? ⟨b, o + q * 3, none⟩ = some (.string x.nm) ∧ w5.cell? ⟨b, o + q * 3 + 1, none⟩ = some (.int .i64 x.pr) ∧ w5.cell? ⟨b, o + q * 3 + 2, none⟩ = some (.slice xa xn xc)) ∧ (w5.cell? ⟨b, o + bb * 3, none⟩ = some (.string y.nm) ∧ w5.cell? ⟨b, o + bb * 3 + 1, none⟩ = some (.int .i64 y.pr) ∧ w5.cell? ⟨b, o + bb * 3 + 2, none⟩ = some (.slice ya yn yc))) from ⟨(hb5.cell (p := ⟨w.heap.size, q, none⟩) hwl5).trans dq', ⟨(hb5.cell (p := ⟨b, o + q * 3, none⟩) hbl5).trans c0, (hb5.cell (p := ⟨b, o + q * 3 + 1, none⟩) hbl5).trans c1, (hb5.cell (p := ⟨b, o + q * 3 + 2, none⟩) hbl5).trans c2⟩, ⟨(hb5.cell (p := ⟨b, o + bb * 3, none⟩) hbl5).trans d0, (hb5.cell (p := ⟨b, o + bb * 3 + 1, none⟩) hbl5).trans d1, (hb5.cell (p := ⟨b, o + bb * 3 + 2, none⟩) hbl5).trans d2⟩⟩)
              clear hb5
              go_wp2_with fail
              refine hK.out _ _ HS5.out (fun hHeld => ?_)
              clear hK K
              refine wpAnyH_take (i := 19) (oi := { dst := some 41, op := Op.pick (Operand.tmp 30) (Operand.const (Value.bool true)) (Operand.tmp 40), type := 4, pos := "ostler.go:212", after := #[{ on := 8, ground := Ground.data }, { on := 18, ground := Ground.data }, { on := 5, ground := Ground.guard }], guard := some (5, true) }) (v := Value.bool kl) rfl (by kernel_rfl) (by kernel_rfl) (by kernel_rfl) (fun _ _ _ h => h) (Or.inl ⟨by rfl, ?h19x19⟩) (by assumption) ?r19x19
              case h19x19 =>
                intro w' hSw
                (try dsimp only at hSw)
                go_simp
                first | done | with_reducible rfl | rfl
              (try simp only [Act.put, List.setIfInBounds_toArray, List.set_cons_zero, List.set_cons_succ])
              refine wpAnyH_take (i := 20) (oi := { dst := some 42, op := Op.pick (Operand.tmp 27) (Operand.tmp 41) (Operand.const (Value.bool false)), type := 4, pos := "ostler.go:212", after := #[{ on := 5, ground := Ground.data }, { on := 19, ground := Ground.data }], guard := none }) (v := Value.bool kl) rfl (by kernel_rfl) (by kernel_rfl) (by kernel_rfl) (fun _ _ _ h => h) (Or.inl ⟨by rfl, ?h20x20⟩) (by assumption) ?r20x20
              case h20x20 =>
                intro w' hSw
                (try dsimp only at hSw)
                go_simp
                first | done | with_reducible rfl | rfl
              (try simp only [Act.put, List.setIfInBounds_toArray, List.set_cons_zero, List.set_cons_succ])
              refine wpAnyH_done (by kernel_rfl) ?_ _
              clear hHeld HFI dq' c0 c1 c2 d0 d1 d2
              rcases two kl with e2 | e2
              · subst e2
                have HN := hideIt (HYES.out rfl)
                go_wp2_with fail
                go_roundw
                case rel => exact ⟨q + 1, by omega, by go_num, HB5.out, HN.out⟩
                case measure => simp [intOf]; omega
              · subst e2
                have HN := hideIt (HNO.out rfl)
                go_wp2_with fail
                go_roundw
                case rel => exact ⟨q + 1, by omega, by go_num, HB5.out, HN.out⟩
                case measure => simp [intOf]; omega
        · have hqe : q = ps.length := by omega
          subst hqe
          obtain ⟨bb, hb, hbest⟩ : ∃ bb : Nat, u7 = .int .i64 bb ∧ Best us ps D ps.length bb := by
            rcases hbv with ⟨_, ha⟩ | hb
            · exact absurd ha (HSEL.out.left (by omega))
            · exact hb
          subst hb
          have hbl : bb < ps.length := hbest.lt
          have HBq := hideIt hBq
          have hDq := HD.out.block (hBq.block _ hwo)
          obtain ⟨e0, e1⟩ := hDq bb hbl
          have HD6 := hideIt (hDq.set hbl)
          have HT6 := hideIt ((HT.out.below hBq).far w.heap.size bb (.bool true) (by omega))
          have hB6 := (HB.out.trans (hBq.mono HB.out.size)).setCell (p := ⟨w.heap.size, bb, none⟩) (Nat.le_refl _) (.bool true)
          have HSEL6 := hideIt (HSEL.out.step hbest)
          obtain ⟨c0, c1, c2, hcn⟩ := (HIN.out.below hB6).at hbl
          have HB6 := hideIt hB6
          have hsz6 : w.heap.size + 1 ≤ (wr.setCell ⟨w.heap.size, bb, none⟩ (.bool true)).heap.size := by have := World.block_lt_of_cell? _ _ e0; simp at this ⊢; omega
          clear hDq hBq hbv hB6 hcn c1 c2 HD HT HB HSEL
          have HOL : Hid ((out ++ [bb]).length = m + 1) := by unfold Hid; rw [List.length_append, hol]; rfl
          have HON : Hid ((out ++ [bb]).map (fun j => (pd ps j).nm) = out.map (fun j => (pd ps j).nm) ++ [(pd ps bb).nm]) := by unfold Hid; rw [List.map_append]; rfl
          have hln : (out.map (fun j => (pd ps j).nm)).length ≤ 16 := by rw [List.length_map]; omega
          generalize out.map (fun j => (pd ps j).nm) = L at *
          generalize (pd ps bb).nm = nmb at *
          have HB7 := hideIt (HB6.out.alloc HB6.out.size (.cells #[.string nmb] 9))
          have HT7 := hideIt (HT6.out.below ((Below.refl _ _).alloc (Nat.le_refl _) (.cells #[.string nmb] 9)))
          have HD7 := hideIt (HD6.out.block (w' := (wr.setCell ⟨w.heap.size, bb, none⟩ (.bool true)).alloc (.cells #[.string nmb] 9)) (Below.heap_alloc _ _ _ (by omega)))
          have hn7 := new_text (wr.setCell ⟨w.heap.size, bb, none⟩ (.bool true)) nmb 9
          rw [show (wr.setCell ⟨w.heap.size, bb, none⟩ (.bool true)).heap.size = wr.heap.size by simp] at hn7
          have HN7 := hideIt hn7
          clear hn7
          have hsz7 : w.heap.size + 1 ≤ ((wr.setCell ⟨w.heap.size, bb, none⟩ (.bool true)).alloc (.cells #[.string nmb] 9)).heap.size := by simp only [World.size_alloc]; omega
          have HGL := hideIt (World.ownsRow.lt HT6.out)
          clear HT6 HB6 HD6 hbest
          go_wp2_with (at_builtin; refine wpList_append_own _ rfl _ _ 101 rfl (w.heap.size + 1) 9 j0 (.string ByteArray.empty) 1 16 Try.underlying101 hj0 hy0 hy1 hy2 rfl (by decide) u5 _ _ rfl HT7.out ⟨_, 0, none⟩ 1 1 [.string nmb] rfl rfl HN7.out (by intro u hu; simp at hu; subst hu; rfl) (by unfold maxLen; omega) (by omega) hsz7 ?_; intro v9 w9 hown' hgrow' _)
          have HB9 := hideIt (HB7.out.grown hgrow' HB7.out.size (fun i hi => by have := (HGL.out i hi).1; omega))
          have HD9 := hideIt (HD7.out.block (w' := w9) (hgrow'.block _ (by omega) (fun e => by have := (HGL.out _ e.symm).1; omega)))
          have HT9 : Hid (TRow (w.heap.size + 1) w9 v9 (L ++ [nmb])) := by
            unfold Hid TRow txV
            rw [List.map_append, List.length_append]
            exact hown'
          clear hown' hgrow'
          go_roundw
          case rel => exact ⟨m + 1, _, out ++ [bb], by omega, by go_num, HOL.out, HSEL6, HD9.out, by rw [HON.out]; exact HT9.out, HB9.out⟩
          case measure => simp [intOf]; omega
    · have hme : m = ps.length := by omega
      subst hme
      have HSA := hideIt (HSEL.out.all hol)
      have HT := hideIt hT.read
      have HB := hideIt hB
      clear hT hB hD
      go_wp2_with fail
      go_ret
      exact ⟨⟨_, out.map (fun j => pd ps j), rfl, by rw [List.map_map]; exact HT.out, HSA.out.1, HSA.out.2⟩, HB.out⟩
end Go.Proofs.Ythekalhceamcoaa
