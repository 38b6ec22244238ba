/- What 'QosSays' answers: true. -/
import Derived.Test.YthekalhceamcoaaQS2
import Derived.Test.YthekalhceamcoaaQR3
import Derived.Test.YthekalhceamcoaaQR4
namespace Go.Proofs.Ythekalhceamcoaa
open Go.RowKit
open Qos (Nd Ct Pd nd0 ct0 pd0 nd ct pd classOf sumM sumB Mild Gp gp0 gp podF upTo groups ownOf shares quota)
theorem groups_pos (qs : List Pd) : 0 < (groups words qs).length := by
  obtain ⟨r, hr⟩ := Qos.upTo_pre words qs 0 qs.length (by omega)
  have : (groups words qs).length = (upTo words qs qs.length).length := rfl
  rw [this, hr, List.length_append, Qos.upTo_len0]
  omega
theorem groups_few {qs : List Pd} (h : Fit qs) : (groups words qs).length ≤ 1000 := by
  have h1 := Qos.upTo_most h.1 (fun j hj => (h.2 j hj).1.1) words (Nat.le_refl _)
  have : (groups words qs).length = (upTo words qs qs.length).length := rfl
  omega
set_option maxRecDepth 100000 in
set_option maxHeartbeats 16000000 in
theorem qosSays_any (v : Value) (ps : List Pd) (milli : Int) (w : World) (h : PodsAt w v ps) : Calls Try.prog 7 #[v, .int .i64 milli] w fun e w' => e = .returned (.bool true) ∧ Below w.heap.size w w' := by
  obtain ⟨i0, hi, hz0, hz1, hz2⟩ := infoQ_parts infoPod
  have HH := hideIt h
  obtain ⟨ao, c, rfl, hm, hr⟩ := h
  have HR := hideIt hr
  clear hr hm
  go_enter Try.func7, Try.ntmps7
  go_wp2_with fail
  refine (classes_any w).mono ?_
  rintro e w1 ⟨rfl, hb1⟩
  have HB1 := hideIt hb1
  clear hb1
  go_wp2_with fail
  refine (lightPods_any _ ps _ (HH.out.below HB1.out)).mono ?_
  rintro e w2 ⟨⟨bl, rfl, hfew⟩, hb2⟩
  have HB2 := hideIt (HB1.out.trans (hb2.mono HB1.out.size))
  clear hb2 HB1
  rcases two bl with e1 | e1
  · subst e1
    have hl16 := hfew rfl
    clear hfew
    go_wp2_with fail
    go_loopw [6, 7] (fun g i wr => ∃ (k : Nat) (l : List (Pd × Value)), k ≤ ps.length ∧ i = .int .i64 k ∧ Below w.heap.size w wr ∧ GoodRow w wr g l ∧ l.length ≤ k) (fun _ i _ => ps.length - (intOf i).toNat)
    case atStart => exact ⟨0, [], by omega, rfl, HB2.out, GoodRow.nil _ _, by simp⟩
    case round =>
      obtain ⟨k, l, hk, rfl, hB, hG, hlk⟩ := hrel
      clear HB2
      by_cases hlt : k < ps.length
      · obtain ⟨b, o, cv, rfl, hin⟩ := HR.out (by omega)
        have HIN := hideIt hin
        have HC0 := hideIt (hin.2 k hlt).2
        have hin := hin.below hB
        obtain ⟨c0, c1, c2, hcn⟩ := hin.at hlt
        have HCF := hideIt (podFault_any (pd ps k) (cv k) wr hcn)
        have HCK := hideIt (fun W (hb : Below w.heap.size w W) => check_any (pd ps k) (cv k) W (HC0.out.below hb))
        have hsl := HC0.out.slice
        have HB := hideIt hB
        have HG := hideIt hG
        have hlb := hin.1
        have hbw : b < w.heap.size := HIN.out.1
        have HCE := hideIt (fun W (hb : Below w.heap.size w W) => (HIN.out.below hb).at hlt)
        have HLN : Hid (∃ a e, cv k = .slice a (pd ps k).cs.length e) := by
          obtain ⟨a, e, he, _⟩ := HC0.out
          exact ⟨a, e, he⟩
        unfold podV at HCF HCK
        clear hin hcn hB hG
        generalize pd ps k = x at *
        generalize hdd : cv k = d at *
        obtain ⟨da, dc, rfl⟩ := HLN.out
        clear hsl HLN
        go_wp2_with fail
        refine HCF.out.mono ?_
        rintro e w3 ⟨rfl, hb3⟩
        have HB3 := hideIt (HB.out.trans (hb3.mono HB.out.size))
        have HG3 := hideIt (HG.out.below hb3)
        clear hb3 HB HG HCF c0 c1 c2
        obtain ⟨d0, d1, d2, _⟩ := HCE.out _ HB3.out
        have HSM := hideIt (fun W => same_err (podF x) W)
        go_wp2_with fail
        refine (HCK.out _ HB3.out).mono ?_
        rintro e w4 ⟨rfl, hb4⟩
        have HB4 := hideIt (HB3.out.trans (hb4.mono HB3.out.size))
        have HG4 := hideIt (HG3.out.below hb4)
        clear hb4 HB3 HG3 HCK d0 d1 d2
        go_wp2_with fail
        refine (HSM.out _).mono ?_
        rintro e w5 ⟨rfl, rfl⟩
        clear HSM
        by_cases hf : podF x = 0
        · rw [hf]
          have HF := hideIt hf
          have HMI := hideIt (Qos.pod_mild hf)
          obtain ⟨d0, d1, d2, _⟩ := HCE.out _ HB4.out
          have HB6 := hideIt (HB4.out.alloc HB4.out.size (.cells #[.string x.nm, .int .i64 x.pr, .slice da x.cs.length dc] 60))
          have HG6 := hideIt (HG4.out.below ((Below.refl _ w5).alloc (Nat.le_refl _) (.cells #[.string x.nm, .int .i64 x.pr, .slice da x.cs.length dc] 60)))
          have HN6 := hideIt (new_pod w5 x (.slice da x.cs.length dc) 60)
          have HGL6 := hideIt HG4.out.1.lt
          clear hf
          go_wp2_with (at_builtin; refine wpList_append_own _ rfl _ _ 84 rfl w.heap.size 60 i0 (.agg #[.string ByteArray.empty, .int .i64 0, .slice none 0 0]) 3 48 Try.underlying84 hi hz0 hz1 hz2 rfl (by decide) u6 _ _ rfl HG6.out.1 ⟨_, 0, none⟩ 1 1 [.string x.nm, .int .i64 x.pr, .slice da x.cs.length dc] rfl rfl HN6.out (by intro u hu; simp at hu; rcases hu with rfl | rfl | rfl <;> rfl) (by unfold maxLen; omega) (by omega) HB6.out.size ?_; intro v2 w7 hown' hgrow' _)
          have HB7 := hideIt (HB6.out.grown hgrow' HB6.out.size (fun i hi => (HGL6.out i hi).1))
          have HG7 := hideIt (GoodRow.push (x := (x, .slice da x.cs.length dc)) hown' HG6.out.2 ⟨HF.out, HC0.out⟩)
          clear hown' hgrow' HB4 HG4 HB6 HG6 HN6 HGL6 d0 d1 d2
          have HBd := hideIt (below_drew' HB7.out)
          have HGd := hideIt (HG7.out.below (below_drew' (Below.refl _ _)))
          have HCL := hideIt (fun W (hb : Below w.heap.size w W) => class_any x (.slice da x.cs.length dc) W (HC0.out.below hb))
          have HCR := hideIt (fun W (hb : Below w.heap.size w W) => refClass_any x (.slice da x.cs.length dc) W (HC0.out.below hb) HMI.out)
          have HSU := hideIt (fun W (hb : Below w.heap.size w W) => sum_any x (.slice da x.cs.length dc) W (HC0.out.below hb) HMI.out)
          have HAS := hideIt (fun W (hb : Below w.heap.size w W) => asked_any x (.slice da x.cs.length dc) W (HC0.out.below hb) HMI.out)
          have HOW := hideIt (fun W (hb : Below w.heap.size w W) y ea en ec h0 h1 => own_any x (.slice da x.cs.length dc) y ea en ec W (HC0.out.below hb) h0 h1)
          have HOR := hideIt (fun W (hb : Below w.heap.size w W) y ea en ec h0 h1 => refOwn_any x (.slice da x.cs.length dc) y ea en ec W (HC0.out.below hb) HMI.out h0 h1)
          unfold podV at HCL HCR HSU HAS HOW HOR
          clear HB7 HG7
          generalize classOf x.cs = KK at *
          generalize sumM x.cs x.cs.length = SM at *
          generalize sumB x.cs x.cs.length = SB at *
          have hlen3 := HMI.out.1
          go_wp2_with fail
          refine wp_region_held_drew (S := (fun w' => w'.cell? ⟨b, o + k * 3, none⟩ = some (.string x.nm) ∧ w'.cell? ⟨b, o + k * 3 + 1, none⟩ = some (.int .i64 x.pr) ∧ w'.cell? ⟨b, o + k * 3 + 2, none⟩ = some (.slice da x.cs.length dc))) (by kernel_rfl) ⟨(HCE.out _ HBd.out).1, (HCE.out _ HBd.out).2.1, (HCE.out _ HBd.out).2.2.1⟩ (fun hHeld => ?_)
          refine wpAnyH_take (i := 0) (oi := { dst := some 47, op := Op.move (Operand.tmp 0), type := 84, pos := "parts.go:361", after := #[], guard := none }) (v := ?v1x0) rfl (by kernel_rfl) (by kernel_rfl) (by kernel_rfl) (fun _ _ _ h => h) (Or.inl ⟨by rfl, ?h1x0⟩) (by assumption) ?r1x0
          case h1x0 =>
            intro w' hSw
            (try dsimp only at hSw)
            go_simp
            first | done | with_reducible rfl | rfl
          (try simp only [Act.put, List.setIfInBounds_toArray, List.set_cons_zero, List.set_cons_succ])
          refine wpAnyH_take (i := 1) (oi := { dst := some 48, op := Op.move (Operand.tmp 7), type := 3, pos := "parts.go:361", after := #[], guard := none }) (v := ?v2x1) rfl (by kernel_rfl) (by kernel_rfl) (by kernel_rfl) (fun _ _ _ h => h) (Or.inl ⟨by rfl, ?h2x1⟩) (by assumption) ?r2x1
          case h2x1 =>
            intro w' hSw
            (try dsimp only at hSw)
            go_simp
            first | done | with_reducible rfl | rfl
          (try simp only [Act.put, List.setIfInBounds_toArray, List.set_cons_zero, List.set_cons_succ])
          refine wpAnyH_take (i := 2) (oi := { dst := some 49, op := Op.indexAddr 84 (Operand.tmp 47) (Operand.tmp 48), type := 0, pos := "parts.go:361", after := #[{ on := 0, ground := Ground.data }, { on := 1, ground := Ground.data }], guard := none }) (v := ?v3x2) rfl (by kernel_rfl) (by kernel_rfl) (by kernel_rfl) (fun _ _ _ h => h) (Or.inl ⟨by rfl, ?h3x2⟩) (by assumption) ?r3x2
          case h3x2 =>
            intro w' hSw
            (try dsimp only at hSw)
            go_simp
            first | done | with_reducible rfl | rfl
          (try simp only [Act.put, List.setIfInBounds_toArray, List.set_cons_zero, List.set_cons_succ])
          refine wpAnyH_take (i := 3) (oi := { dst := some 50, op := Op.load 60 (Operand.tmp 49), type := 60, pos := "parts.go:361", after := #[{ on := 2, ground := Ground.data }], guard := none }) (v := ?v4x3) rfl (by kernel_rfl) (by kernel_rfl) (by kernel_rfl) (fun _ _ _ h => h) (Or.inl ⟨by rfl, ?h4x3⟩) (by assumption) ?r4x3
          case h4x3 =>
            intro w' hSw
            (try dsimp only at hSw)
            go_simp
            first | done | with_reducible rfl | rfl
          (try simp only [Act.put, List.setIfInBounds_toArray, List.set_cons_zero, List.set_cons_succ])
          refine wpAnyH_take (i := 5) (oi := { dst := some 52, op := Op.move (Operand.tmp 0), type := 84, pos := "parts.go:361", after := #[], guard := none }) (v := ?v5x5) rfl (by kernel_rfl) (by kernel_rfl) (by kernel_rfl) (fun _ _ _ h => h) (Or.inl ⟨by rfl, ?h5x5⟩) (by assumption) ?r5x5
          case h5x5 =>
            intro w' hSw
            (try dsimp only at hSw)
            go_simp
            first | done | with_reducible rfl | rfl
          (try simp only [Act.put, List.setIfInBounds_toArray, List.set_cons_zero, List.set_cons_succ])
          refine wpAnyH_take (i := 6) (oi := { dst := some 53, op := Op.move (Operand.tmp 7), type := 3, pos := "parts.go:361", after := #[], guard := none }) (v := ?v6x6) rfl (by kernel_rfl) (by kernel_rfl) (by kernel_rfl) (fun _ _ _ h => h) (Or.inl ⟨by rfl, ?h6x6⟩) (by assumption) ?r6x6
          case h6x6 =>
            intro w' hSw
            (try dsimp only at hSw)
            go_simp
            first | done | with_reducible rfl | rfl
          (try simp only [Act.put, List.setIfInBounds_toArray, List.set_cons_zero, List.set_cons_succ])
          refine wpAnyH_take (i := 7) (oi := { dst := some 54, op := Op.indexAddr 84 (Operand.tmp 52) (Operand.tmp 53), type := 0, pos := "parts.go:361", after := #[{ on := 5, ground := Ground.data }, { on := 6, ground := Ground.data }], guard := none }) (v := ?v7x7) rfl (by kernel_rfl) (by kernel_rfl) (by kernel_rfl) (fun _ _ _ h => h) (Or.inl ⟨by rfl, ?h7x7⟩) (by assumption) ?r7x7
          case h7x7 =>
            intro w' hSw
            (try dsimp only at hSw)
            go_simp
            first | done | with_reducible rfl | rfl
          (try simp only [Act.put, List.setIfInBounds_toArray, List.set_cons_zero, List.set_cons_succ])
          refine wpAnyH_take (i := 8) (oi := { dst := some 55, op := Op.load 60 (Operand.tmp 54), type := 60, pos := "parts.go:361", after := #[{ on := 7, ground := Ground.data }], guard := none }) (v := ?v8x8) rfl (by kernel_rfl) (by kernel_rfl) (by kernel_rfl) (fun _ _ _ h => h) (Or.inl ⟨by rfl, ?h8x8⟩) (by assumption) ?r8x8
          case h8x8 =>
            intro w' hSw
            (try dsimp only at hSw)
            go_simp
            first | done | with_reducible rfl | rfl
          (try simp only [Act.put, List.setIfInBounds_toArray, List.set_cons_zero, List.set_cons_succ])
          refine wpAnyH_ready (rs := [4]) (by kernel_rfl) (by simp) (AllReadyH.cons rfl (fun K hK => ?_) AllReadyH.nil)
          go_simp
          go_wp2_with fail
          refine (HCL.out _ HBd.out).mono ?_
          rintro e w11 ⟨rfl, hb11⟩
          have HG11 := hideIt (HGd.out.below hb11)
          have HB11 := hideIt (HBd.out.trans (hb11.mono HBd.out.size))
          clear hb11 HGd HBd
          go_wp2_with fail
          refine hK.out _ _ ⟨(HCE.out _ HB11.out).1, (HCE.out _ HB11.out).2.1, (HCE.out _ HB11.out).2.2.1⟩ (fun hHeld => ?_)
          clear hK K
          refine wpAnyH_ready (rs := [9]) (by kernel_rfl) (by simp) (AllReadyH.cons rfl (fun K hK => ?_) AllReadyH.nil)
          go_simp
          go_wp2_with fail
          refine (HCR.out _ HB11.out).mono ?_
          rintro e w12 ⟨rfl, hb12⟩
          have HG12 := hideIt (HG11.out.below hb12)
          have HB12 := hideIt (HB11.out.trans (hb12.mono HB11.out.size))
          clear hb12 HG11 HB11
          go_wp2_with fail
          refine hK.out _ _ ⟨(HCE.out _ HB12.out).1, (HCE.out _ HB12.out).2.1, (HCE.out _ HB12.out).2.2.1⟩ (fun hHeld => ?_)
          clear hK K
          refine wpAnyH_take (i := 10) (oi := { dst := some 57, op := Op.binOp BinOp.neq 3 (Operand.tmp 51) (Operand.tmp 56) 3, type := 4, pos := "parts.go:361", after := #[{ on := 4, ground := Ground.data }, { on := 9, ground := Ground.data }], guard := none }) (v := Value.bool false) rfl (by kernel_rfl) (by kernel_rfl) (by kernel_rfl) (fun _ _ _ h => h) (Or.inl ⟨by rfl, ?h9x10⟩) (by assumption) ?r9x10
          case h9x10 =>
            intro w' hSw
            (try dsimp only at hSw)
            go_simp
            first | done | with_reducible rfl | rfl
          (try simp only [Act.put, List.setIfInBounds_toArray, List.set_cons_zero, List.set_cons_succ])
          refine wpAnyH_take (i := 11) (oi := { dst := some 58, op := Op.move (Operand.tmp 57), type := 4, pos := "parts.go:361", after := #[{ on := 10, ground := Ground.data }, { on := 9, ground := Ground.chain }], guard := none }) (v := ?v10x11) rfl (by kernel_rfl) (by kernel_rfl) (by kernel_rfl) (fun _ _ _ h => h) (Or.inl ⟨by rfl, ?h10x11⟩) (by assumption) ?r10x11
          case h10x11 =>
            intro w' hSw
            (try dsimp only at hSw)
            go_simp
            first | done | with_reducible rfl | rfl
          (try simp only [Act.put, List.setIfInBounds_toArray, List.set_cons_zero, List.set_cons_succ])
          refine wpAnyH_take (i := 12) (oi := { dst := some 59, op := Op.move (Operand.tmp 0), type := 84, pos := "parts.go:361", after := #[{ on := 11, ground := Ground.guard }], guard := some (11, false) }) (v := ?v11x12) rfl (by kernel_rfl) (by kernel_rfl) (by kernel_rfl) (fun _ _ _ h => h) (Or.inl ⟨by rfl, ?h11x12⟩) (by assumption) ?r11x12
          case h11x12 =>
            intro w' hSw
            (try dsimp only at hSw)
            go_simp
            first | done | with_reducible rfl | rfl
          (try simp only [Act.put, List.setIfInBounds_toArray, List.set_cons_zero, List.set_cons_succ])
          refine wpAnyH_take (i := 13) (oi := { dst := some 60, op := Op.move (Operand.tmp 7), type := 3, pos := "parts.go:361", after := #[{ on := 11, ground := Ground.guard }], guard := some (11, false) }) (v := ?v12x13) rfl (by kernel_rfl) (by kernel_rfl) (by kernel_rfl) (fun _ _ _ h => h) (Or.inl ⟨by rfl, ?h12x13⟩) (by assumption) ?r12x13
          case h12x13 =>
            intro w' hSw
            (try dsimp only at hSw)
            go_simp
            first | done | with_reducible rfl | rfl
          (try simp only [Act.put, List.setIfInBounds_toArray, List.set_cons_zero, List.set_cons_succ])
          refine wpAnyH_take (i := 14) (oi := { dst := some 61, op := Op.indexAddr 84 (Operand.tmp 59) (Operand.tmp 60), type := 0, pos := "parts.go:361", after := #[{ on := 12, ground := Ground.data }, { on := 13, ground := Ground.data }, { on := 11, ground := Ground.guard }], guard := some (11, false) }) (v := ?v13x14) rfl (by kernel_rfl) (by kernel_rfl) (by kernel_rfl) (fun _ _ _ h => h) (Or.inl ⟨by rfl, ?h13x14⟩) (by assumption) ?r13x14
          case h13x14 =>
            intro w' hSw
            (try dsimp only at hSw)
            go_simp
            first | done | with_reducible rfl | rfl
          (try simp only [Act.put, List.setIfInBounds_toArray, List.set_cons_zero, List.set_cons_succ])
          refine wpAnyH_take (i := 15) (oi := { dst := some 62, op := Op.load 60 (Operand.tmp 61), type := 60, pos := "parts.go:361", after := #[{ on := 14, ground := Ground.data }, { on := 11, ground := Ground.guard }], guard := some (11, false) }) (v := ?v14x15) rfl (by kernel_rfl) (by kernel_rfl) (by kernel_rfl) (fun _ _ _ h => h) (Or.inl ⟨by rfl, ?h14x15⟩) (by assumption) ?r14x15
          case h14x15 =>
            intro w' hSw
            (try dsimp only at hSw)
            go_simp
            first | done | with_reducible rfl | rfl
          (try simp only [Act.put, List.setIfInBounds_toArray, List.set_cons_zero, List.set_cons_succ])
          refine wpAnyH_take (i := 17) (oi := { dst := some 64, op := Op.move (Operand.tmp 0), type := 84, pos := "parts.go:361", after := #[{ on := 11, ground := Ground.guard }], guard := some (11, false) }) (v := ?v15x17) rfl (by kernel_rfl) (by kernel_rfl) (by kernel_rfl) (fun _ _ _ h => h) (Or.inl ⟨by rfl, ?h15x17⟩) (by assumption) ?r15x17
          case h15x17 =>
            intro w' hSw
            (try dsimp only at hSw)
            go_simp
            first | done | with_reducible rfl | rfl
          (try simp only [Act.put, List.setIfInBounds_toArray, List.set_cons_zero, List.set_cons_succ])
          refine wpAnyH_take (i := 18) (oi := { dst := some 65, op := Op.move (Operand.tmp 7), type := 3, pos := "parts.go:361", after := #[{ on := 11, ground := Ground.guard }], guard := some (11, false) }) (v := ?v16x18) rfl (by kernel_rfl) (by kernel_rfl) (by kernel_rfl) (fun _ _ _ h => h) (Or.inl ⟨by rfl, ?h16x18⟩) (by assumption) ?r16x18
          case h16x18 =>
            intro w' hSw
            (try dsimp only at hSw)
            go_simp
            first | done | with_reducible rfl | rfl
          (try simp only [Act.put, List.setIfInBounds_toArray, List.set_cons_zero, List.set_cons_succ])
          refine wpAnyH_take (i := 19) (oi := { dst := some 66, op := Op.indexAddr 84 (Operand.tmp 64) (Operand.tmp 65), type := 0, pos := "parts.go:361", after := #[{ on := 17, ground := Ground.data }, { on := 18, ground := Ground.data }, { on := 11, ground := Ground.guard }], guard := some (11, false) }) (v := ?v17x19) rfl (by kernel_rfl) (by kernel_rfl) (by kernel_rfl) (fun _ _ _ h => h) (Or.inl ⟨by rfl, ?h17x19⟩) (by assumption) ?r17x19
          case h17x19 =>
            intro w' hSw
            (try dsimp only at hSw)
            go_simp
            first | done | with_reducible rfl | rfl
          (try simp only [Act.put, List.setIfInBounds_toArray, List.set_cons_zero, List.set_cons_succ])
          refine wpAnyH_take (i := 20) (oi := { dst := some 67, op := Op.load 60 (Operand.tmp 66), type := 60, pos := "parts.go:361", after := #[{ on := 19, ground := Ground.data }, { on := 11, ground := Ground.guard }], guard := some (11, false) }) (v := ?v18x20) rfl (by kernel_rfl) (by kernel_rfl) (by kernel_rfl) (fun _ _ _ h => h) (Or.inl ⟨by rfl, ?h18x20⟩) (by assumption) ?r18x20
          case h18x20 =>
            intro w' hSw
            (try dsimp only at hSw)
            go_simp
            first | done | with_reducible rfl | rfl
          (try simp only [Act.put, List.setIfInBounds_toArray, List.set_cons_zero, List.set_cons_succ])
          refine wpAnyH_ready (rs := [16]) (by kernel_rfl) (by simp) (AllReadyH.cons rfl (fun K hK => ?_) AllReadyH.nil)
          go_simp
          go_wp2_with fail
          refine (HSU.out _ HB12.out).mono ?_
          rintro e w13 ⟨rfl, hb13⟩
          have HG13 := hideIt (HG12.out.below hb13)
          have HB13 := hideIt (HB12.out.trans (hb13.mono HB12.out.size))
          clear hb13 HG12 HB12
          go_wp2_with fail
          refine hK.out _ _ ⟨(HCE.out _ HB13.out).1, (HCE.out _ HB13.out).2.1, (HCE.out _ HB13.out).2.2.1⟩ (fun hHeld => ?_)
          clear hK K
          refine wpAnyH_ready (rs := [21]) (by kernel_rfl) (by simp) (AllReadyH.cons rfl (fun K hK => ?_) AllReadyH.nil)
          go_simp
          go_wp2_with fail
          refine (HAS.out _ HB13.out).mono ?_
          rintro e w14 ⟨rfl, hb14⟩
          have HG14 := hideIt (HG13.out.below hb14)
          have HB14 := hideIt (HB13.out.trans (hb14.mono HB13.out.size))
          clear hb14 HG13 HB13
          go_wp2_with fail
          refine hK.out _ _ ⟨(HCE.out _ HB14.out).1, (HCE.out _ HB14.out).2.1, (HCE.out _ HB14.out).2.2.1⟩ (fun hHeld => ?_)
          clear hK K
          refine wpAnyH_take (i := 22) (oi := { dst := some 69, op := Op.binOp BinOp.neq 89 (Operand.tmp 63) (Operand.tmp 68) 89, type := 4, pos := "parts.go:361", after := #[{ on := 16, ground := Ground.data }, { on := 21, ground := Ground.data }, { on := 11, ground := Ground.guard }], guard := some (11, false) }) (v := Value.bool false) rfl (by kernel_rfl) (by kernel_rfl) (by kernel_rfl) (fun _ _ _ h => h) (Or.inl ⟨by rfl, ?h19x22⟩) (by assumption) ?r19x22
          case h19x22 =>
            intro w' hSw
            (try dsimp only at hSw)
            go_simp
            first | done | with_reducible rfl | rfl
          (try simp only [Act.put, List.setIfInBounds_toArray, List.set_cons_zero, List.set_cons_succ])
          refine wpAnyH_take (i := 23) (oi := { dst := some 70, op := Op.pick (Operand.tmp 58) (Operand.const (Value.bool true)) (Operand.tmp 69), type := 4, pos := "parts.go:361", after := #[{ on := 11, ground := Ground.data }, { on := 22, ground := Ground.data }], guard := none }) (v := ?v20x23) rfl (by kernel_rfl) (by kernel_rfl) (by kernel_rfl) (fun _ _ _ h => h) (Or.inl ⟨by rfl, ?h20x23⟩) (by assumption) ?r20x23
          case h20x23 =>
            intro w' hSw
            (try dsimp only at hSw)
            go_simp
            first | done | with_reducible rfl | rfl
          (try simp only [Act.put, List.setIfInBounds_toArray, List.set_cons_zero, List.set_cons_succ])
          refine wpAnyH_done (by kernel_rfl) ?_ _
          clear hHeld
          have hklt : k < ps.length := hlt
          obtain ⟨d0, d1, d2, _⟩ := HCE.out _ HB14.out
          go_wp2_with fail
          clear d0 d1 d2
          go_loopw [9] (fun i wq => ∃ j : Nat, j ≤ x.cs.length ∧ i = .int .i64 j ∧ Below w14.heap.size w14 wq) (fun i _ => x.cs.length - (intOf i).toNat)
          case atStart => exact ⟨0, by omega, rfl, Below.refl _ _⟩
          case round =>
            obtain ⟨j, hj, rfl, hBj⟩ := hrel
            have HBw := hideIt (HB14.out.trans (hBj.mono HB14.out.size))
            have HBj := hideIt hBj
            clear hBj
            by_cases hjl : j < x.cs.length
            · obtain ⟨d0, d1, d2, _⟩ := HCE.out _ HBw.out
              have HKC : Hid (∃ b2 o2 dv, da = some ⟨b2, o2, none⟩ ∧ ConsIn w b2 o2 x.cs dv) := by
                obtain ⟨_, _, hv, _, hr2⟩ := HC0.out
                cases hv
                obtain ⟨b2, o2, dv, ha, hi2⟩ := hr2 (by omega)
                exact ⟨b2, o2, dv, ha, hi2⟩
              obtain ⟨b2, o2, dv, rfl, hin0⟩ := HKC.out
              have HI2 := hideIt hin0
              have hsl : ∃ a n e, dv j = .slice a n e := by
                obtain ⟨a, e, he, _⟩ := (hin0.2 j hjl).2
                exact ⟨a, _, e, he⟩
              obtain ⟨ea, en, ec, hd2⟩ := hsl
              have HCC := hideIt (fun W (hb : Below w.heap.size w W) => (HI2.out.below hb).at hjl)
              rw [hd2] at HCC
              obtain ⟨⟨y1, y2⟩, _⟩ := HMI.out.2 j hjl
              have HBd2 := hideIt (below_drew' HBw.out)
              have HBe2 := hideIt (below_drew' HBj.out)
              have HOW2 := hideIt (fun W hb => HOW.out W hb (ct x.cs j) ea en ec y1 y2)
              have HOR2 := hideIt (fun W hb => HOR.out W hb (ct x.cs j) ea en ec y1 y2)
              clear hin0 hd2 HI2 HKC HOW HOR HCL HCR HSU HAS
              generalize Qos.ownOf x.cs (ct x.cs j).am = OW at *
              generalize ct x.cs j = y at *
              go_wp2_with fail
              clear d0 d1 d2
              refine wp_region_held_drew (S := (fun w' => (w'.cell? ⟨b, o + k * 3, none⟩ = some (.string x.nm) ∧ w'.cell? ⟨b, o + k * 3 + 1, none⟩ = some (.int .i64 x.pr) ∧ w'.cell? ⟨b, o + k * 3 + 2, none⟩ = some (.slice (some ⟨b2, o2, none⟩) x.cs.length dc)) ∧ w'.cell? ⟨b2, o2 + j * 6, none⟩ = some (.string y.nm) ∧ w'.cell? ⟨b2, o2 + j * 6 + 1, none⟩ = some (.int .i64 y.am) ∧ w'.cell? ⟨b2, o2 + j * 6 + 2, none⟩ = some (.int .i64 y.ab) ∧ w'.cell? ⟨b2, o2 + j * 6 + 3, none⟩ = some (.int .i64 y.cm) ∧ w'.cell? ⟨b2, o2 + j * 6 + 4, none⟩ = some (.int .i64 y.cb) ∧ w'.cell? ⟨b2, o2 + j * 6 + 5, none⟩ = some (.slice ea en ec))) (by kernel_rfl) ⟨⟨(HCE.out _ HBd2.out).1, (HCE.out _ HBd2.out).2.1, (HCE.out _ HBd2.out).2.2.1⟩, HCC.out _ HBd2.out⟩ (fun hHeld => ?_)
              refine wpAnyH_take (i := 0) (oi := { dst := some 81, op := Op.move (Operand.tmp 0), type := 84, pos := "parts.go:365", after := #[], guard := none }) (v := ?v21x0) rfl (by kernel_rfl) (by kernel_rfl) (by kernel_rfl) (fun _ _ _ h => h) (Or.inl ⟨by rfl, ?h21x0⟩) (by assumption) ?r21x0
              case h21x0 =>
                intro w' hSw
                (try dsimp only at hSw)
                go_simp
                first | done | with_reducible rfl | rfl
              (try simp only [Act.put, List.setIfInBounds_toArray, List.set_cons_zero, List.set_cons_succ])
              refine wpAnyH_take (i := 1) (oi := { dst := some 82, op := Op.move (Operand.tmp 7), type := 3, pos := "parts.go:365", after := #[], guard := none }) (v := ?v22x1) rfl (by kernel_rfl) (by kernel_rfl) (by kernel_rfl) (fun _ _ _ h => h) (Or.inl ⟨by rfl, ?h22x1⟩) (by assumption) ?r22x1
              case h22x1 =>
                intro w' hSw
                (try dsimp only at hSw)
                go_simp
                first | done | with_reducible rfl | rfl
              (try simp only [Act.put, List.setIfInBounds_toArray, List.set_cons_zero, List.set_cons_succ])
              refine wpAnyH_take (i := 2) (oi := { dst := some 83, op := Op.indexAddr 84 (Operand.tmp 81) (Operand.tmp 82), type := 0, pos := "parts.go:365", after := #[{ on := 0, ground := Ground.data }, { on := 1, ground := Ground.data }], guard := none }) (v := ?v23x2) rfl (by kernel_rfl) (by kernel_rfl) (by kernel_rfl) (fun _ _ _ h => h) (Or.inl ⟨by rfl, ?h23x2⟩) (by assumption) ?r23x2
              case h23x2 =>
                intro w' hSw
                (try dsimp only at hSw)
                go_simp
                first | done | with_reducible rfl | rfl
              (try simp only [Act.put, List.setIfInBounds_toArray, List.set_cons_zero, List.set_cons_succ])
              refine wpAnyH_take (i := 3) (oi := { dst := some 84, op := Op.load 60 (Operand.tmp 83), type := 60, pos := "parts.go:365", after := #[{ on := 2, ground := Ground.data }], guard := none }) (v := ?v24x3) rfl (by kernel_rfl) (by kernel_rfl) (by kernel_rfl) (fun _ _ _ h => h) (Or.inl ⟨by rfl, ?h24x3⟩) (by assumption) ?r24x3
              case h24x3 =>
                intro w' hSw
                (try dsimp only at hSw)
                go_simp
                first | done | with_reducible rfl | rfl
              (try simp only [Act.put, List.setIfInBounds_toArray, List.set_cons_zero, List.set_cons_succ])
              refine wpAnyH_take (i := 4) (oi := { dst := some 85, op := Op.move (Operand.tmp 0), type := 84, pos := "parts.go:365", after := #[], guard := none }) (v := ?v25x4) rfl (by kernel_rfl) (by kernel_rfl) (by kernel_rfl) (fun _ _ _ h => h) (Or.inl ⟨by rfl, ?h25x4⟩) (by assumption) ?r25x4
              case h25x4 =>
                intro w' hSw
                (try dsimp only at hSw)
                go_simp
                first | done | with_reducible rfl | rfl
              (try simp only [Act.put, List.setIfInBounds_toArray, List.set_cons_zero, List.set_cons_succ])
              refine wpAnyH_take (i := 5) (oi := { dst := some 86, op := Op.move (Operand.tmp 7), type := 3, pos := "parts.go:365", after := #[], guard := none }) (v := ?v26x5) rfl (by kernel_rfl) (by kernel_rfl) (by kernel_rfl) (fun _ _ _ h => h) (Or.inl ⟨by rfl, ?h26x5⟩) (by assumption) ?r26x5
              case h26x5 =>
                intro w' hSw
                (try dsimp only at hSw)
                go_simp
                first | done | with_reducible rfl | rfl
              (try simp only [Act.put, List.setIfInBounds_toArray, List.set_cons_zero, List.set_cons_succ])
              refine wpAnyH_take (i := 6) (oi := { dst := some 87, op := Op.indexAddr 84 (Operand.tmp 85) (Operand.tmp 86), type := 0, pos := "parts.go:365", after := #[{ on := 4, ground := Ground.data }, { on := 5, ground := Ground.data }], guard := none }) (v := ?v27x6) rfl (by kernel_rfl) (by kernel_rfl) (by kernel_rfl) (fun _ _ _ h => h) (Or.inl ⟨by rfl, ?h27x6⟩) (by assumption) ?r27x6
              case h27x6 =>
                intro w' hSw
                (try dsimp only at hSw)
                go_simp
                first | done | with_reducible rfl | rfl
              (try simp only [Act.put, List.setIfInBounds_toArray, List.set_cons_zero, List.set_cons_succ])
              refine wpAnyH_take (i := 7) (oi := { dst := some 88, op := Op.fieldAddr 60 (Operand.tmp 87) 2, type := 0, pos := "parts.go:365", after := #[{ on := 6, ground := Ground.data }], guard := none }) (v := ?v28x7) rfl (by kernel_rfl) (by kernel_rfl) (by kernel_rfl) (fun _ _ _ h => h) (Or.inl ⟨by rfl, ?h28x7⟩) (by assumption) ?r28x7
              case h28x7 =>
                intro w' hSw
                (try dsimp only at hSw)
                go_simp
                first | done | with_reducible rfl | rfl
              (try simp only [Act.put, List.setIfInBounds_toArray, List.set_cons_zero, List.set_cons_succ])
              refine wpAnyH_take (i := 8) (oi := { dst := some 89, op := Op.load 58 (Operand.tmp 88), type := 58, pos := "parts.go:365", after := #[{ on := 7, ground := Ground.data }], guard := none }) (v := ?v29x8) rfl (by kernel_rfl) (by kernel_rfl) (by kernel_rfl) (fun _ _ _ h => h) (Or.inl ⟨by rfl, ?h29x8⟩) (by assumption) ?r29x8
              case h29x8 =>
                intro w' hSw
                (try dsimp only at hSw)
                go_simp
                first | done | with_reducible rfl | rfl
              (try simp only [Act.put, List.setIfInBounds_toArray, List.set_cons_zero, List.set_cons_succ])
              refine wpAnyH_take (i := 9) (oi := { dst := some 90, op := Op.move (Operand.tmp 9), type := 3, pos := "parts.go:365", after := #[], guard := none }) (v := ?v30x9) rfl (by kernel_rfl) (by kernel_rfl) (by kernel_rfl) (fun _ _ _ h => h) (Or.inl ⟨by rfl, ?h30x9⟩) (by assumption) ?r30x9
              case h30x9 =>
                intro w' hSw
                (try dsimp only at hSw)
                go_simp
                first | done | with_reducible rfl | rfl
              (try simp only [Act.put, List.setIfInBounds_toArray, List.set_cons_zero, List.set_cons_succ])
              refine wpAnyH_take (i := 10) (oi := { dst := some 91, op := Op.indexAddr 58 (Operand.tmp 89) (Operand.tmp 90), type := 0, pos := "parts.go:365", after := #[{ on := 8, ground := Ground.data }, { on := 9, ground := Ground.data }], guard := none }) (v := ?v31x10) rfl (by kernel_rfl) (by kernel_rfl) (by kernel_rfl) (fun _ _ _ h => h) (Or.inl ⟨by rfl, ?h31x10⟩) (by assumption) ?r31x10
              case h31x10 =>
                intro w' hSw
                (try dsimp only at hSw)
                go_simp
                first | done | with_reducible rfl | rfl
              (try simp only [Act.put, List.setIfInBounds_toArray, List.set_cons_zero, List.set_cons_succ])
              refine wpAnyH_take (i := 11) (oi := { dst := some 92, op := Op.load 94 (Operand.tmp 91), type := 94, pos := "parts.go:365", after := #[{ on := 10, ground := Ground.data }], guard := none }) (v := ?v32x11) rfl (by kernel_rfl) (by kernel_rfl) (by kernel_rfl) (fun _ _ _ h => h) (Or.inl ⟨by rfl, ?h32x11⟩) (by assumption) ?r32x11
              case h32x11 =>
                intro w' hSw
                (try dsimp only at hSw)
                go_simp
                first | done | with_reducible rfl | rfl
              (try simp only [Act.put, List.setIfInBounds_toArray, List.set_cons_zero, List.set_cons_succ])
              refine wpAnyH_take (i := 13) (oi := { dst := some 94, op := Op.move (Operand.tmp 0), type := 84, pos := "parts.go:365", after := #[], guard := none }) (v := ?v33x13) rfl (by kernel_rfl) (by kernel_rfl) (by kernel_rfl) (fun _ _ _ h => h) (Or.inl ⟨by rfl, ?h33x13⟩) (by assumption) ?r33x13
              case h33x13 =>
                intro w' hSw
                (try dsimp only at hSw)
                go_simp
                first | done | with_reducible rfl | rfl
              (try simp only [Act.put, List.setIfInBounds_toArray, List.set_cons_zero, List.set_cons_succ])
              refine wpAnyH_take (i := 14) (oi := { dst := some 95, op := Op.move (Operand.tmp 7), type := 3, pos := "parts.go:365", after := #[], guard := none }) (v := ?v34x14) rfl (by kernel_rfl) (by kernel_rfl) (by kernel_rfl) (fun _ _ _ h => h) (Or.inl ⟨by rfl, ?h34x14⟩) (by assumption) ?r34x14
              case h34x14 =>
                intro w' hSw
                (try dsimp only at hSw)
                go_simp
                first | done | with_reducible rfl | rfl
              (try simp only [Act.put, List.setIfInBounds_toArray, List.set_cons_zero, List.set_cons_succ])
              refine wpAnyH_take (i := 15) (oi := { dst := some 96, op := Op.indexAddr 84 (Operand.tmp 94) (Operand.tmp 95), type := 0, pos := "parts.go:365", after := #[{ on := 13, ground := Ground.data }, { on := 14, ground := Ground.data }], guard := none }) (v := ?v35x15) rfl (by kernel_rfl) (by kernel_rfl) (by kernel_rfl) (fun _ _ _ h => h) (Or.inl ⟨by rfl, ?h35x15⟩) (by assumption) ?r35x15
              case h35x15 =>
                intro w' hSw
                (try dsimp only at hSw)
                go_simp
                first | done | with_reducible rfl | rfl
              (try simp only [Act.put, List.setIfInBounds_toArray, List.set_cons_zero, List.set_cons_succ])
              refine wpAnyH_take (i := 16) (oi := { dst := some 97, op := Op.load 60 (Operand.tmp 96), type := 60, pos := "parts.go:365", after := #[{ on := 15, ground := Ground.data }], guard := none }) (v := ?v36x16) rfl (by kernel_rfl) (by kernel_rfl) (by kernel_rfl) (fun _ _ _ h => h) (Or.inl ⟨by rfl, ?h36x16⟩) (by assumption) ?r36x16
              case h36x16 =>
                intro w' hSw
                (try dsimp only at hSw)
                go_simp
                first | done | with_reducible rfl | rfl
              (try simp only [Act.put, List.setIfInBounds_toArray, List.set_cons_zero, List.set_cons_succ])
              refine wpAnyH_take (i := 17) (oi := { dst := some 98, op := Op.move (Operand.tmp 0), type := 84, pos := "parts.go:365", after := #[], guard := none }) (v := ?v37x17) rfl (by kernel_rfl) (by kernel_rfl) (by kernel_rfl) (fun _ _ _ h => h) (Or.inl ⟨by rfl, ?h37x17⟩) (by assumption) ?r37x17
              case h37x17 =>
                intro w' hSw
                (try dsimp only at hSw)
                go_simp
                first | done | with_reducible rfl | rfl
              (try simp only [Act.put, List.setIfInBounds_toArray, List.set_cons_zero, List.set_cons_succ])
              refine wpAnyH_take (i := 18) (oi := { dst := some 99, op := Op.move (Operand.tmp 7), type := 3, pos := "parts.go:365", after := #[], guard := none }) (v := ?v38x18) rfl (by kernel_rfl) (by kernel_rfl) (by kernel_rfl) (fun _ _ _ h => h) (Or.inl ⟨by rfl, ?h38x18⟩) (by assumption) ?r38x18
              case h38x18 =>
                intro w' hSw
                (try dsimp only at hSw)
                go_simp
                first | done | with_reducible rfl | rfl
              (try simp only [Act.put, List.setIfInBounds_toArray, List.set_cons_zero, List.set_cons_succ])
              refine wpAnyH_take (i := 19) (oi := { dst := some 100, op := Op.indexAddr 84 (Operand.tmp 98) (Operand.tmp 99), type := 0, pos := "parts.go:365", after := #[{ on := 17, ground := Ground.data }, { on := 18, ground := Ground.data }], guard := none }) (v := ?v39x19) rfl (by kernel_rfl) (by kernel_rfl) (by kernel_rfl) (fun _ _ _ h => h) (Or.inl ⟨by rfl, ?h39x19⟩) (by assumption) ?r39x19
              case h39x19 =>
                intro w' hSw
                (try dsimp only at hSw)
                go_simp
                first | done | with_reducible rfl | rfl
              (try simp only [Act.put, List.setIfInBounds_toArray, List.set_cons_zero, List.set_cons_succ])
              refine wpAnyH_take (i := 20) (oi := { dst := some 101, op := Op.fieldAddr 60 (Operand.tmp 100) 2, type := 0, pos := "parts.go:365", after := #[{ on := 19, ground := Ground.data }], guard := none }) (v := ?v40x20) rfl (by kernel_rfl) (by kernel_rfl) (by kernel_rfl) (fun _ _ _ h => h) (Or.inl ⟨by rfl, ?h40x20⟩) (by assumption) ?r40x20
              case h40x20 =>
                intro w' hSw
                (try dsimp only at hSw)
                go_simp
                first | done | with_reducible rfl | rfl
              (try simp only [Act.put, List.setIfInBounds_toArray, List.set_cons_zero, List.set_cons_succ])
              refine wpAnyH_take (i := 21) (oi := { dst := some 102, op := Op.load 58 (Operand.tmp 101), type := 58, pos := "parts.go:365", after := #[{ on := 20, ground := Ground.data }], guard := none }) (v := ?v41x21) rfl (by kernel_rfl) (by kernel_rfl) (by kernel_rfl) (fun _ _ _ h => h) (Or.inl ⟨by rfl, ?h41x21⟩) (by assumption) ?r41x21
              case h41x21 =>
                intro w' hSw
                (try dsimp only at hSw)
                go_simp
                first | done | with_reducible rfl | rfl
              (try simp only [Act.put, List.setIfInBounds_toArray, List.set_cons_zero, List.set_cons_succ])
              refine wpAnyH_take (i := 22) (oi := { dst := some 103, op := Op.move (Operand.tmp 9), type := 3, pos := "parts.go:365", after := #[], guard := none }) (v := ?v42x22) rfl (by kernel_rfl) (by kernel_rfl) (by kernel_rfl) (fun _ _ _ h => h) (Or.inl ⟨by rfl, ?h42x22⟩) (by assumption) ?r42x22
              case h42x22 =>
                intro w' hSw
                (try dsimp only at hSw)
                go_simp
                first | done | with_reducible rfl | rfl
              (try simp only [Act.put, List.setIfInBounds_toArray, List.set_cons_zero, List.set_cons_succ])
              refine wpAnyH_take (i := 23) (oi := { dst := some 104, op := Op.indexAddr 58 (Operand.tmp 102) (Operand.tmp 103), type := 0, pos := "parts.go:365", after := #[{ on := 21, ground := Ground.data }, { on := 22, ground := Ground.data }], guard := none }) (v := ?v43x23) rfl (by kernel_rfl) (by kernel_rfl) (by kernel_rfl) (fun _ _ _ h => h) (Or.inl ⟨by rfl, ?h43x23⟩) (by assumption) ?r43x23
              case h43x23 =>
                intro w' hSw
                (try dsimp only at hSw)
                go_simp
                first | done | with_reducible rfl | rfl
              (try simp only [Act.put, List.setIfInBounds_toArray, List.set_cons_zero, List.set_cons_succ])
              refine wpAnyH_take (i := 24) (oi := { dst := some 105, op := Op.load 94 (Operand.tmp 104), type := 94, pos := "parts.go:365", after := #[{ on := 23, ground := Ground.data }], guard := none }) (v := ?v44x24) rfl (by kernel_rfl) (by kernel_rfl) (by kernel_rfl) (fun _ _ _ h => h) (Or.inl ⟨by rfl, ?h44x24⟩) (by assumption) ?r44x24
              case h44x24 =>
                intro w' hSw
                (try dsimp only at hSw)
                go_simp
                first | done | with_reducible rfl | rfl
              (try simp only [Act.put, List.setIfInBounds_toArray, List.set_cons_zero, List.set_cons_succ])
              refine wpAnyH_ready (rs := [12]) (by kernel_rfl) (by simp) (AllReadyH.cons rfl (fun K hK => ?_) AllReadyH.nil)
              go_simp
              go_wp2_with fail
              refine (HOW2.out _ HBd2.out).mono ?_
              rintro e w21 ⟨rfl, hb21⟩
              have HBd3 := hideIt (HBd2.out.trans (hb21.mono HBd2.out.size))
              have HBe3 := hideIt (HBe2.out.trans (hb21.mono HBe2.out.size))
              clear hb21
              go_wp2_with fail
              refine hK.out _ _ ⟨⟨(HCE.out _ HBd3.out).1, (HCE.out _ HBd3.out).2.1, (HCE.out _ HBd3.out).2.2.1⟩, HCC.out _ HBd3.out⟩ (fun hHeld => ?_)
              clear hK K
              refine wpAnyH_ready (rs := [25]) (by kernel_rfl) (by simp) (AllReadyH.cons rfl (fun K hK => ?_) AllReadyH.nil)
              go_simp
              go_wp2_with fail
              refine (HOR2.out _ HBd3.out).mono ?_
              rintro e w22 ⟨rfl, hb22⟩
              have HBd4 := hideIt (HBd3.out.trans (hb22.mono HBd3.out.size))
              have HBe4 := hideIt (HBe3.out.trans (hb22.mono HBe3.out.size))
              clear hb22
              go_wp2_with fail
              refine hK.out _ _ ⟨⟨(HCE.out _ HBd4.out).1, (HCE.out _ HBd4.out).2.1, (HCE.out _ HBd4.out).2.2.1⟩, HCC.out _ HBd4.out⟩ (fun hHeld => ?_)
              clear hK K
              refine wpAnyH_take (i := 26) (oi := { dst := some 107, op := Op.binOp BinOp.neq 3 (Operand.tmp 93) (Operand.tmp 106) 3, type := 4, pos := "parts.go:365", after := #[{ on := 12, ground := Ground.data }, { on := 25, ground := Ground.data }], guard := none }) (v := Value.bool false) rfl (by kernel_rfl) (by kernel_rfl) (by kernel_rfl) (fun _ _ _ h => h) (Or.inl ⟨by rfl, ?h45x26⟩) (by assumption) ?r45x26
              case h45x26 =>
                intro w' hSw
                (try dsimp only at hSw)
                go_simp
                first | done | with_reducible rfl | rfl
              (try simp only [Act.put, List.setIfInBounds_toArray, List.set_cons_zero, List.set_cons_succ])
              refine wpAnyH_done (by kernel_rfl) ?_ _
              clear hHeld
              go_wp2_with fail
              go_roundw
              case rel => exact ⟨j + 1, by omega, by go_num, HBe4.out⟩
              case measure => simp [intOf]; omega
            · have hje : j = x.cs.length := by omega
              obtain ⟨d0, d1, d2, _⟩ := HCE.out _ HBw.out
              have HGe := hideIt (HG14.out.below HBj.out)
              subst hje
              go_wp2_with fail
              go_roundw
              case rel => exact ⟨k + 1, _, by omega, by go_num, HBw.out, HGe.out, by simp; omega⟩
              case measure => simp [intOf]; omega
        · have HB5 := hideIt HB4.out
          have hfp : (0 : Int) < (podF x : Nat) := by omega
          have hfq : 0 < podF x := by omega
          have hfd : decide (0 < podF x) = true := decide_eq_true hfq
          clear hf
          generalize podF x = F at *
          go_wp2_with fail
          go_roundw
          case rel => exact ⟨k + 1, l, by omega, by go_num, HB5.out, HG4.out, by omega⟩
          case measure => simp [intOf]; omega
      · have hke : k = ps.length := by omega
        subst hke
        have hP := hG.pods hB
        have hF := hG.fit (by omega)
        have HP := hideIt hP
        have HF := hideIt hF
        have HB := hideIt hB
        generalize hqs : l.map Prod.fst = qs at *
        clear hG hB
        obtain ⟨qa, qc, hqv, _⟩ := hP
        subst hqv
        clear hqs hlk hlt hk hF
        clear l
        have key : (0 ≤ milli ∧ milli ≤ 100000000) ∨ (0 ≤ milli ∧ ¬ milli ≤ 100000000) ∨ ¬ 0 ≤ milli := by omega
        rcases key with ⟨m1, m2⟩ | ⟨m1, m2⟩ | m1
        · go_wp2_with fail
          refine (shares_any milli _ m1 (by omega)).mono ?_
          rintro e w3 ⟨rfl, rfl⟩
          go_wp2_with fail
          refine (refShares_any milli _ m1 (by omega)).mono ?_
          rintro e w3 ⟨rfl, rfl⟩
          go_wp2_with fail
          refine (quota_any milli _ m1 (by omega)).mono ?_
          rintro e w3 ⟨rfl, rfl⟩
          go_wp2_with fail
          refine (refQuota_any milli _ m1 (by omega)).mono ?_
          rintro e w3 ⟨rfl, rfl⟩
          go_wp2_with fail
          refine (groups_any _ qs _ HP.out HF.out).mono ?_
          rintro e w6 ⟨⟨gv, rfl, hg⟩, hb6⟩
          have HP6 := hideIt (HP.out.below hb6)
          have HB6 := hideIt (HB.out.trans (hb6.mono HB.out.size))
          have HG6 := hideIt (hg.read (groups_pos qs))
          clear hg hb6
          go_wp2_with fail
          refine (refGroups_any _ qs _ HP6.out HF.out).mono ?_
          rintro e w7 ⟨⟨gv2, rfl, hg2⟩, hb7⟩
          have HB7 := hideIt (HB6.out.trans (hb7.mono HB6.out.size))
          have HG7 := hideIt (HG6.out.below hb7)
          have HH7 := hideIt (hg2.read (groups_pos qs))
          clear hg2 hb7
          go_wp2_with fail
          refine (sameGroups_any _ _ _ _ HG7.out HH7.out (groups_few HF.out)).mono ?_
          rintro e w8 ⟨rfl, n8, rfl⟩
          have HB8 := hideIt (below_drewN HB7.out n8)
          go_wp2_with fail
          go_ret
          exact ⟨rfl, HB8.out⟩
        · go_wp2_with fail
          refine (groups_any _ qs _ HP.out HF.out).mono ?_
          rintro e w6 ⟨⟨gv, rfl, hg⟩, hb6⟩
          have HP6 := hideIt (HP.out.below hb6)
          have HB6 := hideIt (HB.out.trans (hb6.mono HB.out.size))
          have HG6 := hideIt (hg.read (groups_pos qs))
          clear hg hb6
          go_wp2_with fail
          refine (refGroups_any _ qs _ HP6.out HF.out).mono ?_
          rintro e w7 ⟨⟨gv2, rfl, hg2⟩, hb7⟩
          have HB7 := hideIt (HB6.out.trans (hb7.mono HB6.out.size))
          have HG7 := hideIt (HG6.out.below hb7)
          have HH7 := hideIt (hg2.read (groups_pos qs))
          clear hg2 hb7
          go_wp2_with fail
          refine (sameGroups_any _ _ _ _ HG7.out HH7.out (groups_few HF.out)).mono ?_
          rintro e w8 ⟨rfl, n8, rfl⟩
          have HB8 := hideIt (below_drewN HB7.out n8)
          go_wp2_with fail
          go_ret
          exact ⟨rfl, HB8.out⟩
        · go_wp2_with fail
          refine (groups_any _ qs _ HP.out HF.out).mono ?_
          rintro e w6 ⟨⟨gv, rfl, hg⟩, hb6⟩
          have HP6 := hideIt (HP.out.below hb6)
          have HB6 := hideIt (HB.out.trans (hb6.mono HB.out.size))
          have HG6 := hideIt (hg.read (groups_pos qs))
          clear hg hb6
          go_wp2_with fail
          refine (refGroups_any _ qs _ HP6.out HF.out).mono ?_
          rintro e w7 ⟨⟨gv2, rfl, hg2⟩, hb7⟩
          have HB7 := hideIt (HB6.out.trans (hb7.mono HB6.out.size))
          have HG7 := hideIt (HG6.out.below hb7)
          have HH7 := hideIt (hg2.read (groups_pos qs))
          clear hg2 hb7
          go_wp2_with fail
          refine (sameGroups_any _ _ _ _ HG7.out HH7.out (groups_few HF.out)).mono ?_
          rintro e w8 ⟨rfl, n8, rfl⟩
          have HB8 := hideIt (below_drewN HB7.out n8)
          go_wp2_with fail
          go_ret
          exact ⟨rfl, HB8.out⟩
  · subst e1
    go_wp2_with fail
    go_ret
    exact ⟨rfl, HB2.out⟩
end Go.Proofs.Ythekalhceamcoaa
