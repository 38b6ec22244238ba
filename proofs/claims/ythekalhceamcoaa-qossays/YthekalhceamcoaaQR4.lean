/- Groups of pods, as the document says: the contract of ostleryref.Groups. -/
import Derived.Test.YthekalhceamcoaaQG4
import Derived.Test.YthekalhceamcoaaQR2
import Derived.Test.YthekalhceamcoaaQMath3
import Derived.Deep.AppendLies
namespace Go.Proofs.Ythekalhceamcoaa
open Go.RowKit
open Qos (Nd Ct Pd nd0 ct0 pd0 nd ct pd classOf sumM sumB Mild shares quota lim Words pathOf sumTo Gp gp0 gp podG contG podGs midOf middle heads upTo groups within limTo)
theorem limTo_in {f : Ct → Int} {cs : List Ct} {B : Int} (hl : cs.length ≤ 3) (h0 : 0 ≤ B) (h : ∀ k, k < cs.length → 0 ≤ f (ct cs k) ∧ f (ct cs k) ≤ B) : 0 ≤ sumTo (fun j => f (ct cs j)) cs.length ∧ sumTo (fun j => f (ct cs j)) cs.length ≤ 3 * B := by
  have h1 := Qos.sumTo_nonneg (f := fun j => f (ct cs j)) (n := cs.length) (fun k hk => (h k hk).1)
  have h2 := Qos.sumTo_most (f := fun j => f (ct cs j)) (n := cs.length) (B := B) (fun k hk => (h k hk).2)
  have h3 : (cs.length : Int) * B ≤ 3 * B := Int.mul_le_mul_of_nonneg_right (by omega) h0
  omega
theorem BoxAt.kept {W W' : World} {B : Nat} {x : Ct} {d : Value} {g : Option Nat} (h : BoxAt W B x d) (hg : W.grownBy W' g) (hne : some B ≠ g) : BoxAt W' B x d := by
  obtain ⟨h0, h1, h2, h3, h4, h5, h6⟩ := h
  exact ⟨Nat.lt_of_lt_of_le h0 hg.size, (hg.cell_far ⟨B, 0, none⟩ h0 hne).trans h1, (hg.cell_far ⟨B, 1, none⟩ h0 hne).trans h2, (hg.cell_far ⟨B, 2, none⟩ h0 hne).trans h3, (hg.cell_far ⟨B, 3, none⟩ h0 hne).trans h4, (hg.cell_far ⟨B, 4, none⟩ h0 hne).trans h5, (hg.cell_far ⟨B, 5, none⟩ h0 hne).trans h6⟩
theorem row_other {u : Value} {g n c H BX : Nat} (hg : u.ownBlock = some g ∨ g = H) (hB : BX < H) (hu : ∀ k, u.ownBlock = some k → k ≠ BX) : ∀ k, (Value.slice (some ⟨g, 0, none⟩) n c).ownBlock = some k → k ≠ BX := by
  intro k hk
  have e : g = k := by simpa [Value.ownBlock] using hk
  subst e
  rcases hg with h | h
  · exact hu _ h
  · omega
set_option maxRecDepth 100000 in
set_option maxHeartbeats 16000000 in
theorem refGroups_any (v : Value) (ps : List Pd) (w : World) (h : PodsAt w v ps) (hf : Fit ps) : Calls Try.prog 59 #[v] w fun e w' => (∃ v', e = .returned v' ∧ GRow w.heap.size w' v' (groups words ps)) ∧ Below w.heap.size w w' := by
  obtain ⟨i0, hi, hz0, hz1, hz2⟩ := infoQ_parts infoGroup
  obtain ⟨ao, c, rfl, hm, hr⟩ := h
  have HR := hideIt hr
  clear hr hm
  have HF := hideIt hf
  have hl16 := hf.1
  clear hf
  go_enter Try.func59, Try.ntmps59
  go_wp2_with fail
  go_loopw [3, 4] (fun m i wr => ∃ k : Nat, k ≤ ps.length ∧ i = .int .i64 k ∧ m = .int .i64 (middle ps k) ∧ Below w.heap.size w wr) (fun _ i _ => ps.length - (intOf i).toNat)
  case atStart => exact ⟨0, by omega, rfl, rfl, Below.refl _ _⟩
  case round =>
    obtain ⟨k, hk, rfl, rfl, hB⟩ := hrel
    by_cases hlt : k < ps.length
    · obtain ⟨b, o, cv, rfl, hin⟩ := HR.out (by omega)
      have hin := hin.below hB
      obtain ⟨c0, c1, c2, hcn⟩ := hin.at hlt
      have hlb := hin.1
      have HBa := hideIt hB
      have HCL := hideIt (refClass_any (pd ps k) (cv k) wr hcn (HF.out.2 k hlt).1)
      have HSU := hideIt (fun W (hb : Below wr.heap.size wr W) => asked_any (pd ps k) (cv k) W (hcn.below hb) (HF.out.2 k hlt).1)
      have hmi := mid_in HF.out hk
      have hsi := Qos.sumM_in (HF.out.2 k hlt).1 (Nat.le_refl _)
      have HST : Hid (middle ps (k + 1) = middle ps k + if classOf (pd ps k).cs = 2 then sumM (pd ps k).cs (pd ps k).cs.length else 0) := rfl
      have hsl := hcn.slice
      unfold podV at HCL HSU
      clear hin hcn hB
      generalize middle ps k = M at *
      generalize classOf (pd ps k).cs = K at *
      generalize sumM (pd ps k).cs (pd ps k).cs.length = SM at *
      generalize sumB (pd ps k).cs (pd ps k).cs.length = SB at *
      generalize pd ps k = x at *
      generalize cv k = d at *
      obtain ⟨da, dn, dc, rfl⟩ := hsl
      have HW : wrap64 (M + SM) = M + SM := by unfold wrap64; omega
      by_cases hK : K = 2
      · subst hK
        have HST' := hideIt (HST.out.trans (by rw [if_pos rfl]))
        clear HST
        go_wp2_with fail
        refine HCL.out.mono ?_
        rintro e w1 ⟨rfl, hb1⟩
        have d0 := (hb1.cell (p := ⟨b, o + k * 3, none⟩) hlb).trans c0
        have d1 := (hb1.cell (p := ⟨b, o + k * 3 + 1, none⟩) hlb).trans c1
        have d2 := (hb1.cell (p := ⟨b, o + k * 3 + 2, none⟩) hlb).trans c2
        have HBb := hideIt hb1
        have HB1 := hideIt (HBa.out.trans (hb1.mono HBa.out.size))
        clear hb1 HBa c0 c1 c2
        go_wp2_with fail
        refine (HSU.out _ HBb.out).mono ?_
        rintro e w2 ⟨rfl, hb2⟩
        have HB2 := hideIt (HB1.out.trans (hb2.mono HB1.out.size))
        clear hb2 HB1
        go_wp2_with fail
        show (_ : Act → World → Prop) (Act.put _ _ (Value.int .i64 SM)) _
        go_wp2_with fail
        go_roundw
        case rel => exact ⟨k + 1, by omega, by go_num, by rw [HST'.out], HB2.out⟩
        case measure => simp [intOf]; omega
      · have HST' := hideIt (HST.out.trans (by rw [if_neg hK, Int.add_zero]))
        have hKb : (K == 2) = false := by simp [hK]
        clear HST
        go_wp2_with fail
        refine HCL.out.mono ?_
        rintro e w1 ⟨rfl, hb1⟩
        have HB1 := hideIt (HBa.out.trans (hb1.mono HBa.out.size))
        clear hb1 HBa
        go_wp2_with fail
        go_roundw
        case rel => exact ⟨k + 1, by omega, by go_num, by rw [HST'.out], HB1.out⟩
        case measure => simp [intOf]; omega
    · have hke : k = ps.length := by omega
      subst hke
      have HB1 := hideIt hB
      have hmi := mid_in HF.out (Nat.le_refl _)
      have HG0 := hideIt (two_groups wr w.heap.size ⟨words.midAll, shares (middle ps ps.length), -1, 0⟩ ⟨words.lowAll, 2, -1, 0⟩ hB.size)
      have HU0 : Hid (upTo words ps 0 = [⟨words.midAll, shares (middle ps ps.length), -1, 0⟩, ⟨words.lowAll, 2, -1, 0⟩]) := Qos.upTo_zero words ps
      have HBs := hideIt (hB.alloc hB.size (.cells #[.string words.midAll, .int .i64 (shares (middle ps ps.length)), .int .i64 (-1), .int .i64 0, .string words.lowAll, .int .i64 2, .int .i64 (-1), .int .i64 0] 107))
      clear hB
      rw [← HU0.out] at HG0
      generalize middle ps ps.length = M at *
      go_wp2_with fail
      refine (refShares_any M _ hmi.1 (by omega)).mono ?_
      rintro e w1 ⟨rfl, rfl⟩
      go_wp2_with fail
      go_loopw [5, 6] (fun g i wr => ∃ k : Nat, k ≤ ps.length ∧ i = .int .i64 k ∧ Below w.heap.size w wr ∧ GRow w.heap.size wr g (upTo words ps k)) (fun _ i _ => ps.length - (intOf i).toNat)
      case atStart => exact ⟨0, by omega, rfl, HBs.out, HG0.out⟩
      case round =>
        obtain ⟨k, hk2, rfl, hB, hG⟩ := hrel
        clear HB1 HG0 HBs HU0 hk hlt
        by_cases hlt : k < ps.length
        · obtain ⟨b, o, cv, rfl, hin⟩ := HR.out (by omega)
          have HC0 := hideIt (hin.2 k hlt).2
          have hin := hin.below hB
          obtain ⟨c0, c1, c2, hcn⟩ := hin.at hlt
          have hba := (Below.refl wr.heap.size wr).alloc (Nat.le_refl _) (.cells #[.string (pd ps k).nm, .int .i64 (pd ps k).pr, cv k] 60)
          have HPa := hideIt (PBoxAt.made wr (pd ps k) (cv k))
          have HBa := hideIt (hB.trans (hba.mono hB.size))
          have HGa := hideIt (hG.below hba)
          have HGL := hideIt hG.lt
          obtain ⟨hMi, hnm, hcnm⟩ := HF.out.2 k hlt
          have HMi := hideIt hMi
          have HCN := hideIt hcnm
          have HPT := hideIt (fun W (hb : Below w.heap.size w W) => refPath_any (pd ps k) (cv k) W (HC0.out.below hb) hMi (by omega))
          have HSU := hideIt (fun W (hb : Below w.heap.size w W) => asked_any (pd ps k) (cv k) W (HC0.out.below hb) hMi)
          have hsi := Qos.sumM_in hMi (Nat.le_refl _)
          have hps := path_size (pd ps k) hnm
          have hL0 := Qos.lim_nonneg (f := Ct.cm) (cs := (pd ps k).cs) (fun j hj => (hMi.2 j hj).2.2.1.1)
          have hL1 := lim_most hMi
          have HLa := hideIt (Qos.limTo_all Ct.cm (pd ps k).cs)
          have HLb := hideIt (Qos.limTo_all Ct.cb (pd ps k).cs)
          have hSm := limTo_in (f := Ct.cm) (B := 1000000) hMi.1 (by omega) (fun j hj => (hMi.2 j hj).2.2.1)
          have hSb := limTo_in (f := Ct.cb) (B := 1125899906842624) hMi.1 (by omega) (fun j hj => (hMi.2 j hj).2.2.2.1)
          have HPG : Hid (podG words (pd ps k) = ⟨pathOf words (pd ps k), shares (sumM (pd ps k).cs (pd ps k).cs.length), quota (lim Ct.cm (pd ps k).cs), lim Ct.cb (pd ps k).cs⟩) := rfl
          have HW0 := hideIt (Qos.within_zero words ps k)
          have HWL := hideIt (Qos.upTo_most HF.out.1 (fun j hj => (HF.out.2 j hj).1.1) words hk2)
          have HWS := hideIt (Qos.within_succ words ps k)
          have HWA := hideIt (Qos.within_all words ps k hlt)
          have HWN := hideIt (Qos.within_len words ps k)
          have hlen3 := hMi.1
          have HCG : Hid (∀ j, contG words (pd ps k) (ct (pd ps k).cs j) = ⟨pathOf words (pd ps k) ++ words.sep ++ (ct (pd ps k).cs j).nm, shares (ct (pd ps k).cs j).am, quota (ct (pd ps k).cs j).cm, (ct (pd ps k).cs j).cb⟩) := fun _ => rfl
          obtain ⟨da, dc, hd, hdm, hdr⟩ := hcn
          unfold podV at HPT HSU
          clear hin hba hB hG hMi hnm hcnm hdr hdm
          generalize hx : pd ps k = x at *
          generalize cv k = d at *
          subst hd
          go_wp2_with fail
          generalize hWW : wr.alloc (.cells #[.string x.nm, .int .i64 x.pr, .slice da x.cs.length dc] 60) = WW at *
          clear hWW c0 c1 c2
          generalize wr.heap.size = BX at *
          go_loop [8, 9, 10] (fun m y i => ∃ j : Nat, j ≤ x.cs.length ∧ i = .int .i64 j ∧ m = .int .i64 (sumTo (fun j => Ct.cm (ct x.cs j)) j) ∧ y = .int .i64 (sumTo (fun j => Ct.cb (ct x.cs j)) j)) (fun _ _ i => x.cs.length - (intOf i).toNat)
          case atStart => exact ⟨0, by omega, rfl, rfl, rfl⟩
          case round =>
            obtain ⟨j, hj, rfl, rfl, rfl⟩ := hrel
            obtain ⟨q0, q1, q2, q3⟩ := HPa.out
            by_cases hjl : j < x.cs.length
            · obtain ⟨_, _, hv, _, hr2⟩ := HC0.out.below HBa.out
              cases hv
              obtain ⟨b2, o2, dv, rfl, hin2⟩ := hr2 (by omega)
              obtain ⟨d0, d1, d2, d3, d4, d5⟩ := hin2.at hjl
              obtain ⟨_, _, ⟨y3, y4⟩, ⟨y5, y6⟩, _⟩ := HMi.out.2 j hjl
              have t0 := Qos.sumTo_nonneg (f := fun j => Ct.cm (ct x.cs j)) (n := j) (fun i hi => (HMi.out.2 i (by omega)).2.2.1.1)
              have t1 := Qos.sumTo_most (f := fun j => Ct.cm (ct x.cs j)) (n := j) (B := 1000000) (fun i hi => (HMi.out.2 i (by omega)).2.2.1.2)
              have t2 := Qos.sumTo_nonneg (f := fun j => Ct.cb (ct x.cs j)) (n := j) (fun i hi => (HMi.out.2 i (by omega)).2.2.2.1.1)
              have t3 := Qos.sumTo_most (f := fun j => Ct.cb (ct x.cs j)) (n := j) (B := 1125899906842624) (fun i hi => (HMi.out.2 i (by omega)).2.2.2.1.2)
              have t1' : sumTo (fun j => Ct.cm (ct x.cs j)) j ≤ 3000000 := by omega
              have t3' : sumTo (fun j => Ct.cb (ct x.cs j)) j ≤ 3377699720527872 := by omega
              have HS1 : Hid (sumTo (fun j => Ct.cm (ct x.cs j)) (j + 1) = sumTo (fun j => Ct.cm (ct x.cs j)) j + (ct x.cs j).cm) := rfl
              have HS2 : Hid (sumTo (fun j => Ct.cb (ct x.cs j)) (j + 1) = sumTo (fun j => Ct.cb (ct x.cs j)) j + (ct x.cs j).cb) := rfl
              clear t1 t3 hin2 hr2
              generalize sumTo (fun j => Ct.cm (ct x.cs j)) j = S1 at *
              generalize sumTo (fun j => Ct.cb (ct x.cs j)) j = S2 at *
              generalize ct x.cs j = y at *
              have w1 : wrap64 (S1 + y.cm) = S1 + y.cm := by unfold wrap64; omega
              have w2 : wrap64 (S2 + y.cb) = S2 + y.cb := by unfold wrap64; omega
              go_wp2_with fail
              go_round
              case rel => exact ⟨j + 1, by omega, by go_num, by rw [HS1.out], by rw [HS2.out]⟩
              case measure => simp [intOf]; omega
            · have hje : j = x.cs.length := by omega
              subst hje
              go_wp2_with fail
              go_loop [8, 9, 11] (fun m y i => ∃ j : Nat, j ≤ x.cs.length ∧ i = .int .i64 j ∧ m = .int .i64 (limTo Ct.cm x.cs j) ∧ y = .int .i64 (limTo Ct.cb x.cs j)) (fun _ _ i => x.cs.length - (intOf i).toNat)
              case atStart => exact ⟨0, by omega, rfl, rfl, rfl⟩
              case round =>
                obtain ⟨j, hj, rfl, rfl, rfl⟩ := hrel
                by_cases hjl : j < x.cs.length
                · obtain ⟨_, _, hv, _, hr2⟩ := HC0.out.below HBa.out
                  cases hv
                  obtain ⟨b2, o2, dv, rfl, hin2⟩ := hr2 (by omega)
                  obtain ⟨d0, d1, d2, d3, d4, d5⟩ := hin2.at hjl
                  have N1 := hideIt (@Qos.limTo_no Ct.cm x.cs j)
                  have Y1 := hideIt (@Qos.limTo_yes Ct.cm x.cs j)
                  have N2 := hideIt (@Qos.limTo_no Ct.cb x.cs j)
                  have Y2 := hideIt (@Qos.limTo_yes Ct.cb x.cs j)
                  clear hin2 hr2 d0 d1 d2 d5
                  generalize limTo Ct.cm x.cs j = S1 at *
                  generalize limTo Ct.cb x.cs j = S2 at *
                  generalize ct x.cs j = y at *
                  have k1 : (y.cm == 0) = true ∨ (y.cm == 0) = false := two _
                  have k2 : (y.cb == 0) = true ∨ (y.cb == 0) = false := two _
                  have r1 : ∃ R1, Hid (limTo Ct.cm x.cs (j + 1) = R1) ∧ ((y.cm == 0) = true → R1 = 0) ∧ ((y.cm == 0) = false → R1 = S1) := by
                    by_cases h : y.cm = 0
                    · exact ⟨0, N1.out h, fun _ => rfl, fun e => by simp [h] at e⟩
                    · exact ⟨S1, Y1.out h, fun e => by simp [h] at e, fun _ => rfl⟩
                  have r2 : ∃ R2, Hid (limTo Ct.cb x.cs (j + 1) = R2) ∧ ((y.cb == 0) = true → R2 = 0) ∧ ((y.cb == 0) = false → R2 = S2) := by
                    by_cases h : y.cb = 0
                    · exact ⟨0, N2.out h, fun _ => rfl, fun e => by simp [h] at e⟩
                    · exact ⟨S2, Y2.out h, fun e => by simp [h] at e, fun _ => rfl⟩
                  obtain ⟨R1, HR1, u1, u1'⟩ := r1
                  obtain ⟨R2, HR2, u2, u2'⟩ := r2
                  clear N1 Y1 N2 Y2
                  rcases k1 with k1 | k1
                  · rcases k2 with k2 | k2
                    · have e1 := u1 k1
                      have e2 := u2 k2
                      subst e1 e2
                      clear u1 u1' u2 u2'
                      go_wp2_with fail
                      go_round
                      case rel => exact ⟨j + 1, by omega, by go_num, by rw [HR1.out], by rw [HR2.out]⟩
                      case measure => simp [intOf]; omega
                    · have e1 := u1 k1
                      have e2 := u2' k2
                      subst e1 e2
                      clear u1 u1' u2 u2'
                      go_wp2_with fail
                      go_round
                      case rel => exact ⟨j + 1, by omega, by go_num, by rw [HR1.out], by rw [HR2.out]⟩
                      case measure => simp [intOf]; omega
                  · rcases k2 with k2 | k2
                    · have e1 := u1' k1
                      have e2 := u2 k2
                      subst e1 e2
                      clear u1 u1' u2 u2'
                      go_wp2_with fail
                      go_round
                      case rel => exact ⟨j + 1, by omega, by go_num, by rw [HR1.out], by rw [HR2.out]⟩
                      case measure => simp [intOf]; omega
                    · have e1 := u1' k1
                      have e2 := u2' k2
                      subst e1 e2
                      clear u1 u1' u2 u2'
                      go_wp2_with fail
                      go_round
                      case rel => exact ⟨j + 1, by omega, by go_num, by rw [HR1.out], by rw [HR2.out]⟩
                      case measure => simp [intOf]; omega
                · have hje : j = x.cs.length := by omega
                  subst hje
                  rw [HLa.out, HLb.out]
                  have HBd := hideIt (below_drew' HBa.out)
                  have HPd := hideIt (HPa.out.below (below_drew' (Below.refl _ _)))
                  have HGd := hideIt (HGa.out.below (below_drew' (Below.refl _ _)))
                  clear HBa HPa HGa hSm hSb HLa HLb
                  generalize pathOf words x = PA at *
                  generalize sumM x.cs x.cs.length = SM at *
                  generalize sumB x.cs x.cs.length = SB at *
                  generalize lim Ct.cm x.cs = L1 at *
                  generalize lim Ct.cb x.cs = L2 at *
                  go_wp2_with fail
                  clear q0 q1 q2 q3
                  refine wp_region_held_drew (S := (fun w' => w'.cell? ⟨BX, 0, none⟩ = some (.string x.nm) ∧ w'.cell? ⟨BX, 1, none⟩ = some (.int .i64 x.pr) ∧ w'.cell? ⟨BX, 2, none⟩ = some (.slice da x.cs.length dc))) (by kernel_rfl) HPd.out.2 (fun hHeld => ?_)
                  refine wpAnyH_take (i := 0) (oi := { dst := some 97, op := Op.move (Operand.tmp 5), type := 96, pos := "ostler.go:157", after := #[], guard := none }) (v := ?v1x0) rfl (by kernel_rfl) (by kernel_rfl) (by kernel_rfl) (fun _ _ _ h => h) (Or.inl ⟨by rfl, ?h1x0⟩) (by assumption) ?r1x0
                  case h1x0 =>
                    intro w' hSw
                    (try dsimp only at hSw)
                    go_simp
                    first | done | with_reducible rfl | rfl
                  (try simp only [Act.put, List.setIfInBounds_toArray, List.set_cons_zero, List.set_cons_succ])
                  refine wpAnyH_take (i := 1) (oi := { dst := some 98, op := Op.load 60 (Operand.tmp 7), type := 60, pos := "ostler.go:157", after := #[], guard := none }) (v := ?v2x1) rfl (by kernel_rfl) (by kernel_rfl) (by kernel_rfl) (fun _ _ _ h => h) (Or.inl ⟨by rfl, ?h2x1⟩) (by assumption) ?r2x1
                  case h2x1 =>
                    intro w' hSw
                    (try dsimp only at hSw)
                    go_simp
                    first | done | with_reducible rfl | rfl
                  (try simp only [Act.put, List.setIfInBounds_toArray, List.set_cons_zero, List.set_cons_succ])
                  refine wpAnyH_take (i := 3) (oi := { dst := some 100, op := Op.load 60 (Operand.tmp 7), type := 60, pos := "ostler.go:157", after := #[], guard := none }) (v := ?v3x3) rfl (by kernel_rfl) (by kernel_rfl) (by kernel_rfl) (fun _ _ _ h => h) (Or.inl ⟨by rfl, ?h3x3⟩) (by assumption) ?r3x3
                  case h3x3 =>
                    intro w' hSw
                    (try dsimp only at hSw)
                    go_simp
                    first | done | with_reducible rfl | rfl
                  (try simp only [Act.put, List.setIfInBounds_toArray, List.set_cons_zero, List.set_cons_succ])
                  refine wpAnyH_take (i := 7) (oi := { dst := some 104, op := Op.move (Operand.tmp 8), type := 3, pos := "ostler.go:157", after := #[], guard := none }) (v := ?v4x7) rfl (by kernel_rfl) (by kernel_rfl) (by kernel_rfl) (fun _ _ _ h => h) (Or.inl ⟨by rfl, ?h4x7⟩) (by assumption) ?r4x7
                  case h4x7 =>
                    intro w' hSw
                    (try dsimp only at hSw)
                    go_simp
                    first | done | with_reducible rfl | rfl
                  (try simp only [Act.put, List.setIfInBounds_toArray, List.set_cons_zero, List.set_cons_succ])
                  refine wpAnyH_take (i := 9) (oi := { dst := some 106, op := Op.move (Operand.tmp 9), type := 3, pos := "ostler.go:157", after := #[], guard := none }) (v := ?v5x9) rfl (by kernel_rfl) (by kernel_rfl) (by kernel_rfl) (fun _ _ _ h => h) (Or.inl ⟨by rfl, ?h5x9⟩) (by assumption) ?r5x9
                  case h5x9 =>
                    intro w' hSw
                    (try dsimp only at hSw)
                    go_simp
                    first | done | with_reducible rfl | rfl
                  (try simp only [Act.put, List.setIfInBounds_toArray, List.set_cons_zero, List.set_cons_succ])
                  refine wpAnyH_ready (rs := [2]) (by kernel_rfl) (by simp) (AllReadyH.cons rfl (fun K hK => ?_) AllReadyH.nil)
                  go_simp
                  go_wp2_with fail
                  refine (HPT.out _ HBd.out).mono ?_
                  rintro e w5 ⟨rfl, hb5⟩
                  have HP5 := hideIt (HPd.out.below hb5)
                  have HG5 := hideIt (HGd.out.below hb5)
                  have HB5 := hideIt (HBd.out.trans (hb5.mono HBd.out.size))
                  clear hb5 HPd HGd HBd
                  go_wp2_with fail
                  refine hK.out _ _ HP5.out.2 (fun hHeld => ?_)
                  clear hK K
                  refine wpAnyH_ready (rs := [4]) (by kernel_rfl) (by simp) (AllReadyH.cons rfl (fun K hK => ?_) AllReadyH.nil)
                  go_simp
                  go_wp2_with fail
                  refine (HSU.out _ HB5.out).mono ?_
                  rintro e w6 ⟨rfl, hb6⟩
                  have HP6 := hideIt (HP5.out.below hb6)
                  have HG6 := hideIt (HG5.out.below hb6)
                  have HB6 := hideIt (HB5.out.trans (hb6.mono HB5.out.size))
                  clear hb6 HP5 HG5 HB5
                  go_wp2_with fail
                  refine hK.out _ _ HP6.out.2 (fun hHeld => ?_)
                  clear hK K
                  refine wpAnyH_take (i := 5) (oi := { dst := some 102, op := Op.field 89 (Operand.tmp 101) 0, type := 3, pos := "ostler.go:157", after := #[{ on := 4, ground := Ground.data }], guard := none }) (v := Value.int .i64 SM) rfl (by kernel_rfl) (by kernel_rfl) (by kernel_rfl) (fun _ _ _ h => h) (Or.inl ⟨by rfl, ?h6x5⟩) (by assumption) ?r6x5
                  case h6x5 =>
                    intro w' hSw
                    (try dsimp only at hSw)
                    go_simp
                    first | done | with_reducible rfl | rfl
                  (try simp only [Act.put, List.setIfInBounds_toArray, List.set_cons_zero, List.set_cons_succ])
                  refine wpAnyH_ready (rs := [6]) (by kernel_rfl) (by simp) (AllReadyH.cons rfl (fun K hK => ?_) AllReadyH.nil)
                  go_simp
                  go_wp2_with fail
                  refine (refShares_any SM _ hsi.1 (by omega)).mono ?_
                  rintro e wx ⟨rfl, rfl⟩
                  go_wp2_with fail
                  refine hK.out _ _ HP6.out.2 (fun hHeld => ?_)
                  clear hK K
                  refine wpAnyH_ready (rs := [8]) (by kernel_rfl) (by simp) (AllReadyH.cons rfl (fun K hK => ?_) AllReadyH.nil)
                  go_simp
                  go_wp2_with fail
                  refine (refQuota_any L1 _ hL0 (by omega)).mono ?_
                  rintro e wx ⟨rfl, rfl⟩
                  go_wp2_with fail
                  refine hK.out _ _ HP6.out.2 (fun hHeld => ?_)
                  clear hK K
                  refine wpAnyH_take (i := 10) (oi := { dst := some 107, op := Op.build 107 #[(0, Operand.tmp 99), (1, Operand.tmp 103), (2, Operand.tmp 105), (3, Operand.tmp 106)], type := 107, pos := "ostler.go:157", after := #[{ on := 2, ground := Ground.data }, { on := 6, ground := Ground.data }, { on := 8, ground := Ground.data }, { on := 9, ground := Ground.data }], guard := none }) (v := ?v7x10) rfl (by kernel_rfl) (by kernel_rfl) (by kernel_rfl) (fun _ _ _ h => h) (Or.inl ⟨by rfl, ?h7x10⟩) (by assumption) ?r7x10
                  case h7x10 =>
                    intro w' hSw
                    (try dsimp only at hSw)
                    go_simp
                    first | done | with_reducible rfl | rfl
                  (try simp only [Act.put, List.setIfInBounds_toArray, List.set_cons_zero, List.set_cons_succ])
                  have HP8 := hideIt (HP6.out.alloc (.cells #[.string PA, .int .i64 (shares SM), .int .i64 (quota L1), .int .i64 L2] 107))
                  have HG8 := hideIt (HG6.out.alloc (.cells #[.string PA, .int .i64 (shares SM), .int .i64 (quota L1), .int .i64 L2] 107))
                  have HB8 := hideIt (HB6.out.alloc HB6.out.size (.cells #[.string PA, .int .i64 (shares SM), .int .i64 (quota L1), .int .i64 L2] 107))
                  have HN8 := hideIt (new_group wx ⟨PA, shares SM, quota L1, L2⟩ 107)
                  refine wpAnyH_ready (rs := [11]) (by kernel_rfl) (by simp) (AllReadyH.cons rfl (fun K hK => ?_) AllReadyH.nil)
                  go_simp
                  go_wp2_with fail
                  refine hK.out _ _ HP8.out.2 (fun hHeld => ?_)
                  clear hK K
                  generalize hw8 : wx.alloc (.cells #[.string PA, .int .i64 (shares SM), .int .i64 (quota L1), .int .i64 L2] 107) = w8 at HP8 HG8 HB8 HN8
                  refine wpAnyH_ready (rs := [12]) (by kernel_rfl) (by simp) (AllReadyH.cons rfl (fun K hK => ?_) AllReadyH.nil)
                  rw [if_pos (by rfl)]
                  refine wp_append_lies (o := { dst := some 109, op := Op.call { callee := Callee.builtin Builtin.append, args := #[Operand.tmp 97, Operand.tmp 108], argTypes := #[96, 96] }, type := 96, pos := "ostler.go:157", after := #[{ on := 0, ground := Ground.data }, { on := 11, ground := Ground.data }, { on := 8, ground := Ground.chain }], guard := none }) _ _ _ 96 rfl w.heap.size 107 i0 (.agg #[.string ByteArray.empty, .int .i64 0, .int .i64 0, .int .i64 0]) 4 40 Try.underlying96 hi hz0 hz1 hz2 rfl (by decide) u5 _ _ rfl HG8.out ⟨_, 0, none⟩ 1 1 (gcells ⟨PA, shares SM, quota L1, L2⟩) rfl rfl HN8.out (gcells_one _) (by decide) (by have := HWL.out; unfold maxLen; omega) (by have := HWL.out; omega) HB8.out.size _ rfl ?_
                  intro g9 cap9 w9 hown' hgrow' hgl9 _
                  have hne : some BX ≠ u5.ownBlock := fun e => by have := (HGL.out _ e.symm).2; omega
                  have HP9 := hideIt (HP8.out.kept hgrow' hne)
                  have HG9 := hideIt (GRow.pushed hown')
                  have HB9 := hideIt (HB8.out.grown hgrow' HB8.out.size (fun j hj => (HGL.out j hj).1))
                  have HNE9 : Hid (∀ q9, (Value.slice (some ⟨g9, 0, none⟩) ((upTo words ps k).length + 1) cap9).ownBlock = some q9 → q9 ≠ BX) := hideIt (row_other (n := (upTo words ps k).length + 1) (c := cap9) hgl9 HP8.out.1 (fun k hk e => hne (by rw [hk, e])))
                  generalize hv9 : Value.slice (some ⟨g9, 0, none⟩) ((upTo words ps k).length + 1) cap9 = v' at *
                  refine hK.out _ _ HP9.out.2 (fun hHeld => ?_)
                  clear hK K
                  (try simp only [Act.put, List.setIfInBounds_toArray, List.set_cons_zero, List.set_cons_succ])
                  refine wpAnyH_take (i := 13) (oi := { dst := some 5, op := Op.assign (Operand.tmp 109), type := 96, pos := "ostler.go:157", after := #[{ on := 12, ground := Ground.data }, { on := 12, ground := Ground.chain }, { on := 0, ground := Ground.phase }, { on := 1, ground := Ground.phase }, { on := 2, ground := Ground.phase }, { on := 3, ground := Ground.phase }, { on := 4, ground := Ground.phase }, { on := 5, ground := Ground.phase }, { on := 6, ground := Ground.phase }, { on := 7, ground := Ground.phase }, { on := 8, ground := Ground.phase }, { on := 9, ground := Ground.phase }, { on := 10, ground := Ground.phase }, { on := 11, ground := Ground.phase }, { on := 12, ground := Ground.phase }], guard := none }) (v := ?v8x13) rfl (by kernel_rfl) (by kernel_rfl) (by kernel_rfl) (fun _ _ _ h => h) (Or.inl ⟨by rfl, ?h8x13⟩) (by assumption) ?r8x13
                  case h8x13 =>
                    intro w' hSw
                    (try dsimp only at hSw)
                    go_simp
                    first | done | with_reducible rfl | rfl
                  (try simp only [Act.put, List.setIfInBounds_toArray, List.set_cons_zero, List.set_cons_succ])
                  refine wpAnyH_done (by kernel_rfl) ?_ _
                  have hG10 : GRow w.heap.size w9 v' (within words ps k 0) := by rw [HW0.out, HPG.out]; exact HG9.out
                  have HG10 := hideIt hG10
                  clear HP6 HG6 HB6 HP8 HG8 HB8 HN8 hw8 hown' hgrow' HG9 hG10 HW0 HPG HGL HSU hL0 hL1 hsi hne
                  go_wp2_with fail
                  go_loopw [5, 12] (fun g i wq => ∃ j : Nat, j ≤ x.cs.length ∧ i = .int .i64 j ∧ Below w.heap.size w wq ∧ PBoxAt wq BX x (.slice da x.cs.length dc) ∧ Hid (∀ q9, g.ownBlock = some q9 → q9 ≠ BX) ∧ GRow w.heap.size wq g (within words ps k j)) (fun _ i _ => x.cs.length - (intOf i).toNat)
                  case atStart => exact ⟨0, by omega, rfl, HB9.out, HP9.out, HNE9, HG10.out⟩
                  case round =>
                    obtain ⟨j, hj2, rfl, hB2, hP2, HNB, hG2⟩ := hrel
                    clear HB9 HG10 HP9 HNE9
                    by_cases hjl : j < x.cs.length
                    · obtain ⟨_, _, hv, _, hr2⟩ := HC0.out.below hB2
                      cases hv
                      obtain ⟨b2, o2, dv, rfl, hin2⟩ := hr2 (by omega)
                      obtain ⟨d0, d1, d2, d3, d4, d5⟩ := hin2.at hjl
                      have hsl : ∃ a n e, dv j = .slice a n e := by
                        obtain ⟨a, e, he, _⟩ := (hin2.2 j hjl).2
                        exact ⟨a, _, e, he⟩
                      obtain ⟨ea, en, ec, hd2⟩ := hsl
                      rw [hd2] at d5
                      obtain ⟨⟨y1, y2⟩, _, ⟨y3, y4⟩, _⟩ := HMi.out.2 j hjl
                      have hyn := HCN.out j hjl
                      have HS2 := hideIt (HWS.out j hjl)
                      have HG3 := hideIt (HCG.out j)
                      have HL2 := hideIt (HWN.out j (by omega))
                      have hbx := (Below.refl wr.heap.size wr).alloc (Nat.le_refl _) (.cells #[.string (ct x.cs j).nm, .int .i64 (ct x.cs j).am, .int .i64 (ct x.cs j).ab, .int .i64 (ct x.cs j).cm, .int .i64 (ct x.cs j).cb, .slice ea en ec] 94)
                      have hbd := below_drew' hbx
                      have HBd := hideIt (hB2.trans (hbd.mono hB2.size))
                      have HGd := hideIt (hG2.below hbd)
                      have HPd := hideIt (hP2.below hbd)
                      have HXd := hideIt ((BoxAt.made wr (ct x.cs j) (.slice ea en ec)).below (below_drew' (Below.refl _ _)))
                      have HGL2 := hideIt hG2.lt
                      have HPL := hideIt hP2.1
                      obtain ⟨q0, q1, q2, q3⟩ := hP2
                      clear hin2 hr2 hd2 hB2 hG2 HWS HCG HWN HCN hbx hbd
                      generalize ct x.cs j = y at *
                      have hs1 : ¬ 9223372036854775807 < PA.size + 1 := by omega
                      have hs2 : ¬ 9223372036854775807 < PA.size + 1 + y.nm.size := by omega
                      have hs3 : ¬ 9223372036854775807 < (PA ++ ⟨#[47]⟩ : ByteArray).size + y.nm.size := by rw [ByteArray.size_append]; show ¬ 9223372036854775807 < PA.size + 1 + y.nm.size; omega
                      go_wp2_with fail
                      generalize wr.heap.size = BY at *
                      refine wp_region_held_drew (S := (fun w' => (w'.cell? ⟨BX, 0, none⟩ = some (.string x.nm) ∧ w'.cell? ⟨BX, 1, none⟩ = some (.int .i64 x.pr) ∧ w'.cell? ⟨BX, 2, none⟩ = some (.slice (some ⟨b2, o2, none⟩) x.cs.length dc)) ∧ w'.cell? ⟨BY, 0, none⟩ = some (.string y.nm) ∧ w'.cell? ⟨BY, 1, none⟩ = some (.int .i64 y.am) ∧ w'.cell? ⟨BY, 2, none⟩ = some (.int .i64 y.ab) ∧ w'.cell? ⟨BY, 3, none⟩ = some (.int .i64 y.cm) ∧ w'.cell? ⟨BY, 4, none⟩ = some (.int .i64 y.cb) ∧ w'.cell? ⟨BY, 5, none⟩ = some (.slice ea en ec))) (by kernel_rfl) ⟨HPd.out.2, HXd.out.2⟩ (fun hHeld => ?_)
                      refine wpAnyH_take (i := 0) (oi := { dst := some 122, op := Op.move (Operand.tmp 5), type := 96, pos := "ostler.go:160", after := #[], guard := none }) (v := ?v9x0) rfl (by kernel_rfl) (by kernel_rfl) (by kernel_rfl) (fun _ _ _ h => h) (Or.inl ⟨by rfl, ?h9x0⟩) (by assumption) ?r9x0
                      case h9x0 =>
                        intro w' hSw
                        (try dsimp only at hSw)
                        go_simp
                        first | done | with_reducible rfl | rfl
                      (try simp only [Act.put, List.setIfInBounds_toArray, List.set_cons_zero, List.set_cons_succ])
                      refine wpAnyH_take (i := 1) (oi := { dst := some 123, op := Op.load 60 (Operand.tmp 7), type := 60, pos := "ostler.go:160", after := #[], guard := none }) (v := ?v10x1) rfl (by kernel_rfl) (by kernel_rfl) (by kernel_rfl) (fun _ _ _ h => h) (Or.inl ⟨by rfl, ?h10x1⟩) (by assumption) ?r10x1
                      case h10x1 =>
                        intro w' hSw
                        (try dsimp only at hSw)
                        go_simp
                        first | done | with_reducible rfl | rfl
                      (try simp only [Act.put, List.setIfInBounds_toArray, List.set_cons_zero, List.set_cons_succ])
                      refine wpAnyH_take (i := 4) (oi := { dst := some 126, op := Op.fieldAddr 94 (Operand.tmp 13) 0, type := 0, pos := "ostler.go:160", after := #[], guard := none }) (v := ?v11x4) rfl (by kernel_rfl) (by kernel_rfl) (by kernel_rfl) (fun _ _ _ h => h) (Or.inl ⟨by rfl, ?h11x4⟩) (by assumption) ?r11x4
                      case h11x4 =>
                        intro w' hSw
                        (try dsimp only at hSw)
                        go_simp
                        first | done | with_reducible rfl | rfl
                      (try simp only [Act.put, List.setIfInBounds_toArray, List.set_cons_zero, List.set_cons_succ])
                      refine wpAnyH_take (i := 5) (oi := { dst := some 127, op := Op.load 9 (Operand.tmp 126), type := 9, pos := "ostler.go:160", after := #[{ on := 4, ground := Ground.data }], guard := none }) (v := ?v12x5) rfl (by kernel_rfl) (by kernel_rfl) (by kernel_rfl) (fun _ _ _ h => h) (Or.inl ⟨by rfl, ?h12x5⟩) (by assumption) ?r12x5
                      case h12x5 =>
                        intro w' hSw
                        (try dsimp only at hSw)
                        go_simp
                        first | done | with_reducible rfl | rfl
                      (try simp only [Act.put, List.setIfInBounds_toArray, List.set_cons_zero, List.set_cons_succ])
                      refine wpAnyH_take (i := 7) (oi := { dst := some 129, op := Op.fieldAddr 94 (Operand.tmp 13) 1, type := 0, pos := "ostler.go:160", after := #[], guard := none }) (v := ?v13x7) rfl (by kernel_rfl) (by kernel_rfl) (by kernel_rfl) (fun _ _ _ h => h) (Or.inl ⟨by rfl, ?h13x7⟩) (by assumption) ?r13x7
                      case h13x7 =>
                        intro w' hSw
                        (try dsimp only at hSw)
                        go_simp
                        first | done | with_reducible rfl | rfl
                      (try simp only [Act.put, List.setIfInBounds_toArray, List.set_cons_zero, List.set_cons_succ])
                      refine wpAnyH_take (i := 8) (oi := { dst := some 130, op := Op.fieldAddr 89 (Operand.tmp 129) 0, type := 0, pos := "ostler.go:160", after := #[{ on := 7, ground := Ground.data }], guard := none }) (v := ?v14x8) rfl (by kernel_rfl) (by kernel_rfl) (by kernel_rfl) (fun _ _ _ h => h) (Or.inl ⟨by rfl, ?h14x8⟩) (by assumption) ?r14x8
                      case h14x8 =>
                        intro w' hSw
                        (try dsimp only at hSw)
                        go_simp
                        first | done | with_reducible rfl | rfl
                      (try simp only [Act.put, List.setIfInBounds_toArray, List.set_cons_zero, List.set_cons_succ])
                      refine wpAnyH_take (i := 9) (oi := { dst := some 131, op := Op.load 3 (Operand.tmp 130), type := 3, pos := "ostler.go:160", after := #[{ on := 8, ground := Ground.data }], guard := none }) (v := ?v15x9) rfl (by kernel_rfl) (by kernel_rfl) (by kernel_rfl) (fun _ _ _ h => h) (Or.inl ⟨by rfl, ?h15x9⟩) (by assumption) ?r15x9
                      case h15x9 =>
                        intro w' hSw
                        (try dsimp only at hSw)
                        go_simp
                        first | done | with_reducible rfl | rfl
                      (try simp only [Act.put, List.setIfInBounds_toArray, List.set_cons_zero, List.set_cons_succ])
                      refine wpAnyH_take (i := 11) (oi := { dst := some 133, op := Op.fieldAddr 94 (Operand.tmp 13) 2, type := 0, pos := "ostler.go:160", after := #[], guard := none }) (v := ?v16x11) rfl (by kernel_rfl) (by kernel_rfl) (by kernel_rfl) (fun _ _ _ h => h) (Or.inl ⟨by rfl, ?h16x11⟩) (by assumption) ?r16x11
                      case h16x11 =>
                        intro w' hSw
                        (try dsimp only at hSw)
                        go_simp
                        first | done | with_reducible rfl | rfl
                      (try simp only [Act.put, List.setIfInBounds_toArray, List.set_cons_zero, List.set_cons_succ])
                      refine wpAnyH_take (i := 12) (oi := { dst := some 134, op := Op.fieldAddr 89 (Operand.tmp 133) 0, type := 0, pos := "ostler.go:160", after := #[{ on := 11, ground := Ground.data }], guard := none }) (v := ?v17x12) rfl (by kernel_rfl) (by kernel_rfl) (by kernel_rfl) (fun _ _ _ h => h) (Or.inl ⟨by rfl, ?h17x12⟩) (by assumption) ?r17x12
                      case h17x12 =>
                        intro w' hSw
                        (try dsimp only at hSw)
                        go_simp
                        first | done | with_reducible rfl | rfl
                      (try simp only [Act.put, List.setIfInBounds_toArray, List.set_cons_zero, List.set_cons_succ])
                      refine wpAnyH_take (i := 13) (oi := { dst := some 135, op := Op.load 3 (Operand.tmp 134), type := 3, pos := "ostler.go:160", after := #[{ on := 12, ground := Ground.data }], guard := none }) (v := ?v18x13) rfl (by kernel_rfl) (by kernel_rfl) (by kernel_rfl) (fun _ _ _ h => h) (Or.inl ⟨by rfl, ?h18x13⟩) (by assumption) ?r18x13
                      case h18x13 =>
                        intro w' hSw
                        (try dsimp only at hSw)
                        go_simp
                        first | done | with_reducible rfl | rfl
                      (try simp only [Act.put, List.setIfInBounds_toArray, List.set_cons_zero, List.set_cons_succ])
                      refine wpAnyH_take (i := 15) (oi := { dst := some 137, op := Op.fieldAddr 94 (Operand.tmp 13) 2, type := 0, pos := "ostler.go:160", after := #[], guard := none }) (v := ?v19x15) rfl (by kernel_rfl) (by kernel_rfl) (by kernel_rfl) (fun _ _ _ h => h) (Or.inl ⟨by rfl, ?h19x15⟩) (by assumption) ?r19x15
                      case h19x15 =>
                        intro w' hSw
                        (try dsimp only at hSw)
                        go_simp
                        first | done | with_reducible rfl | rfl
                      (try simp only [Act.put, List.setIfInBounds_toArray, List.set_cons_zero, List.set_cons_succ])
                      refine wpAnyH_take (i := 16) (oi := { dst := some 138, op := Op.fieldAddr 89 (Operand.tmp 137) 1, type := 0, pos := "ostler.go:160", after := #[{ on := 15, ground := Ground.data }], guard := none }) (v := ?v20x16) rfl (by kernel_rfl) (by kernel_rfl) (by kernel_rfl) (fun _ _ _ h => h) (Or.inl ⟨by rfl, ?h20x16⟩) (by assumption) ?r20x16
                      case h20x16 =>
                        intro w' hSw
                        (try dsimp only at hSw)
                        go_simp
                        first | done | with_reducible rfl | rfl
                      (try simp only [Act.put, List.setIfInBounds_toArray, List.set_cons_zero, List.set_cons_succ])
                      refine wpAnyH_take (i := 17) (oi := { dst := some 139, op := Op.load 3 (Operand.tmp 138), type := 3, pos := "ostler.go:160", after := #[{ on := 16, ground := Ground.data }], guard := none }) (v := ?v21x17) rfl (by kernel_rfl) (by kernel_rfl) (by kernel_rfl) (fun _ _ _ h => h) (Or.inl ⟨by rfl, ?h21x17⟩) (by assumption) ?r21x17
                      case h21x17 =>
                        intro w' hSw
                        (try dsimp only at hSw)
                        go_simp
                        first | done | with_reducible rfl | rfl
                      (try simp only [Act.put, List.setIfInBounds_toArray, List.set_cons_zero, List.set_cons_succ])
                      refine wpAnyH_ready (rs := [2]) (by kernel_rfl) (by simp) (AllReadyH.cons rfl (fun K hK => ?_) AllReadyH.nil)
                      go_simp
                      go_wp2_with fail
                      refine (HPT.out _ HBd.out).mono ?_
                      rintro e w5 ⟨rfl, hb5⟩
                      have HP5 := hideIt (HPd.out.below hb5)
                      have HX5 := hideIt (HXd.out.below hb5)
                      have HG5 := hideIt (HGd.out.below hb5)
                      have HB5 := hideIt (HBd.out.trans (hb5.mono HBd.out.size))
                      clear hb5 HPd HXd HGd HBd
                      go_wp2_with fail
                      refine hK.out _ _ ⟨HP5.out.2, HX5.out.2⟩ (fun hHeld => ?_)
                      clear hK K
                      refine wpAnyH_take (i := 3) (oi := { dst := some 125, op := Op.binOp BinOp.add 9 (Operand.tmp 124) (Operand.const (Value.string { data := #[47] })) 9, type := 9, pos := "ostler.go:160", after := #[{ on := 2, ground := Ground.data }], guard := none }) (v := ?v22x3) rfl (by kernel_rfl) (by kernel_rfl) (by kernel_rfl) (fun _ _ _ h => h) (Or.inl ⟨by rfl, ?h22x3⟩) (by assumption) ?r22x3
                      case h22x3 =>
                        intro w' hSw
                        (try dsimp only at hSw)
                        go_simp
                        first | done | with_reducible rfl | rfl
                      (try simp only [Act.put, List.setIfInBounds_toArray, List.set_cons_zero, List.set_cons_succ])
                      refine wpAnyH_take (i := 6) (oi := { dst := some 128, op := Op.binOp BinOp.add 9 (Operand.tmp 125) (Operand.tmp 127) 9, type := 9, pos := "ostler.go:160", after := #[{ on := 3, ground := Ground.data }, { on := 5, ground := Ground.data }], guard := none }) (v := ?v23x6) rfl (by kernel_rfl) (by kernel_rfl) (by kernel_rfl) (fun _ _ _ h => h) (Or.inl ⟨by rfl, ?h23x6⟩) (by assumption) ?r23x6
                      case h23x6 =>
                        intro w' hSw
                        (try dsimp only at hSw)
                        go_simp
                        first | done | with_reducible rfl | rfl
                      (try simp only [Act.put, List.setIfInBounds_toArray, List.set_cons_zero, List.set_cons_succ])
                      refine wpAnyH_ready (rs := [10]) (by kernel_rfl) (by simp) (AllReadyH.cons rfl (fun K hK => ?_) AllReadyH.nil)
                      go_simp
                      go_wp2_with fail
                      refine (refShares_any y.am _ y1 (by omega)).mono ?_
                      rintro e wx ⟨rfl, rfl⟩
                      go_wp2_with fail
                      refine hK.out _ _ ⟨HP5.out.2, HX5.out.2⟩ (fun hHeld => ?_)
                      clear hK K
                      refine wpAnyH_ready (rs := [14]) (by kernel_rfl) (by simp) (AllReadyH.cons rfl (fun K hK => ?_) AllReadyH.nil)
                      go_simp
                      go_wp2_with fail
                      refine (refQuota_any y.cm _ y3 (by omega)).mono ?_
                      rintro e wx ⟨rfl, rfl⟩
                      go_wp2_with fail
                      refine hK.out _ _ ⟨HP5.out.2, HX5.out.2⟩ (fun hHeld => ?_)
                      clear hK K
                      refine wpAnyH_take (i := 18) (oi := { dst := some 140, op := Op.build 107 #[(0, Operand.tmp 128), (1, Operand.tmp 132), (2, Operand.tmp 136), (3, Operand.tmp 139)], type := 107, pos := "ostler.go:160", after := #[{ on := 6, ground := Ground.data }, { on := 10, ground := Ground.data }, { on := 14, ground := Ground.data }, { on := 17, ground := Ground.data }], guard := none }) (v := ?v24x18) rfl (by kernel_rfl) (by kernel_rfl) (by kernel_rfl) (fun _ _ _ h => h) (Or.inl ⟨by rfl, ?h24x18⟩) (by assumption) ?r24x18
                      case h24x18 =>
                        intro w' hSw
                        (try dsimp only at hSw)
                        go_simp
                        first | done | with_reducible rfl | rfl
                      (try simp only [Act.put, List.setIfInBounds_toArray, List.set_cons_zero, List.set_cons_succ])
                      have HP8 := hideIt (HP5.out.alloc (.cells #[.string (PA ++ ⟨#[47]⟩ ++ y.nm), .int .i64 (shares y.am), .int .i64 (quota y.cm), .int .i64 y.cb] 107))
                      have HX8 := hideIt (HX5.out.below ((Below.refl _ wx).alloc (Nat.le_refl _) (.cells #[.string (PA ++ ⟨#[47]⟩ ++ y.nm), .int .i64 (shares y.am), .int .i64 (quota y.cm), .int .i64 y.cb] 107)))
                      have HG8 := hideIt (HG5.out.alloc (.cells #[.string (PA ++ ⟨#[47]⟩ ++ y.nm), .int .i64 (shares y.am), .int .i64 (quota y.cm), .int .i64 y.cb] 107))
                      have HB8 := hideIt (HB5.out.alloc HB5.out.size (.cells #[.string (PA ++ ⟨#[47]⟩ ++ y.nm), .int .i64 (shares y.am), .int .i64 (quota y.cm), .int .i64 y.cb] 107))
                      have HN8 := hideIt (new_group wx ⟨PA ++ ⟨#[47]⟩ ++ y.nm, shares y.am, quota y.cm, y.cb⟩ 107)
                      have HSZ := hideIt (show BX ≤ (wx.alloc (.cells #[.string (PA ++ ⟨#[47]⟩ ++ y.nm), .int .i64 (shares y.am), .int .i64 (quota y.cm), .int .i64 y.cb] 107)).heap.size from Nat.le_of_lt HP8.out.1)
                      refine wpAnyH_ready (rs := [19]) (by kernel_rfl) (by simp) (AllReadyH.cons rfl (fun K hK => ?_) AllReadyH.nil)
                      go_simp
                      go_wp2_with fail
                      refine hK.out _ _ ⟨HP8.out.2, HX8.out.2⟩ (fun hHeld => ?_)
                      clear hK K
                      generalize hw8 : wx.alloc (.cells #[.string (PA ++ ⟨#[47]⟩ ++ y.nm), .int .i64 (shares y.am), .int .i64 (quota y.cm), .int .i64 y.cb] 107) = w8 at HP8 HX8 HG8 HB8 HN8 HSZ
                      refine wpAnyH_ready (rs := [20]) (by kernel_rfl) (by simp) (AllReadyH.cons rfl (fun K hK => ?_) AllReadyH.nil)
                      rw [if_pos (by rfl)]
                      refine wp_append_lies (o := { dst := some 142, op := Op.call { callee := Callee.builtin Builtin.append, args := #[Operand.tmp 122, Operand.tmp 141], argTypes := #[96, 96] }, type := 96, pos := "ostler.go:160", after := #[{ on := 0, ground := Ground.data }, { on := 19, ground := Ground.data }, { on := 14, ground := Ground.chain }], guard := none }) _ _ _ 96 rfl w.heap.size 107 i0 (.agg #[.string ByteArray.empty, .int .i64 0, .int .i64 0, .int .i64 0]) 4 40 Try.underlying96 hi hz0 hz1 hz2 rfl (by decide) u5 _ _ rfl HG8.out ⟨_, 0, none⟩ 1 1 (gcells ⟨PA ++ ⟨#[47]⟩ ++ y.nm, shares y.am, quota y.cm, y.cb⟩) rfl rfl HN8.out (gcells_one _) (by decide) (by have := HWL.out; have := HL2.out; unfold maxLen; omega) (by have := HWL.out; have := HL2.out; omega) HB8.out.size _ rfl ?_
                      intro g9 cap9 w9 hown' hgrow' hgl9 _
                      have hne : some BX ≠ u5.ownBlock := fun e => HNB.out _ e.symm rfl
                      have hneY : some BY ≠ u5.ownBlock := fun e => by have := (HGL2.out _ e.symm).2; omega
                      have HP9 := hideIt (HP8.out.kept hgrow' hne)
                      have HX9 := hideIt (HX8.out.kept hgrow' hneY)
                      have HG9 := hideIt (GRow.pushed hown')
                      have HB9 := hideIt (HB8.out.grown hgrow' HB8.out.size (fun j hj => (HGL2.out j hj).1))
                      have HNE9 : Hid (∀ q9, (Value.slice (some ⟨g9, 0, none⟩) ((within words ps k j).length + 1) cap9).ownBlock = some q9 → q9 ≠ BX) := hideIt (row_other (n := (within words ps k j).length + 1) (c := cap9) hgl9 HP8.out.1 HNB.out)
                      generalize hv9 : Value.slice (some ⟨g9, 0, none⟩) ((within words ps k j).length + 1) cap9 = v' at *
                      refine hK.out _ _ ⟨HP9.out.2, HX9.out.2⟩ (fun hHeld => ?_)
                      clear hK K
                      (try simp only [Act.put, List.setIfInBounds_toArray, List.set_cons_zero, List.set_cons_succ])
                      refine wpAnyH_take (i := 21) (oi := { dst := some 5, op := Op.assign (Operand.tmp 142), type := 96, pos := "ostler.go:160", after := #[{ on := 20, ground := Ground.data }, { on := 20, ground := Ground.chain }, { on := 0, ground := Ground.phase }, { on := 1, ground := Ground.phase }, { on := 2, ground := Ground.phase }, { on := 3, ground := Ground.phase }, { on := 4, ground := Ground.phase }, { on := 5, ground := Ground.phase }, { on := 6, ground := Ground.phase }, { on := 7, ground := Ground.phase }, { on := 8, ground := Ground.phase }, { on := 9, ground := Ground.phase }, { on := 10, ground := Ground.phase }, { on := 11, ground := Ground.phase }, { on := 12, ground := Ground.phase }, { on := 13, ground := Ground.phase }, { on := 14, ground := Ground.phase }, { on := 15, ground := Ground.phase }, { on := 16, ground := Ground.phase }, { on := 17, ground := Ground.phase }, { on := 18, ground := Ground.phase }, { on := 19, ground := Ground.phase }, { on := 20, ground := Ground.phase }], guard := none }) (v := ?v25x21) rfl (by kernel_rfl) (by kernel_rfl) (by kernel_rfl) (fun _ _ _ h => h) (Or.inl ⟨by rfl, ?h25x21⟩) (by assumption) ?r25x21
                      case h25x21 =>
                        intro w' hSw
                        (try dsimp only at hSw)
                        go_simp
                        first | done | with_reducible rfl | rfl
                      (try simp only [Act.put, List.setIfInBounds_toArray, List.set_cons_zero, List.set_cons_succ])
                      refine wpAnyH_done (by kernel_rfl) ?_ _
                      clear HP8 HX8 HG8 HB8 HN8 HSZ hw8 hown' hgrow' HP5 HX5 HG5 HB5 hne hneY hHeld
                      go_wp2_with fail
                      go_roundw
                      case rel => exact ⟨j + 1, by omega, by go_num, HB9.out, HP9.out, HNE9, by rw [HS2.out, HG3.out]; exact HG9.out⟩
                      case measure => simp [intOf]; omega
                    · have hje : j = x.cs.length := by omega
                      have HB3 := hideIt hB2
                      have HG3 := hideIt hG2
                      obtain ⟨q0, q1, q2, q3⟩ := hP2
                      clear hB2 hG2
                      subst hje
                      go_wp2_with fail
                      go_roundw
                      case rel => exact ⟨k + 1, by omega, by go_num, HB3.out, by rw [← HWA.out]; exact HG3.out⟩
                      case measure => simp [intOf]; omega
        · have hke : k = ps.length := by omega
          subst hke
          have HB1 := hideIt hB
          clear hB
          go_wp2_with fail
          go_ret
          exact ⟨⟨_, rfl, hG⟩, HB1.out⟩
end Go.Proofs.Ythekalhceamcoaa
