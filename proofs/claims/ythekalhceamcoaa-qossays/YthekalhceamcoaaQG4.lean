/- Groups of pods: the contract of qos.Groups. -/
import Derived.Test.YthekalhceamcoaaQG3
import Derived.Laws.AppendOwn
namespace Go.Proofs.Ythekalhceamcoaa
open Go.RowKit
open Qos (Nd Ct Pd nd0 ct0 pd0 nd ct pd classOf sumM sumB Mild shares quota lim Words pathOf sumTo Gp gp0 gp podG contG podGs midOf middle heads upTo groups within)
/-- The four cells of a group. -/
def gcells (g : Gp) : List Value := [.string g.path, .int .i64 g.sh, .int .i64 g.qu, .int .i64 g.by']
def gsV (l : List Gp) : List Value := l.flatMap gcells
theorem gsV_len (l : List Gp) : (gsV l).length = l.length * 4 := by
  induction l with
  | nil => rfl
  | cons g l ih => rw [gsV, List.flatMap_cons, List.length_append, ← gsV, ih]; simp [gcells]; omega
theorem gsV_snoc (l : List Gp) (g : Gp) : gsV (l ++ [g]) = gsV l ++ gcells g := by simp [gsV]
theorem gcells_one (g : Gp) : ∀ u ∈ gcells g, u.oneCell' = true := by
  intro u hu
  simp [gcells] at hu
  rcases hu with rfl | rfl | rfl | rfl <;> rfl
/-- A row of groups of its own. -/
def GRow (base : Nat) (w : World) (v : Value) (l : List Gp) : Prop := w.ownsRow base 107 4 v l.length (gsV l)
theorem GRow.alloc {base : Nat} {w : World} {v : Value} {l : List Gp} (h : GRow base w v l) (o : Obj) : GRow base (w.alloc o) v l := World.ownsRow.alloc h o
theorem GRow.below {base : Nat} {w w' : World} {v : Value} {l : List Gp} (h : GRow base w v l) (hb : Below w.heap.size w w') : GRow base w' v l :=
  World.ownsRow.kept (row := none) h ⟨hb.os, hb.tape, hb.output, hb.size, fun j hj _ => hb.block j hj⟩ (by cases hv : v.ownBlock <;> simp)
theorem GRow.pushed {base : Nat} {w' : World} {v : Value} {l : List Gp} {g : Gp} (h : w'.ownsRow base 107 4 v (l.length + 1) (gsV l ++ gcells g)) : GRow base w' v (l ++ [g]) := by
  unfold GRow
  rw [gsV_snoc, List.length_append]
  exact h
theorem new_group (w : World) (g : Gp) (t : TypeId) : ∀ j u, (gcells g)[j]? = some u → (w.alloc (.cells #[.string g.path, .int .i64 g.sh, .int .i64 g.qu, .int .i64 g.by'] t)).cell? ((⟨w.heap.size, 0, none⟩ : Addr).add j) = some u := by
  intro j u hu
  rw [Addr.add_lit, Nat.zero_add]
  match j, hu with
  | 0, hu => simp [gcells] at hu; subst hu; simp
  | 1, hu => simp [gcells] at hu; subst hu; simp
  | 2, hu => simp [gcells] at hu; subst hu; simp
  | 3, hu => simp [gcells] at hu; subst hu; simp
  | j + 4, hu => simp [gcells] at hu
theorem infoGroup : (Try.prog.info? 107).map (fun i => (i.zero, i.size, i.bytes)) = some (some (.agg #[.string ByteArray.empty, .int .i64 0, .int .i64 0, .int .i64 0]), 4, 40) := by kernel_rfl
theorem infoQ_parts {p : Program} {t : TypeId} {z : Option Value} {a b : Nat} (h : (p.info? t).map (fun i => (i.zero, i.size, i.bytes)) = some (z, a, b)) : ∃ i, p.info? t = some i ∧ i.zero = z ∧ i.size = a ∧ i.bytes = b := by
  obtain ⟨i, h1, h2⟩ := Option.map_eq_some_iff.1 h
  cases h2
  exact ⟨i, h1, rfl, rfl, rfl⟩
/-- Pods for which groups can be. -/
def Fit (ps : List Pd) : Prop := ps.length ≤ 16 ∧ ∀ k, k < ps.length → Mild (pd ps k).cs ∧ (pd ps k).nm.size ≤ 8 ∧ ∀ j, j < (pd ps k).cs.length → (ct (pd ps k).cs j).nm.size ≤ 8
theorem mid_in {ps : List Pd} (h : Fit ps) {k : Nat} (hk : k ≤ ps.length) : 0 ≤ middle ps k ∧ middle ps k ≤ 48000000 := by
  have hp : ∀ j, j < k → 0 ≤ midOf (pd ps j) ∧ midOf (pd ps j) ≤ 3000000 := fun j hj => by
    have := Qos.sumM_in (h.2 j (by omega)).1 (Nat.le_refl _)
    unfold midOf
    split <;> omega
  have h1 := Qos.sumTo_nonneg (f := fun j => midOf (pd ps j)) (n := k) (fun j hj => (hp j hj).1)
  have h2 := Qos.sumTo_most (f := fun j => midOf (pd ps j)) (n := k) (B := 3000000) (fun j hj => (hp j hj).2)
  have := h.1
  unfold middle
  omega
theorem PodsIn.at {w : World} {b o : Nat} {ps : List Pd} {cv : Nat → Value} (h : PodsIn w b o ps cv) {k : Nat} (hk : k < ps.length) :
    w.cell? ⟨b, o + k * 3, none⟩ = some (.string (pd ps k).nm) ∧ w.cell? ⟨b, o + k * 3 + 1, none⟩ = some (.int .i64 (pd ps k).pr) ∧ w.cell? ⟨b, o + k * 3 + 2, none⟩ = some (cv k) ∧ ConsAt w (cv k) (pd ps k).cs := ⟨(h.2 k hk).1.1, (h.2 k hk).1.2.1, (h.2 k hk).1.2.2, (h.2 k hk).2⟩
theorem path_size (p : Pd) (h : p.nm.size ≤ 8) : (pathOf words p).size ≤ 13 := by
  unfold pathOf
  split
  · rw [ByteArray.size_append]; show 5 + _ ≤ _; omega
  split
  · rw [ByteArray.size_append]; show 5 + _ ≤ _; omega
  · rw [ByteArray.size_append]; show 1 + _ ≤ _; omega
theorem two_groups (w : World) (base : Nat) (a b : Gp) (hb : base ≤ w.heap.size) : GRow base (w.alloc (.cells #[.string a.path, .int .i64 a.sh, .int .i64 a.qu, .int .i64 a.by', .string b.path, .int .i64 b.sh, .int .i64 b.qu, .int .i64 b.by'] 107)) (.slice (some ⟨w.heap.size, 0, none⟩) 2 2) [a, b] := by
  refine ⟨rfl, .inr ⟨w.heap.size, 2, _, rfl, hb, heap_alloc_new w _, by simp, by unfold maxLen; omega, rfl, rfl⟩⟩
theorem lim_most {cs : List Ct} (h : Mild cs) : lim Ct.cm cs ≤ 3000000 := by
  unfold lim
  split
  · have := Qos.sumTo_most (f := fun k => (ct cs k).cm) (n := cs.length) (B := 1000000) (fun k hk => (h.2 k hk).2.2.1.2)
    have := h.1
    omega
  · omega
theorem GRow.lt {base : Nat} {w : World} {v : Value} {l : List Gp} (h : GRow base w v l) : ∀ k, v.ownBlock = some k → base ≤ k ∧ k < w.heap.size := World.ownsRow.lt h
set_option maxRecDepth 100000 in
set_option maxHeartbeats 8000000 in
theorem groups_any (v : Value) (ps : List Pd) (w : World) (h : PodsAt w v ps) (hf : Fit ps) : Calls Try.prog 58 #[v] w fun e w' => (∃ v', e = .returned v' ∧ GRow w.heap.size w' v' (groups words ps)) ∧ Below w.heap.size w w' := by
  obtain ⟨i0, hi, hz0, hz1, hz2⟩ := infoQ_parts infoGroup
  obtain ⟨ao, c, rfl, hm, hr⟩ := h
  have HR := hideIt hr
  clear hr hm
  have HF := hideIt hf
  have hl16 := hf.1
  clear hf
  go_enter Try.func58, Try.ntmps58
  go_wp2_with fail
  go_loopw [3, 14] (fun m i wr => ∃ k : Nat, k ≤ ps.length ∧ i = .int .i64 k ∧ m = .int .i64 (middle ps k) ∧ Below w.heap.size w wr) (fun _ i _ => ps.length - (intOf i).toNat)
  case atStart => exact ⟨0, by omega, rfl, rfl, Below.refl _ _⟩
  case round =>
    obtain ⟨k, hk, rfl, rfl, hB⟩ := hrel
    by_cases hlt : k < ps.length
    · obtain ⟨b, o, cv, rfl, hin⟩ := HR.out (by omega)
      have hin := hin.below hB
      obtain ⟨c0, c1, c2, hcn⟩ := hin.at hlt
      have hba := (Below.refl wr.heap.size wr).alloc (Nat.le_refl _) (.cells #[.string (pd ps k).nm, .int .i64 (pd ps k).pr, cv k] 60)
      have HPa := hideIt (PBoxAt.made wr (pd ps k) (cv k))
      have HBa := hideIt (hB.trans (hba.mono hB.size))
      have HCL := hideIt (class_any (pd ps k) (cv k) _ (hcn.below hba))
      have HSU := hideIt (fun W (hb : Below wr.heap.size wr W) => sum_any (pd ps k) (cv k) W (hcn.below hb) (HF.out.2 k hlt).1)
      have HBA := hideIt hba
      have hmi := mid_in HF.out hk
      have hsi := Qos.sumM_in (HF.out.2 k hlt).1 (Nat.le_refl _)
      have HST : Hid (middle ps (k + 1) = middle ps k + if classOf (pd ps k).cs = 2 then sumM (pd ps k).cs (pd ps k).cs.length else 0) := rfl
      have hsl := hcn.slice
      unfold podV at HCL HSU
      clear hin hcn hba hB
      generalize middle ps k = M at *
      generalize classOf (pd ps k).cs = K at *
      generalize sumM (pd ps k).cs (pd ps k).cs.length = SM at *
      generalize sumB (pd ps k).cs (pd ps k).cs.length = SB at *
      generalize pd ps k = x at *
      generalize cv k = d at *
      obtain ⟨da, dn, dc, rfl⟩ := hsl
      have HW : wrap64 (M + SM) = M + SM := by unfold wrap64; omega
      by_cases hK : K = 2
      · subst hK
        have HST' := hideIt (HST.out.trans (by rw [if_pos rfl]))
        clear HST
        go_wp2_with fail
        refine HCL.out.mono ?_
        rintro e w1 ⟨rfl, hb1⟩
        obtain ⟨q0, q1, q2, q3⟩ := HPa.out.below hb1
        have HBb := hideIt (HBA.out.trans (hb1.mono HBA.out.size))
        have HB1 := hideIt (HBa.out.trans (hb1.mono HBa.out.size))
        clear hb1 HPa HBA HBa
        go_wp2_with fail
        refine (HSU.out _ HBb.out).mono ?_
        rintro e w2 ⟨rfl, hb2⟩
        have HB2 := hideIt (HB1.out.trans (hb2.mono HB1.out.size))
        clear hb2 HB1
        go_wp2_with fail
        show (_ : Act → World → Prop) (Act.put _ _ (Value.int .i64 SM)) _
        go_wp2_with fail
        go_roundw
        case rel => exact ⟨k + 1, by omega, by go_num, by rw [HST'.out], HB2.out⟩
        case measure => simp [intOf]; omega
      · have HST' := hideIt (HST.out.trans (by rw [if_neg hK, Int.add_zero]))
        have hKb : (K == 2) = false := by simp [hK]
        clear HST
        go_wp2_with fail
        refine HCL.out.mono ?_
        rintro e w1 ⟨rfl, hb1⟩
        have HB1 := hideIt (HBa.out.trans (hb1.mono HBa.out.size))
        clear hb1 HPa HBA HBa
        go_wp2_with fail
        go_roundw
        case rel => exact ⟨k + 1, by omega, by go_num, by rw [HST'.out], HB1.out⟩
        case measure => simp [intOf]; omega
    · have hke : k = ps.length := by omega
      subst hke
      have HB1 := hideIt hB
      have hmi := mid_in HF.out (Nat.le_refl _)
      have HG0 := hideIt (two_groups wr w.heap.size ⟨words.midAll, shares (middle ps ps.length), -1, 0⟩ ⟨words.lowAll, 2, -1, 0⟩ hB.size)
      have HU0 : Hid (upTo words ps 0 = [⟨words.midAll, shares (middle ps ps.length), -1, 0⟩, ⟨words.lowAll, 2, -1, 0⟩]) := Qos.upTo_zero words ps
      have HBs := hideIt (hB.alloc hB.size (.cells #[.string words.midAll, .int .i64 (shares (middle ps ps.length)), .int .i64 (-1), .int .i64 0, .string words.lowAll, .int .i64 2, .int .i64 (-1), .int .i64 0] 107))
      clear hB
      rw [← HU0.out] at HG0
      generalize middle ps ps.length = M at *
      go_wp2_with fail
      refine (shares_any M _ hmi.1 (by omega)).mono ?_
      rintro e w1 ⟨rfl, rfl⟩
      go_wp2_with fail
      go_loopw [6, 34] (fun g i wr => ∃ k : Nat, k ≤ ps.length ∧ i = .int .i64 k ∧ Below w.heap.size w wr ∧ GRow w.heap.size wr g (upTo words ps k)) (fun _ i _ => ps.length - (intOf i).toNat)
      case atStart => exact ⟨0, by omega, rfl, HBs.out, HG0.out⟩
      case round =>
        obtain ⟨k, hk2, rfl, hB, hG⟩ := hrel
        clear HB1 HG0 HBs HU0 hk hlt
        by_cases hlt : k < ps.length
        · obtain ⟨b, o, cv, rfl, hin⟩ := HR.out (by omega)
          have HC0 := hideIt (hin.2 k hlt).2
          have hin := hin.below hB
          obtain ⟨c0, c1, c2, hcn⟩ := hin.at hlt
          have hba := (Below.refl wr.heap.size wr).alloc (Nat.le_refl _) (.cells #[.string (pd ps k).nm, .int .i64 (pd ps k).pr, cv k] 60)
          have HPa := hideIt (PBoxAt.made wr (pd ps k) (cv k))
          have HBa := hideIt (hB.trans (hba.mono hB.size))
          have HGa := hideIt (hG.below hba)
          have HGL := hideIt hG.lt
          obtain ⟨hMi, hnm, hcnm⟩ := HF.out.2 k hlt
          have HMi := hideIt hMi
          have HCN := hideIt hcnm
          have HPT := hideIt (path_any (pd ps k) (cv k) _ (hcn.below hba) (by omega))
          have HSU := hideIt (fun W (hb : Below wr.heap.size wr W) => sum_any (pd ps k) (cv k) W (hcn.below hb) hMi)
          have HLI := hideIt (fun W (hb : Below wr.heap.size wr W) => limits_any (pd ps k) (cv k) W (hcn.below hb) hMi)
          have HCC := hideIt (fun W (hb : Below wr.heap.size wr W) => hcn.below hb)
          have HBA := hideIt hba
          have hsi := Qos.sumM_in hMi (Nat.le_refl _)
          have hps := path_size (pd ps k) hnm
          have hL0 := Qos.lim_nonneg (f := Ct.cm) (cs := (pd ps k).cs) (fun j hj => (hMi.2 j hj).2.2.1.1)
          have hL1 := lim_most hMi
          have HPG : Hid (podG words (pd ps k) = ⟨pathOf words (pd ps k), shares (sumM (pd ps k).cs (pd ps k).cs.length), quota (lim Ct.cm (pd ps k).cs), lim Ct.cb (pd ps k).cs⟩) := rfl
          have HW0 := hideIt (Qos.within_zero words ps k)
          have HWL := hideIt (Qos.upTo_most HF.out.1 (fun j hj => (HF.out.2 j hj).1.1) words hk2)
          have HWS := hideIt (Qos.within_succ words ps k)
          have HWA := hideIt (Qos.within_all words ps k hlt)
          have HWN := hideIt (Qos.within_len words ps k)
          have hlen3 := hMi.1
          have HCG : Hid (∀ j, contG words (pd ps k) (ct (pd ps k).cs j) = ⟨pathOf words (pd ps k) ++ words.sep ++ (ct (pd ps k).cs j).nm, shares (ct (pd ps k).cs j).am, quota (ct (pd ps k).cs j).cm, (ct (pd ps k).cs j).cb⟩) := fun _ => rfl
          obtain ⟨da, dc, hd, hdm, hdr⟩ := hcn
          have HDR := hideIt hdr
          unfold podV at HPT HSU HLI
          clear hin hba hB hG hMi hnm hcnm hdr hdm
          generalize hx : pd ps k = x at *
          generalize cv k = d at *
          subst hd
          go_wp2_with fail
          refine HPT.out.mono ?_
          rintro e w1 ⟨rfl, hb1⟩
          have HBb := hideIt (below_drew' (HBA.out.trans (hb1.mono HBA.out.size)))
          have HB1 := hideIt (below_drew' (HBa.out.trans (hb1.mono HBa.out.size)))
          have HP1 := hideIt (HPa.out.below (below_drew' hb1))
          have HG1 := hideIt (HGa.out.below (below_drew' hb1))
          clear hb1 HPa HBA HBa HGa HPT
          generalize pathOf words x = PA at *
          go_wp2_with fail
          refine wp_region_held_drew (S := (fun w' => w'.cell? ⟨wr.heap.size, 0, none⟩ = some (.string x.nm) ∧ w'.cell? ⟨wr.heap.size, 1, none⟩ = some (.int .i64 x.pr) ∧ w'.cell? ⟨wr.heap.size, 2, none⟩ = some (.slice da x.cs.length dc))) (by kernel_rfl) HP1.out.2 (fun hHeld => ?_)
          refine wpAnyH_take (i := 0) (oi := { dst := some 40, op := Op.move (Operand.tmp 6), type := 96, pos := "qos.go:99", after := #[], guard := none }) (v := ?v1x0) rfl (by kernel_rfl) (by kernel_rfl) (by kernel_rfl) (fun _ _ _ h => h) (Or.inl ⟨by rfl, ?h1x0⟩) (by assumption) ?r1x0
          case h1x0 =>
            intro w' hSw
            (try dsimp only at hSw)
            go_simp
            first | done | with_reducible rfl | rfl
          (try simp only [Act.put, List.setIfInBounds_toArray, List.set_cons_zero, List.set_cons_succ])
          refine wpAnyH_take (i := 1) (oi := { dst := some 41, op := Op.move (Operand.tmp 9), type := 9, pos := "qos.go:99", after := #[], guard := none }) (v := ?v2x1) rfl (by kernel_rfl) (by kernel_rfl) (by kernel_rfl) (fun _ _ _ h => h) (Or.inl ⟨by rfl, ?h2x1⟩) (by assumption) ?r2x1
          case h2x1 =>
            intro w' hSw
            (try dsimp only at hSw)
            go_simp
            first | done | with_reducible rfl | rfl
          (try simp only [Act.put, List.setIfInBounds_toArray, List.set_cons_zero, List.set_cons_succ])
          refine wpAnyH_take (i := 2) (oi := { dst := some 42, op := Op.load 60 (Operand.tmp 8), type := 60, pos := "qos.go:99", after := #[], guard := none }) (v := ?v3x2) rfl (by kernel_rfl) (by kernel_rfl) (by kernel_rfl) (fun _ _ _ h => h) (Or.inl ⟨by rfl, ?h3x2⟩) (by assumption) ?r3x2
          case h3x2 =>
            intro w' hSw
            (try dsimp only at hSw)
            go_simp
            first | done | with_reducible rfl | rfl
          (try simp only [Act.put, List.setIfInBounds_toArray, List.set_cons_zero, List.set_cons_succ])
          refine wpAnyH_take (i := 4) (oi := { dst := some 44, op := Op.load 60 (Operand.tmp 8), type := 60, pos := "qos.go:99", after := #[], guard := none }) (v := ?v4x4) rfl (by kernel_rfl) (by kernel_rfl) (by kernel_rfl) (fun _ _ _ h => h) (Or.inl ⟨by rfl, ?h4x4⟩) (by assumption) ?r4x4
          case h4x4 =>
            intro w' hSw
            (try dsimp only at hSw)
            go_simp
            first | done | with_reducible rfl | rfl
          (try simp only [Act.put, List.setIfInBounds_toArray, List.set_cons_zero, List.set_cons_succ])
          refine wpAnyH_ready (rs := [3]) (by kernel_rfl) (by simp) (AllReadyH.cons rfl (fun K hK => ?_) AllReadyH.nil)
          go_simp
          go_wp2_with fail
          refine (HSU.out _ HBb.out).mono ?_
          rintro e w5 ⟨rfl, hb5⟩
          have HP5 := hideIt (HP1.out.below hb5)
          have HG5 := hideIt (HG1.out.below hb5)
          have HB5 := hideIt (HB1.out.trans (hb5.mono HB1.out.size))
          have HB5b := hideIt (HBb.out.trans (hb5.mono HBb.out.size))
          clear hb5
          go_wp2_with fail
          refine hK.out _ _ HP5.out.2 (fun hHeld => ?_)
          clear hK K
          refine wpAnyH_ready (rs := [5]) (by kernel_rfl) (by simp) (AllReadyH.cons rfl (fun K hK => ?_) AllReadyH.nil)
          go_simp
          go_wp2_with fail
          refine (HLI.out _ HB5b.out).mono ?_
          rintro e w6 ⟨rfl, hb6⟩
          have HP6 := hideIt (HP5.out.below hb6)
          have HG6 := hideIt (HG5.out.below hb6)
          have HB6 := hideIt (HB5.out.trans (hb6.mono HB5.out.size))
          have HB6b := hideIt (HB5b.out.trans (hb6.mono HB5b.out.size))
          clear hb6
          go_wp2_with fail
          refine hK.out _ _ HP6.out.2 (fun hHeld => ?_)
          clear hK K
          refine wpAnyH_ready (rs := [6]) (by kernel_rfl) (by simp) (AllReadyH.cons rfl (fun K hK => ?_) AllReadyH.nil)
          go_simp
          go_wp2_with fail
          refine (groupOf_any PA _ _ _ _ _ hsi.1 (by omega) hL0 (by omega)).mono ?_
          rintro e w7 ⟨rfl, hb7⟩
          have HP7 := hideIt (HP6.out.below hb7)
          have HG7 := hideIt (HG6.out.below hb7)
          have HB7 := hideIt (HB6.out.trans (hb7.mono HB6.out.size))
          have HB7b := hideIt (HB6b.out.trans (hb7.mono HB6b.out.size))
          clear hb7
          go_wp2_with fail
          refine hK.out _ _ HP7.out.2 (fun hHeld => ?_)
          clear hK K
          have HP8 := hideIt (HP7.out.alloc (.cells #[.string PA, .int .i64 (shares (sumM x.cs x.cs.length)), .int .i64 (quota (lim Ct.cm x.cs)), .int .i64 (lim Ct.cb x.cs)] 107))
          have HG8 := hideIt (HG7.out.alloc (.cells #[.string PA, .int .i64 (shares (sumM x.cs x.cs.length)), .int .i64 (quota (lim Ct.cm x.cs)), .int .i64 (lim Ct.cb x.cs)] 107))
          have HB8 := hideIt (HB7.out.alloc HB7.out.size (.cells #[.string PA, .int .i64 (shares (sumM x.cs x.cs.length)), .int .i64 (quota (lim Ct.cm x.cs)), .int .i64 (lim Ct.cb x.cs)] 107))
          have HB8b := hideIt (HB7b.out.alloc HB7b.out.size (.cells #[.string PA, .int .i64 (shares (sumM x.cs x.cs.length)), .int .i64 (quota (lim Ct.cm x.cs)), .int .i64 (lim Ct.cb x.cs)] 107))
          have HN8 := hideIt (new_group w7 ⟨PA, shares (sumM x.cs x.cs.length), quota (lim Ct.cm x.cs), lim Ct.cb x.cs⟩ 107)
          clear HP1 HG1 HB1 HBb HP5 HG5 HB5 HB5b HP6 HG6 HB6 HB6b
          refine wpAnyH_ready (rs := [7]) (by kernel_rfl) (by simp) (AllReadyH.cons rfl (fun K hK => ?_) AllReadyH.nil)
          go_simp
          go_wp2_with fail
          refine hK.out _ _ HP8.out.2 (fun hHeld => ?_)
          clear hK K
          generalize hw8 : w7.alloc (.cells #[.string PA, .int .i64 (shares (sumM x.cs x.cs.length)), .int .i64 (quota (lim Ct.cm x.cs)), .int .i64 (lim Ct.cb x.cs)] 107) = w8 at HP8 HG8 HB8 HB8b HN8
          refine wpAnyH_ready (rs := [8]) (by kernel_rfl) (by simp) (AllReadyH.cons rfl (fun K hK => ?_) AllReadyH.nil)
          rw [if_pos (by rfl)]
          refine wp_append_own (o := { dst := some 48, op := Op.call { callee := Callee.builtin Builtin.append, args := #[Operand.tmp 40, Operand.tmp 47], argTypes := #[96, 96] }, type := 96, pos := "qos.go:99", after := #[{ on := 0, ground := Ground.data }, { on := 7, ground := Ground.data }, { on := 6, ground := Ground.chain }], guard := none }) _ _ _ 96 rfl w.heap.size 107 i0 (.agg #[.string ByteArray.empty, .int .i64 0, .int .i64 0, .int .i64 0]) 4 40 Try.underlying96 hi hz0 hz1 hz2 rfl (by decide) u6 _ _ rfl HG8.out ⟨_, 0, none⟩ 1 1 (gcells ⟨PA, shares (sumM x.cs x.cs.length), quota (lim Ct.cm x.cs), lim Ct.cb x.cs⟩) rfl rfl HN8.out (gcells_one _) (by have := HWL.out; unfold maxLen; omega) (by have := HWL.out; omega) HB8.out.size ?_
          intro v' w9 hown' hgrow' _
          have hne : some wr.heap.size ≠ u6.ownBlock := fun e => by have := (HGL.out _ e.symm).2; omega
          have HP9 := hideIt (HP8.out.kept hgrow' hne)
          have HG9 := hideIt (GRow.pushed hown')
          have HB9 := hideIt (HB8.out.grown hgrow' HB8.out.size (fun j hj => (HGL.out j hj).1))
          refine hK.out _ _ HP9.out.2 (fun hHeld => ?_)
          clear hK K
          (try simp only [Act.put, List.setIfInBounds_toArray, List.set_cons_zero, List.set_cons_succ])
          refine wpAnyH_take (i := 9) (oi := { dst := some 6, op := Op.assign (Operand.tmp 48), type := 96, pos := "qos.go:99", after := #[{ on := 8, ground := Ground.data }, { on := 8, ground := Ground.chain }, { on := 0, ground := Ground.phase }, { on := 1, ground := Ground.phase }, { on := 2, ground := Ground.phase }, { on := 3, ground := Ground.phase }, { on := 4, ground := Ground.phase }, { on := 5, ground := Ground.phase }, { on := 6, ground := Ground.phase }, { on := 7, ground := Ground.phase }, { on := 8, ground := Ground.phase }], guard := none }) (v := ?v5x9) rfl (by kernel_rfl) (by kernel_rfl) (by kernel_rfl) (fun _ _ _ h => h) (Or.inl ⟨by rfl, ?h5x9⟩) (by assumption) ?r5x9
          case h5x9 =>
            intro w' hSw
            (try dsimp only at hSw)
            go_simp
            first | done | with_reducible rfl | rfl
          (try simp only [Act.put, List.setIfInBounds_toArray, List.set_cons_zero, List.set_cons_succ])
          refine wpAnyH_done (by kernel_rfl) ?_ _
          have hG10 : GRow w.heap.size w9 v' (within words ps k 0) := by rw [HW0.out, HPG.out]; exact HG9.out
          have HG10 := hideIt hG10
          clear HP7 HG7 HB7 HB7b HP8 HG8 HB8 HB8b HN8 hw8 hown' hgrow' HG9 hG10 HW0 HPG HGL HSU HLI HCC hL0 hL1 hsi hne
          obtain ⟨q0, q1, q2, q3⟩ := HP9.out
          clear hHeld HP9
          go_wp2_with fail
          go_loopw [6, 52] (fun g i wq => ∃ j : Nat, j ≤ x.cs.length ∧ i = .int .i64 j ∧ Below w.heap.size w wq ∧ GRow w.heap.size wq g (within words ps k j)) (fun _ i _ => x.cs.length - (intOf i).toNat)
          case atStart => exact ⟨0, by omega, rfl, HB9.out, HG10.out⟩
          case round =>
            obtain ⟨j, hj, rfl, hB2, hG2⟩ := hrel
            clear HB9 HG10 q0 q1 q2 q3
            by_cases hjl : j < x.cs.length
            · obtain ⟨_, _, hv, _, hr2⟩ := HC0.out.below hB2
              cases hv
              obtain ⟨b2, o2, dv, rfl, hin2⟩ := hr2 (by omega)
              obtain ⟨d0, d1, d2, d3, d4, d5⟩ := hin2.at hjl
              have hsl : ∃ a n e, dv j = .slice a n e := by
                obtain ⟨a, e, he, _⟩ := (hin2.2 j hjl).2
                exact ⟨a, _, e, he⟩
              obtain ⟨ea, en, ec, hd2⟩ := hsl
              rw [hd2] at d5
              obtain ⟨⟨y1, y2⟩, _, ⟨y3, y4⟩, _⟩ := HMi.out.2 j hjl
              have hyn := HCN.out j hjl
              have HS2 := hideIt (HWS.out j hjl)
              have HG3 := hideIt (HCG.out j)
              have HL2 := hideIt (HWN.out j hj)
              have HBx := hideIt (hB2.alloc hB2.size (.cells #[.string (ct x.cs j).nm, .int .i64 (ct x.cs j).am, .int .i64 (ct x.cs j).ab, .int .i64 (ct x.cs j).cm, .int .i64 (ct x.cs j).cb, .slice ea en ec] 94))
              have HGx := hideIt (hG2.alloc (.cells #[.string (ct x.cs j).nm, .int .i64 (ct x.cs j).am, .int .i64 (ct x.cs j).ab, .int .i64 (ct x.cs j).cm, .int .i64 (ct x.cs j).cb, .slice ea en ec] 94))
              have HGL2 := hideIt hG2.lt
              clear hin2 hr2 hd2 hB2 hG2 HWS HCG HWN HCN
              generalize ct x.cs j = y at *
              go_wp2_with fail
              refine (groupOf_any _ _ _ _ _ _ y1 (by omega) y3 (by omega)).mono ?_
              rintro e w11 ⟨rfl, hb11⟩
              have HB11 := hideIt (HBx.out.trans (hb11.mono HBx.out.size))
              have HG11 := hideIt (HGx.out.below hb11)
              have HB12 := hideIt (HB11.out.alloc HB11.out.size (.cells #[.string (PA ++ words.sep ++ y.nm), .int .i64 (shares y.am), .int .i64 (quota y.cm), .int .i64 y.cb] 107))
              have HG12 := hideIt (HG11.out.alloc (.cells #[.string (PA ++ words.sep ++ y.nm), .int .i64 (shares y.am), .int .i64 (quota y.cm), .int .i64 y.cb] 107))
              have HN12 := hideIt (new_group w11 ⟨PA ++ words.sep ++ y.nm, shares y.am, quota y.cm, y.cb⟩ 107)
              clear hb11 HBx HGx
              go_wp2_with (at_builtin; refine wpList_append_own _ rfl _ _ 96 rfl w.heap.size 107 i0 (.agg #[.string ByteArray.empty, .int .i64 0, .int .i64 0, .int .i64 0]) 4 40 Try.underlying96 hi hz0 hz1 hz2 rfl (by decide) u6 _ _ rfl HG12.out ⟨_, 0, none⟩ 1 1 (gcells ⟨PA ++ words.sep ++ y.nm, shares y.am, quota y.cm, y.cb⟩) rfl rfl HN12.out (gcells_one _) (by have := HWL.out; have := HL2.out; unfold maxLen; omega) (by have := HWL.out; have := HL2.out; omega) HB12.out.size ?_; intro v2 w13 hown' hgrow' _)
              have HB13 := hideIt (HB12.out.grown hgrow' HB12.out.size (fun i hi => (HGL2.out i hi).1))
              have HG13 := hideIt (GRow.pushed hown')
              clear hown' hgrow'
              go_roundw
              case rel => exact ⟨j + 1, by omega, by go_num, HB13.out, by rw [HS2.out, HG3.out]; exact HG13.out⟩
              case measure => simp [intOf]; omega
            · have hje : j = x.cs.length := by omega
              have HB3 := hideIt hB2
              have HG3 := hideIt hG2
              clear hB2 hG2
              subst hje
              go_wp2_with fail
              go_roundw
              case rel => exact ⟨k + 1, by omega, by go_num, HB3.out, by rw [← HWA.out]; exact HG3.out⟩
              case measure => simp [intOf]; omega
        · have hke : k = ps.length := by omega
          subst hke
          have HB1 := hideIt hB
          clear hB
          go_wp2_with fail
          go_ret
          exact ⟨⟨_, rfl, hG⟩, HB1.out⟩
end Go.Proofs.Ythekalhceamcoaa
