/- What package pick's singles answers: the contract. -/
import Derived.Test.YthekalhceamcoaaPSort2
import Derived.Test.YthekalhceamcoaaPW1
import Derived.Laws.EntriesVeiled
namespace Go.Proofs.Ythekalhceamcoaa
open Go.RowKit Go.ChangeMaps
open Go.Maps (Keyed int_keyed keyOf_int_mk)
open Ost (Cpu cpu0 chosen cnt dif singles coreAt order)
/-- How many are left of each core, of the first ones. -/
def leftTo (l : List Cpu) (F k : Nat) (j : Int) : Int := if 0 ≤ j ∧ j < k then (cnt (coreAt l j.toNat &&& F) : Nat) else 0
theorem leftTo_zero (l : List Cpu) (F : Nat) : leftTo l F 0 = fun _ => 0 := by
  funext j; unfold leftTo; rw [if_neg (by omega)]
theorem leftTo_step (l : List Cpu) (F k : Nat) : (fun j => if (k : Int) = j then ((cnt (coreAt l k &&& F) : Nat) : Int) else leftTo l F k j) = leftTo l F (k + 1) := by
  funext j
  unfold leftTo
  by_cases h : (k : Int) = j
  · rw [if_pos h, if_pos (by omega), ← h]; simp
  · rw [if_neg h]
    by_cases h2 : 0 ≤ j ∧ j < k
    · rw [if_pos h2, if_pos (by omega)]
    · rw [if_neg h2, if_neg (by omega)]
theorem leftTo_at {l : List Cpu} (hg : Good l) (F n : Nat) : leftTo l F 64 (l.getD n cpu0).core = (Ost.leftOf l F n : Nat) := by
  obtain ⟨h0, h64⟩ := core_in hg n
  unfold leftTo
  rw [if_pos ⟨h0, by omega⟩]
  have : coreAt l (l.getD n cpu0).core.toNat = chosen (fun x => x.core == (l.getD n cpu0).core) l := by
    unfold coreAt Ost.at'
    rw [Int.toNat_of_nonneg h0]
  rw [this]; rfl
theorem wp_putLeft {o : Oper} {a : Act} {N : Act → World → Prop} {Q : Exit → Act → World → Prop} (w : World) (m x v : Operand) (hop : o.op = Op.mapUpdate 229 m x v)
    (B n : Nat) (f : Int → Int) (k : Int) (h0 : 0 ≤ k) (h64 : k < 64) (y : Nat) (hy : y ≤ 64) (hm : a.eval m = .map (some B)) (hx : a.eval x = .int .i64 k) (hv : a.eval v = .int .i64 y) (hM : LeftIs w B n f) (hn : n < maxLen)
    (hK : ∀ w', LeftIs w' B (n + 1) (fun j => if k = j then y else f j) → w.grownBy w' (some B) → N (a.put o.dst undef) w') :
    o.wp Try.prog a w N Q := by
  obtain ⟨D, ho, hk⟩ := hM
  obtain ⟨w', hrun, r1, r2⟩ := ho.update (e := 3) keyLaw Try.underlying229 hn (keyOf_int_mk Try.underlying3 (wf64 h0 h64)) (plainElem_int Try.underlying3 (WalkArith.wf_i64 (n := (y : Int)) (by omega)))
  unfold Oper.wp
  simp [execOp, hop, hm, hx, hv, hrun, Result.andThen]
  refine hK w' ⟨_, r1, fun j j0 j64 => ?_⟩ r2
  by_cases e : k = j
  · subst e
    have hkl : WideAt.IsKeyLit (Lit.int .i64 k) := trivial
    rw [Maps.atKey_put_same ho.isMap hkl]
    simp
  · have hne : (Lit.int .i64 j) ≠ (Lit.int .i64 k) := by simp; omega
    rw [Maps.atKey_put_other hne]
    simp only [if_neg e]
    exact hk j j0 j64
/-- What the loop over cores holds to. -/
structure Fill (wr w : World) (tb b o c : Nat) (l : List Cpu) (F k : Nat) : Prop where
  t : wr.cell? ⟨w.heap.size, 0, none⟩ = some (.pointer (some ⟨tb, 0, none⟩))
  m : wr.cell? ⟨w.heap.size + 1 + 1, 0, none⟩ = some (.map (some (w.heap.size + 1)))
  topo0 : TopoAt w tb b o c l
  left : LeftIs wr (w.heap.size + 1) k (leftTo l F k)
  bel : Below w.heap.size w wr
theorem Fill.below {wr wr' w : World} {tb b o c : Nat} {l : List Cpu} {F k : Nat} (h : Fill wr w tb b o c l F k) (hb : Below wr.heap.size wr wr') : Fill wr' w tb b o c l F k :=
  ⟨(hb.cell (p := ⟨w.heap.size, 0, none⟩) (World.block_lt_of_cell? wr _ h.t)).trans h.t, (hb.cell (p := ⟨w.heap.size + 1 + 1, 0, none⟩) (World.block_lt_of_cell? wr _ h.m)).trans h.m, h.topo0, h.left.below hb h.left.lt, h.bel.trans (hb.mono h.bel.size)⟩
theorem Fill.topo {wr w : World} {tb b o c : Nat} {l : List Cpu} {F k : Nat} (h : Fill wr w tb b o c l F k) : TopoAt wr tb b o c l := h.topo0.below h.bel
theorem Fill.put {wr wr' w : World} {tb b o c : Nat} {l : List Cpu} {F k : Nat} (h : Fill wr w tb b o c l F k) (hm : LeftIs wr' (w.heap.size + 1) (k + 1) (leftTo l F (k + 1))) (hgr : wr.grownBy wr' (some (w.heap.size + 1))) : Fill wr' w tb b o c l F (k + 1) :=
  ⟨hgr.cell h.t (by simp), hgr.cell h.m (by simp), h.topo0, hm, h.bel.grown hgr h.bel.size (fun j hj => by cases hj; omega)⟩
theorem Fill.drew {wr w : World} {tb b o c : Nat} {l : List Cpu} {F k : Nat} (h : Fill wr w tb b o c l F k) : Fill wr.drew w tb b o c l F k := h.below (below_drewN (Below.refl _ _) 1)
theorem Fill.stand {wr w : World} {tb b o c : Nat} {l : List Cpu} {F : Nat} (h : Fill wr w tb b o c l F 64) : Stand (wr.alloc (.cells #[.func (.func 157) #[] #[.pointer (some ⟨w.heap.size, 0, none⟩), .pointer (some ⟨w.heap.size + 1 + 1, 0, none⟩)]] 71)) w.heap.size (w.heap.size + 1 + 1) wr.heap.size tb b o c (w.heap.size + 1) 64 l (leftTo l F 64) :=
  ⟨cell_alloc h.t _, cell_alloc h.m _, by simp, h.topo.below ((Below.refl _ _).alloc (Nat.le_refl _) _), h.left.alloc _⟩
theorem fill_start {w : World} {tb b o c : Nat} {l : List Cpu} (ht : TopoAt w tb b o c l) (F : Nat) : Fill (((w.alloc (.cells #[.pointer (some ⟨tb, 0, none⟩)] 28)).alloc (.map #[] 0)).alloc (.cells #[.map (some (w.heap.size + 1))] 229)) w tb b o c l F 0 := by
  have hB := (((Below.refl w.heap.size w).alloc (Nat.le_refl _) (.cells #[.pointer (some ⟨tb, 0, none⟩)] 28)).alloc (by simp) (.map #[] 0)).alloc (by simp; omega) (.cells #[.map (some (w.heap.size + 1))] 229)
  have hM := (LeftIs.made (w.alloc (.cells #[.pointer (some ⟨tb, 0, none⟩)] 28))).alloc (.cells #[.map (some (w.heap.size + 1))] 229)
  have e : (w.alloc (.cells #[.pointer (some ⟨tb, 0, none⟩)] 28)).heap.size = w.heap.size + 1 := by simp
  rw [e, ← leftTo_zero l F] at hM
  exact ⟨by go_simp, by go_simp, ht, hM, hB⟩
set_option maxRecDepth 100000 in
set_option maxHeartbeats 4000000 in
theorem singles_any (tb b o c F : Nat) (L : Int) (l : List Cpu) (w : World) (ht : TopoAt w tb b o c l) (hg : Good l) (hF : F < 18446744073709551616) (h0 : 0 ≤ L) (hL : L ≤ 64) :
    Calls Try.prog 129 #[.pointer (some ⟨tb, 0, none⟩), .int .u64 F, .int .i64 L] w fun e w' => e = .returned (.int .u64 (singles (Ost.leftOf l F) F L.toNat : Nat)) ∧ Below w.heap.size w w' := by
  have hmm := @run_makeMap Try.prog
  have h64 := ht.len
  have HG := hideIt hg
  have HF0 := hideIt (fill_start ht F)
  clear ht hg
  go_enter Try.func129, Try.ntmps129
  go_wp2_with fail
  go_loopw [15] (fun i wr => ∃ k : Nat, k ≤ 64 ∧ i = .int .i64 k ∧ Hid (Fill wr w tb b o c l F k)) (fun i _ => 64 - (intOf i).toNat)
  case atStart => exact ⟨0, by omega, rfl, HF0.out⟩
  case round =>
    clear HF0
    obtain ⟨k, hk, hi, HFl⟩ := hrel
    by_cases hlt : k < 64
    · subst hi
      have HCo : Hid (∀ W, TopoAt W tb b o c l → Calls Try.prog 24 #[.pointer (some ⟨tb, 0, none⟩), .int .i64 k] W fun e w' => e = .returned (.int .u64 (coreAt l k : Nat)) ∧ Below W.heap.size W w') := fun W hW => core_any tb b o c l k W hW
      have hck := Ost.at_lt (·.core) h64 k
      change coreAt l k < _ at hck
      have HCn : Hid (∀ W, Calls Try.prog 22 #[.int .u64 (bits BinOp.and IntKind.u64 (coreAt l k : Nat) (F : Nat))] W fun e w' => e = .returned (.int .i64 (cnt (coreAt l k &&& F) : Nat)) ∧ w' = W) := fun W => by
        rw [bits_and_u64_nat _ _ hck hF]
        exact bitsCount_any _ W (Ost.sub_lt hck (Ost.and_sub _ F))
      have hcs : cnt (coreAt l k &&& F) ≤ 64 := listTo_le _ 64
      have HSt := hideIt (leftTo_step l F k)
      generalize hcc : cnt (coreAt l k &&& F) = cc at *
      clear hcc
      generalize coreAt l k = ck at *
      have hF0 := HFl.out.drew
      go_wp2_with fail
      refine wp_region_held_drew (S := (fun w' => w'.cell? ⟨w.heap.size + 1 + 1, 0, none⟩ = some (.map (some (w.heap.size + 1))) ∧ w'.cell? ⟨w.heap.size, 0, none⟩ = some (.pointer (some ⟨tb, 0, none⟩)))) (by kernel_rfl) ⟨hF0.m, hF0.t⟩ (fun hHeld => ?_)
      refine wpAnyH_take (i := 0) (oi := { dst := some 18, op := Op.load 229 (Operand.tmp 7), type := 229, pos := "pick.go:50", after := #[], guard := none }) (v := ?v1x0) rfl (by kernel_rfl) (by kernel_rfl) (by kernel_rfl) (fun _ _ _ h => h) (Or.inl ⟨by rfl, ?h1x0⟩) (by assumption) ?r1x0
      case h1x0 =>
        intro w' hSw
        (try dsimp only at hSw)
        go_simp
        first | done | with_reducible rfl | rfl
      (try simp only [Act.put, List.setIfInBounds_toArray, List.set_cons_zero, List.set_cons_succ])
      refine wpAnyH_take (i := 1) (oi := { dst := some 19, op := Op.move (Operand.tmp 8), type := 3, pos := "pick.go:50", after := #[], guard := none }) (v := ?v2x1) rfl (by kernel_rfl) (by kernel_rfl) (by kernel_rfl) (fun _ _ _ h => h) (Or.inl ⟨by rfl, ?h2x1⟩) (by assumption) ?r2x1
      case h2x1 =>
        intro w' hSw
        (try dsimp only at hSw)
        go_simp
        first | done | with_reducible rfl | rfl
      (try simp only [Act.put, List.setIfInBounds_toArray, List.set_cons_zero, List.set_cons_succ])
      refine wpAnyH_take (i := 2) (oi := { dst := some 20, op := Op.load 28 (Operand.tmp 3), type := 28, pos := "pick.go:50", after := #[], guard := none }) (v := ?v3x2) rfl (by kernel_rfl) (by kernel_rfl) (by kernel_rfl) (fun _ _ _ h => h) (Or.inl ⟨by rfl, ?h3x2⟩) (by assumption) ?r3x2
      case h3x2 =>
        intro w' hSw
        (try dsimp only at hSw)
        go_simp
        first | done | with_reducible rfl | rfl
      (try simp only [Act.put, List.setIfInBounds_toArray, List.set_cons_zero, List.set_cons_succ])
      refine wpAnyH_take (i := 3) (oi := { dst := some 21, op := Op.move (Operand.tmp 8), type := 3, pos := "pick.go:50", after := #[], guard := none }) (v := ?v4x3) rfl (by kernel_rfl) (by kernel_rfl) (by kernel_rfl) (fun _ _ _ h => h) (Or.inl ⟨by rfl, ?h4x3⟩) (by assumption) ?r4x3
      case h4x3 =>
        intro w' hSw
        (try dsimp only at hSw)
        go_simp
        first | done | with_reducible rfl | rfl
      (try simp only [Act.put, List.setIfInBounds_toArray, List.set_cons_zero, List.set_cons_succ])
      refine wpAnyH_take (i := 5) (oi := { dst := some 23, op := Op.move (Operand.tmp 1), type := 24, pos := "pick.go:50", after := #[], guard := none }) (v := ?v5x5) rfl (by kernel_rfl) (by kernel_rfl) (by kernel_rfl) (fun _ _ _ h => h) (Or.inl ⟨by rfl, ?h5x5⟩) (by assumption) ?r5x5
      case h5x5 =>
        intro w' hSw
        (try dsimp only at hSw)
        go_simp
        first | done | with_reducible rfl | rfl
      (try simp only [Act.put, List.setIfInBounds_toArray, List.set_cons_zero, List.set_cons_succ])
      refine wpAnyH_ready (rs := [4]) (by kernel_rfl) (by simp) (AllReadyH.cons rfl (fun K hK => ?_) AllReadyH.nil)
      go_simp
      go_wp2_with fail
      refine (HCo.out _ hF0.topo).mono ?_
      rintro e w1 ⟨rfl, hb⟩
      have hF1 := hF0.below hb
      clear hb
      go_wp2_with fail
      refine hK.out _ _ ⟨hF1.m, hF1.t⟩ (fun hHeld => ?_)
      clear hK K
      refine wpAnyH_take (i := 6) (oi := { dst := some 24, op := Op.binOp BinOp.and 24 (Operand.tmp 22) (Operand.tmp 23) 24, type := 24, pos := "pick.go:50", after := #[{ on := 4, ground := Ground.data }, { on := 5, ground := Ground.data }], guard := none }) (v := ?v6x6) rfl (by kernel_rfl) (by kernel_rfl) (by kernel_rfl) (fun _ _ _ h => h) (Or.inl ⟨by rfl, ?h6x6⟩) (by assumption) ?r6x6
      case h6x6 =>
        intro w' hSw
        (try dsimp only at hSw)
        go_simp
        first | done | with_reducible rfl | rfl
      (try simp only [Act.put, List.setIfInBounds_toArray, List.set_cons_zero, List.set_cons_succ])
      refine wpAnyH_ready (rs := [7]) (by kernel_rfl) (by simp) (AllReadyH.cons rfl (fun K hK => ?_) AllReadyH.nil)
      go_simp
      go_wp2_with fail
      refine (HCn.out _).mono ?_
      rintro e w2 ⟨rfl, rfl⟩
      go_wp2_with fail
      refine hK.out _ _ hHeld (fun hHeld => ?_)
      clear hK K
      refine wpAnyH_ready (rs := [8]) (by kernel_rfl) (by simp) (AllReadyH.cons rfl (fun K hK => ?_) AllReadyH.nil)
      rw [if_pos (by rfl)]
      refine wp_putLeft _ _ _ _ rfl (w.heap.size + 1) k (leftTo l F k) k (by omega) (by omega) cc hcs rfl rfl rfl hF1.left (by unfold maxLen; omega) ?_
      intro w3 hM3 hgr3
      rw [HSt.out] at hM3
      have hF3 := hideIt (hF1.put hM3 hgr3)
      clear hM3 hgr3
      refine hK.out _ _ ⟨hF3.out.m, hF3.out.t⟩ (fun hHeld => ?_)
      clear hK K
      refine wpAnyH_done (by kernel_rfl) ?_ _
      go_wp2_with fail
      go_roundw
      case rel => exact ⟨k + 1, by omega, by go_num, hF3⟩
      case measure => simp [intOf]; omega
    · have hk64 : k = 64 := by omega
      subst hk64
      have hi2 : _ = Value.int .i64 64 := hi
      clear hk hlt hi
      subst hi2
      have HS := hideIt HFl.out.stand
      have hBl := HFl.out.bel.alloc HFl.out.bel.size (.cells #[.func (.func 157) #[] #[.pointer (some ⟨w.heap.size, 0, none⟩), .pointer (some ⟨w.heap.size + 1 + 1, 0, none⟩)]] 71)
      have HB4 := hideIt hBl
      clear hBl
      go_wp2_with fail
      generalize wr.alloc (.cells #[.func (.func 157) #[] #[.pointer (some ⟨w.heap.size, 0, none⟩), .pointer (some ⟨w.heap.size + 1 + 1, 0, none⟩)]] 71) = W4 at *
      refine (list_any F W4 hF).mono ?_
      rintro e w5 ⟨v, rfl, hrow, hb5⟩
      have HSort := hideIt (sort_any v F W4.heap.size w.heap.size (w.heap.size + 1 + 1) wr.heap.size tb b o c (w.heap.size + 1) 64 l (leftTo l F 64) (Ost.leftOf l F) w5 hrow hb5.size (HS.out.below hb5 HS.out.lts) HS.out.lts HG.out (leftTo_at HG.out F))
      have hB5 := hideIt (HB4.out.trans (hb5.mono HB4.out.size))
      clear hrow hb5 HS
      go_wp2_with fail
      refine HSort.out.mono ?_
      rintro e w6 ⟨rfl, hrow6, hb6⟩
      have hB6 := hideIt (hB5.out.trans (hb6.mono HB4.out.size))
      clear hb6 HSort hB5 HB4 HFl
      have hlen : (order (Ost.leftOf l F) F).length ≤ 64 := by rw [Ost.order_length]; exact listTo_le F 64
      have HSg : Hid (singles (Ost.leftOf l F) F L.toNat = Ost.orB ((order (Ost.leftOf l F) F).take L.toNat)) := rfl
      have H64 : Hid (∀ n ∈ order (Ost.leftOf l F) F, n < 64) := fun n hn => (Ost.order_mem.1 hn).1
      generalize order (Ost.leftOf l F) F = R at *
      rcases hrow6 with ⟨rfl, rfl⟩ | ⟨g, cp, rfl, hcp, hcell⟩
      · have hmin : min L 0 = 0 := by omega
        have HR : Hid (singles (Ost.leftOf l F) F L.toNat = 0) := by unfold Hid; rw [HSg.out]; simp [Ost.orB]
        go_wp2_with fail
        refine wp_loop_rounds 1 ?_
        rw [rounds_succ]
        go_wp2_with fail
        go_ret
        exact ⟨by rw [HR.out]; rfl, hB6.out⟩
      · have HCl := hideIt hcell
        clear hcell
        obtain ⟨M, hM, hmin⟩ : ∃ M : Nat, M = min L.toNat R.length ∧ min L (R.length : Int) = (M : Int) := ⟨min L.toNat R.length, rfl, by omega⟩
        have HR : Hid (singles (Ost.leftOf l F) F L.toNat = Ost.orB (R.take M)) := by
          unfold Hid
          rw [HSg.out]
          congr 1
          rw [List.take_eq_take_iff]; omega
        have hMR : M ≤ R.length := by omega
        clear hM HSg
        go_wp2_with fail
        go_loop [11, 40] (fun t i => ∃ k : Nat, k ≤ M ∧ i = .int .i64 k ∧ t = .int .u64 (Ost.orB (R.take k) : Nat)) (fun _ i => M - (intOf i).toNat)
        case atStart => exact ⟨0, by omega, rfl, rfl⟩
        case round =>
          obtain ⟨k, hk, rfl, rfl⟩ := hrel
          by_cases hlt : k < M
          · have hkR : k < R.length := by omega
            have hcell := HCl.out k hkR
            have hz := H64.out (R.getD k 0) (by simp [hkR])
            have hts : R.take (k + 1) = R.take k ++ [R.getD k 0] := by
              rw [List.take_succ_eq_append_getElem hkR]; simp [hkR]
            have hol : Ost.orB (R.take k) < 18446744073709551616 := by
              apply Nat.lt_pow_two_of_testBit (n := 64)
              intro i hi
              rw [Ost.orB_bit]
              exact decide_eq_false (fun hm => by have := H64.out i (List.mem_of_mem_take hm); omega)
            have HO := hideIt (or_step (Ost.orB (R.take k)) (R.getD k 0) hol hz)
            have HT : Hid (Ost.orB (R.take k) ||| 2 ^ (R.getD k 0) = Ost.orB (R.take (k + 1))) := by unfold Hid; rw [hts, Ost.orB_snoc]
            rw [HT.out] at HO
            clear hts HT
            generalize R.getD k 0 = z at *
            go_wp2_with fail
            go_round
            case rel => exact ⟨k + 1, by omega, by go_num, by rw [← HO.out]⟩
            case measure => simp [intOf]; omega
          · have hkM : k = M := by omega
            have HE : Hid (Ost.orB (R.take k) = singles (Ost.leftOf l F) F L.toNat) := by unfold Hid; rw [HR.out, hkM]
            rw [HE.out]
            clear hkM HE
            go_wp2_with fail
            go_ret
            exact ⟨rfl, hB6.out⟩
end Go.Proofs.Ythekalhceamcoaa
