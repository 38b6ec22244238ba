/- What hints.Merge answers: contracts. -/
import Derived.Test.YtlpogejkmigimaaMW3
import Derived.Test.YtlpogejkmigimaaMW1b
namespace Go.Proofs.Ytlpogejkmigimaa
open Go.RowKit
open Ost (Hi Wi wi0 Low bet pop8 waysTo bestTo best told)
theorem results_cell_tmp2 {fn : Func} {p u t : Tmp} {ty : TypeId} (h : fn.results = #[.cell p ty, .tmp u, .tmp t]) (tmps : Array Value) (P : Program) (w : World) :
    (results fn tmps).run P w =
      ((asAddr (tmps.getD p undef)).run P w).andThen fun a w₁ => ((loadVar ty a).run P w₁).andThen fun v w₂ => .ok (.tuple #[v, tmps.getD u undef, tmps.getD t undef]) w₂ := by
  simp only [results, h]
  simp [Sem.run_bind, Result.andThen]
theorem notIn {nodes : Nat} (h : nodes ≤ 15) : bits BinOp.andNot IntKind.u8 (nodes : Int) 15 = 0 := by
  have key : ∀ (x : Fin 16), bits BinOp.andNot IntKind.u8 ((x.val : Nat) : Int) 15 = 0 := by decide +kernel
  exact key ⟨nodes, by omega⟩
theorem notOut {nodes : Nat} (h : 15 < nodes) (hn : nodes < 256) : (bits BinOp.andNot IntKind.u8 (nodes : Int) 15 == 0) = false := by
  have key : ∀ (x : Fin 256), 15 < x.val → (bits BinOp.andNot IntKind.u8 ((x.val : Nat) : Int) 15 == 0) = false := by decide +kernel
  exact key ⟨nodes, by omega⟩ h
abbrev badM (e : Int) : Value := .tuple #[.agg #[.int .u8 0, .bool false], .bool false, .iface 73 (.int .i64 e)]
set_option maxRecDepth 100000 in
set_option maxHeartbeats 1000000 in
theorem merge_bound (pol : Int) (nodes : Nat) (ao : Option Addr) (n c : Nat) (w : World) (hn : nodes < 256) (h : pol < 0 ∨ 3 < pol ∨ nodes = 0 ∨ 15 < nodes) :
    Calls Try.prog 33 #[.int .i64 pol, .int .u8 nodes, .slice ao n c] w fun e w' => e = .returned (badM 1) ∧ Below w.heap.size w w' := by
  have HB : Hid (Below w.heap.size w (w.alloc (.cells #[.int .u8 0, .bool false] 60))) := (Below.refl _ _).alloc (Nat.le_refl _) _
  unfold badM
  go_enter Try.func33, Try.ntmps33
  have hc : pol < 0 ∨ (0 ≤ pol ∧ 3 < pol) ∨ (0 ≤ pol ∧ pol ≤ 3 ∧ nodes = 0) ∨ (0 ≤ pol ∧ pol ≤ 3 ∧ 15 < nodes) := by omega
  clear h
  rcases hc with h1 | ⟨h1, h2⟩ | ⟨h1, h2, rfl⟩ | ⟨h1, h2, h3⟩
  · go_wp2_with fail
    (try simp only [Exit.inBlock, Exit.then])
    refine bodyPost_ret (v := .tuple #[.agg #[.int .u8 0, .bool false], .bool false, .iface 73 (.int .i64 1)]) ?_ rfl ⟨rfl, HB.out⟩
    rw [results_cell_tmp2 rfl]
    go_simp
  · go_wp2_with fail
    (try simp only [Exit.inBlock, Exit.then])
    refine bodyPost_ret (v := .tuple #[.agg #[.int .u8 0, .bool false], .bool false, .iface 73 (.int .i64 1)]) ?_ rfl ⟨rfl, HB.out⟩
    rw [results_cell_tmp2 rfl]
    go_simp
  · go_wp2_with fail
    (try simp only [Exit.inBlock, Exit.then])
    refine bodyPost_ret (v := .tuple #[.agg #[.int .u8 0, .bool false], .bool false, .iface 73 (.int .i64 1)]) ?_ rfl ⟨rfl, HB.out⟩
    rw [results_cell_tmp2 rfl]
    go_simp
  · have hb := notOut h3 hn
    have hb2 : (bits BinOp.andNot IntKind.u8 (nodes : Int) 15 != 0) = true := by unfold bne; rw [hb]; rfl
    have h4 : ((nodes : Int) == 0) = false := by rw [beq_eq_false_iff_ne]; omega
    go_wp2_with fail
    (try simp only [Exit.inBlock, Exit.then])
    refine bodyPost_ret (v := .tuple #[.agg #[.int .u8 0, .bool false], .bool false, .iface 73 (.int .i64 1)]) ?_ rfl ⟨rfl, HB.out⟩
    rw [results_cell_tmp2 rfl]
    go_simp
set_option maxRecDepth 100000 in
set_option maxHeartbeats 1000000 in
theorem merge_many (pol : Int) (nodes : Nat) (ao : Option Addr) (n c : Nat) (w : World) (hn : 1 ≤ nodes ∧ nodes ≤ 15) (hp : 0 ≤ pol ∧ pol ≤ 3) (hl : 4 < n) :
    Calls Try.prog 33 #[.int .i64 pol, .int .u8 nodes, .slice ao n c] w fun e w' => e = .returned (badM 2) ∧ Below w.heap.size w w' := by
  have HB : Hid (Below w.heap.size w (w.alloc (.cells #[.int .u8 0, .bool false] 60))) := (Below.refl _ _).alloc (Nat.le_refl _) _
  unfold badM
  have hnot := notIn hn.2
  have h4 : ((nodes : Int) == 0) = false := by rw [beq_eq_false_iff_ne]; omega
  obtain ⟨hp1, hp2⟩ := hp
  go_enter Try.func33, Try.ntmps33
  go_wp2_with fail
  (try simp only [Exit.inBlock, Exit.then])
  refine bodyPost_ret (v := .tuple #[.agg #[.int .u8 0, .bool false], .bool false, .iface 73 (.int .i64 2)]) ?_ rfl ⟨rfl, HB.out⟩
  rw [results_cell_tmp2 rfl]
  go_simp
set_option maxRecDepth 100000 in
set_option maxHeartbeats 1000000 in
theorem merge_zero (nodes : Nat) (ao : Option Addr) (n c : Nat) (w : World) (hn : 1 ≤ nodes ∧ nodes ≤ 15) (hl : n ≤ 4) :
    Calls Try.prog 33 #[.int .i64 0, .int .u8 nodes, .slice ao n c] w fun e w' => e = .returned (.tuple #[vH (nodes, true), .bool true, .nilIface]) ∧ Below w.heap.size w w' := by
  have HB : Hid (Below w.heap.size w (w.alloc (.cells #[.int .u8 0, .bool false] 60))) := (Below.refl _ _).alloc (Nat.le_refl _) _
  unfold vH
  have hnot := notIn hn.2
  have h4 : ((nodes : Int) == 0) = false := by rw [beq_eq_false_iff_ne]; omega
  go_enter Try.func33, Try.ntmps33
  go_wp2_with fail
  (try simp only [Exit.inBlock, Exit.then])
  refine bodyPost_ret (v := .tuple #[.agg #[.int .u8 nodes, .bool true], .bool true, .nilIface]) ?_ rfl ⟨rfl, ?_⟩
  · rw [results_cell_tmp2 rfl]
    go_simp
  · first
      | exact HB.out
      | exact (Below.refl _ _).alloc (Nat.le_refl _) _
      | exact (HB.out.setCell (Nat.le_refl _) _).setCell (Nat.le_refl _) _
/-- What lies ready in Merge: the result, and the best so far. -/
structure BEnv (u : World) (N : Nat) (h : Hi) : Prop where
  c00 : u.cell? ⟨N, 0, none⟩ = some (.int .u8 0)
  c01 : u.cell? ⟨N, 1, none⟩ = some (.bool false)
  c10 : u.cell? ⟨N + 1, 0, none⟩ = some (.int .u8 (h.1 : Nat))
  c11 : u.cell? ⟨N + 1, 1, none⟩ = some (.bool h.2)
  f00 : u.frozen? ⟨N, 0, none⟩ = false
  f01 : u.frozen? ⟨N, 1, none⟩ = false
  f10 : u.frozen? ⟨N + 1, 0, none⟩ = false
  f11 : u.frozen? ⟨N + 1, 1, none⟩ = false
theorem BEnv.lt {u : World} {N : Nat} {h : Hi} (e : BEnv u N h) : N + 1 < u.heap.size := World.block_lt_of_cell? u _ e.c10
theorem BEnv.below {u u' : World} {N K : Nat} {h : Hi} (e : BEnv u N h) (hb : Below K u u') (hK : N + 2 ≤ K) : BEnv u' N h :=
  ⟨(hb.cell (p := ⟨N, 0, none⟩) (by show N < K; omega)).trans e.c00, (hb.cell (p := ⟨N, 1, none⟩) (by show N < K; omega)).trans e.c01, (hb.cell (p := ⟨N + 1, 0, none⟩) (by show N + 1 < K; omega)).trans e.c10, (hb.cell (p := ⟨N + 1, 1, none⟩) (by show N + 1 < K; omega)).trans e.c11,
    (hb.frozen (p := ⟨N, 0, none⟩) (by show N < K; omega)).trans e.f00, (hb.frozen (p := ⟨N, 1, none⟩) (by show N < K; omega)).trans e.f01, (hb.frozen (p := ⟨N + 1, 0, none⟩) (by show N + 1 < K; omega)).trans e.f10, (hb.frozen (p := ⟨N + 1, 1, none⟩) (by show N + 1 < K; omega)).trans e.f11⟩
theorem BEnv.set {u : World} {N : Nat} {h : Hi} (e : BEnv u N h) (m : Nat) (g : Bool) : BEnv ((u.setCell ⟨N + 1, 0, none⟩ (.int .u8 (m : Nat))).setCell ⟨N + 1, 1, none⟩ (.bool g)) N (m, g) := by
  obtain ⟨c00, c01, c10, c11, f00, f01, f10, f11⟩ := e
  refine ⟨?_, ?_, ?_, ?_, ?_, ?_, ?_, ?_⟩ <;> go_simp
/-- A slice of hints elsewhere is as it was. -/
theorem HintsAt.set {w : World} {v : Value} {l : List Hi} {N : Nat} (h : HintsAt w v l) (hfr : ∀ b o n c, v = .slice (some ⟨b, o, none⟩) n c → N + 2 ≤ b) (x y : Value) : HintsAt ((w.setCell ⟨N + 1, 0, none⟩ x).setCell ⟨N + 1, 1, none⟩ y) v l := by
  rcases h with h | ⟨b, o, c', hv, hlt, hc⟩
  · exact .inl h
  · have hb := hfr b o _ _ hv
    refine .inr ⟨b, o, c', hv, by simpa using hlt, fun k hk => ?_⟩
    have e1 : ((w.setCell ⟨N + 1, 0, none⟩ x).setCell ⟨N + 1, 1, none⟩ y).heap[b]? = w.heap[b]? := by
      rw [Below.heap_setCell _ _ _ _ (by show b ≠ N + 1; omega), Below.heap_setCell _ _ _ _ (by show b ≠ N + 1; omega)]
    exact ⟨(World.cell?_of_block (w := w) (a := ⟨b, o + k * 2, none⟩) e1).trans (hc k hk).1, (World.cell?_of_block (w := w) (a := ⟨b, o + k * 2 + 1, none⟩) e1).trans (hc k hk).2⟩
set_option maxRecDepth 100000 in
set_option maxHeartbeats 2000000 in
theorem merge_main (pol : Int) (nodes : Nat) (v : Value) (ws : List Wi) (w : World) (hv : WishesAt w v ws) (hw : Light ws) (hl : ws.length ≤ 4) (hn : 1 ≤ nodes ∧ nodes ≤ 15) (hp : 1 ≤ pol ∧ pol ≤ 3) :
    Calls Try.prog 33 #[.int .i64 pol, .int .u8 nodes, v] w fun e w' => e = .returned (.tuple #[vH (told pol nodes ws), .bool ((told pol nodes ws).2 || decide (pol = 1)), .nilIface]) ∧ Below w.heap.size w w' := by
  have HX : Hid (Below w.heap.size w ((w.alloc (.cells #[.int .u8 0, .bool false] 60)).alloc (.cells #[.int .u8 (nodes : Nat), .bool false] 60))) := ((Below.refl _ _).alloc (Nat.le_refl _) _).alloc (by simp) _
  have HO := hideIt (outcomes_any pol nodes v ws ((w.alloc (.cells #[.int .u8 0, .bool false] 60)).alloc (.cells #[.int .u8 (nodes : Nat), .bool false] 60)) (hv.below HX.out) hw hl (by omega) (by omega))
  have HLw := hideIt (Ost.Outs.low (Ost.waysTo_outs pol nodes ws ws.length) (show nodes < 256 by omega))
  have hTo : Hid (told pol nodes ws = bestTo (waysTo pol nodes ws ws.length) (nodes, false) (waysTo pol nodes ws ws.length).length) := rfl
  have hlenW := Ost.waysTo_len pol nodes ws (fun y hy => (hw y hy).2) ws.length (Nat.le_refl _)
  have hpow := Ost.pow_le4 ws.length hl
  generalize told pol nodes ws = T at *
  generalize waysTo pol nodes ws ws.length = W at *
  obtain ⟨ao, c, rfl, _⟩ := hv.form
  clear hv hw
  have hnot := notIn hn.2
  have h4 : ((nodes : Int) == 0) = false := by rw [beq_eq_false_iff_ne]; omega
  obtain ⟨hp1, hp2⟩ := hp
  have hp0 : 0 ≤ pol := by omega
  have hp3 : (pol == 0) = false := by rw [beq_eq_false_iff_ne]; omega
  have HE0 : Hid (BEnv ((w.alloc (.cells #[.int .u8 0, .bool false] 60)).alloc (.cells #[.int .u8 (nodes : Nat), .bool false] 60)) w.heap.size (nodes, false)) := by
    refine ⟨?_, ?_, ?_, ?_, ?_, ?_, ?_, ?_⟩ <;> go_simp
  unfold vH at *
  go_enter Try.func33, Try.ntmps33
  go_wp2_with fail
  refine HO.out.mono ?_
  rintro e w2 ⟨vC, rfl, hC, hb2, hfr⟩
  have HB := hideIt (HX.out.trans (hb2.mono (by simp; omega)))
  have HE := hideIt (HE0.out.below hb2 (by simp))
  have HC := hideIt hC
  have HFr : Hid (∀ b o n c, vC = .slice (some ⟨b, o, none⟩) n c → w.heap.size + 2 ≤ b) := fun b o n c h => Nat.le_trans (by simp) (hfr b o n c h)
  obtain ⟨ac, cc, rfl, _⟩ := hC.form
  clear hC hb2 HE0 HO HX hfr
  go_wp2_with fail
  go_loopw [45] (fun i wr => ∃ k : Nat, k ≤ W.length ∧ i = .int .i64 k ∧ Hid (BEnv wr w.heap.size (bestTo W (nodes, false) k)) ∧ Hid (HintsAt wr (.slice ac W.length cc) W) ∧ Hid (Below w.heap.size w wr)) (fun i _ => W.length - (intOf i).toNat)
  case atStart => exact ⟨0, by omega, rfl, HE.out, HC.out, HB.out⟩
  case round =>
    obtain ⟨k, hk, rfl, HEr, HCr, HBr⟩ := hrel
    clear HE HC HB
    have hb256 := Ost.best_lt HLw.out (show ((nodes, false) : Hi).1 < 256 by show nodes < 256; omega) k hk
    by_cases hlt : k < W.length
    · obtain ⟨ac', cc', hv', hcs⟩ := HCr.out.form
      obtain ⟨rfl, rfl⟩ : ac = ac' ∧ cc = cc' := by simpa using hv'
      obtain ⟨b, o, rfl, hbl, hcs⟩ := hcs (by omega)
      obtain ⟨c0, c1⟩ := hcs k hlt
      have hx := HLw.out _ (Ost.getD_mem W (0, false) k hlt)
      have HSt : bestTo W (nodes, false) (k + 1) = if bet (W.getD k (0, false)) (bestTo W (nodes, false) k) then W.getD k (0, false) else bestTo W (nodes, false) k := rfl
      clear hcs hv'
      generalize W.getD k (0, false) = x at *
      generalize bestTo W (nodes, false) k = y at *
      obtain ⟨m, g⟩ := x
      obtain ⟨p, f⟩ := y
      simp only at c0 c1 hx hb256
      have HX := hideIt ((Below.refl wr.heap.size wr).alloc (Nat.le_refl _) (.cells #[.int .u8 (m : Nat), .bool g] 60))
      have HEa := hideIt (HEr.out.below HX.out HEr.out.lt)
      have HCa := hideIt (HCr.out.below HX.out)
      have HBa := hideIt (HBr.out.trans (HX.out.mono HBr.out.size))
      have hNw := HEr.out.lt
      have e0 := HEa.out.c10
      have e1 := HEa.out.c11
      simp only at e0 e1
      have HBt := hideIt (betterH_any (m, g) (p, f) (wr.alloc (.cells #[.int .u8 (m : Nat), .bool g] 60)) hx hb256)
      have hL0 : (wr.alloc (.cells #[.int .u8 (m : Nat), .bool g] 60)).cell? ⟨wr.heap.size, 0, none⟩ = some (.int .u8 (m : Nat)) := by simp
      have hL1 : (wr.alloc (.cells #[.int .u8 (m : Nat), .bool g] 60)).cell? ⟨wr.heap.size, 1, none⟩ = some (.bool g) := by simp
      have hL0 := hideIt hL0
      have hL1 := hideIt hL1
      unfold vH at HBt
      clear HEr HCr HBr
      go_wp2_with fail
      refine HBt.out.mono ?_
      rintro e w5 ⟨rfl, hb5⟩
      have HE5 := hideIt (HEa.out.below hb5 HEa.out.lt)
      have HC5 := hideIt (HCa.out.below hb5)
      have HB5 := hideIt (HBa.out.trans (hb5.mono HBa.out.size))
      have l0 := (hb5.cell (p := ⟨wr.heap.size, 0, none⟩) (by simp)).trans hL0.out
      have l1 := (hb5.cell (p := ⟨wr.heap.size, 1, none⟩) (by simp)).trans hL1.out
      clear hb5 HBt hL0 hL1 HEa HCa HBa HX c0 c1 e0 e1
      rcases two (bet (m, g) (p, f)) with hbt | hbt
      · rw [hbt] at HSt ⊢
        rw [if_pos rfl] at HSt
        have HSt := hideIt HSt
        have HES := hideIt (HE5.out.set m g)
        have HCS := hideIt (HC5.out.set HFr.out (.int .u8 (m : Nat)) (.bool g))
        have HBS := hideIt ((HB5.out.setCell (p := ⟨w.heap.size + 1, 0, none⟩) (by show w.heap.size ≤ w.heap.size + 1; omega) (.int .u8 (m : Nat))).setCell (p := ⟨w.heap.size + 1, 1, none⟩) (by show w.heap.size ≤ w.heap.size + 1; omega) (.bool g))
        have e0 := HE5.out.c10
        have e1 := HE5.out.c11
        have f0 := HE5.out.f10
        have f1 := HE5.out.f11
        simp only at e0 e1
        go_wp2_with fail
        go_roundw
        case rel => exact ⟨k + 1, by omega, by go_num, by rw [HSt.out]; exact HES.out, HCS.out, HBS.out⟩
        case measure => simp [intOf]; omega
      · rw [hbt] at HSt ⊢
        rw [if_neg (by decide)] at HSt
        have HSt := hideIt HSt
        go_wp2_with fail
        go_roundw
        case rel => exact ⟨k + 1, by omega, by go_num, by rw [HSt.out]; exact HE5.out, HC5.out, HB5.out⟩
        case measure => simp [intOf]; omega
    · have hkl : k = W.length := by omega
      subst hkl
      rw [← hTo.out] at HEr hb256
      obtain ⟨p, f⟩ := T
      have e0 := HEr.out.c10
      have e1 := HEr.out.c11
      have d0 := HEr.out.c00
      have d1 := HEr.out.c01
      have f0 := HEr.out.f00
      have f1 := HEr.out.f01
      simp only at e0 e1
      have HBE := hideIt ((HBr.out.setCell (p := ⟨w.heap.size, 0, none⟩) (Nat.le_refl _) (.int .u8 (p : Nat))).setCell (p := ⟨w.heap.size, 1, none⟩) (Nat.le_refl _) (.bool f))
      rcases two f with hf | hf
      · subst hf
        go_wp2_with fail
        (try simp only [Exit.inBlock, Exit.then])
        refine bodyPost_ret (v := .tuple #[.agg #[.int .u8 (p : Nat), .bool true], .bool true, .nilIface]) ?_ rfl ⟨rfl, HBE.out⟩
        rw [results_cell_tmp2 rfl]
        go_simp
      · subst hf
        by_cases hq : pol = 1
        · have hd : Hid (decide (pol = 1) = true) := decide_eq_true hq
          have hq2 : (pol == 1) = true := by rw [beq_iff_eq]; exact hq
          clear hq
          go_wp2_with fail
          (try simp only [Exit.inBlock, Exit.then])
          refine bodyPost_ret (v := .tuple #[.agg #[.int .u8 (p : Nat), .bool false], .bool true, .nilIface]) ?_ rfl ⟨by rw [hd.out], HBE.out⟩
          rw [results_cell_tmp2 rfl]
          go_simp
        · have hd : Hid (decide (pol = 1) = false) := decide_eq_false hq
          have hq2 : (pol == 1) = false := by rw [beq_eq_false_iff_ne]; exact hq
          clear hq
          go_wp2_with fail
          (try simp only [Exit.inBlock, Exit.then])
          refine bodyPost_ret (v := .tuple #[.agg #[.int .u8 (p : Nat), .bool false], .bool false, .nilIface]) ?_ rfl ⟨by rw [hd.out], HBE.out⟩
          rw [results_cell_tmp2 rfl]
          go_simp
end Go.Proofs.Ytlpogejkmigimaa
