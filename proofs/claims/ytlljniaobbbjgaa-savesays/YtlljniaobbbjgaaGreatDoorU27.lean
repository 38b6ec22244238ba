/- VSS -/
import Derived.Test.YtlljniaobbbjgaaGreatDoorU10
import Derived.Test.YtlljniaobbbjgaaGreatDoorU6
import Derived.Test.YtlljniaobbbjgaaGreatDoorU12
import Derived.Test.YtlljniaobbbjgaaGreatDoorU26
namespace Go.Proofs.YtlljniaobbbjgaaGreatDoor
open Go.RowKit Go.Shelf
open Qos (Nd Ct Pd nd ct pd podF)
open Sv (Gv Hd gv hd wd Tx sumTxt heldTxt heldF body readS OkL)
open S1 (Mx Tab)
theorem podFaultIs : PodFaultIs := fun p cv w h => podFault_any p cv w h
set_option maxHeartbeats 400000 in
theorem same_zeroV (w : World) : Calls Tryz.prog 10 #[.nilIface, .int .i64 0] w fun e w' => e = .returned (.bool true) ∧ w' = w := by
  go_enter Tryz.func10, Tryz.ntmps10
  go_wp2_with fail
  go_ret
  exact ⟨rfl, rfl⟩
set_option maxRecDepth 100000 in
set_option maxHeartbeats 400000 in
theorem same_posV (f : Int) (w : World) (h : 0 < f) : Calls Tryz.prog 10 #[.iface 80 (.int .i64 f), .int .i64 f] w fun e w' => e = .returned (.bool true) ∧ w' = w := by
  have hta := run_assertN f
  go_enter Tryz.func10, Tryz.ntmps10
  go_wp2_with fail
  go_ret
  exact ⟨rfl, rfl⟩
/-- What 'saves' holds. -/
def hs0 : List Hd := [⟨⟨⟨#[97]⟩, 0, [⟨⟨#[120]⟩, 0, 0, 0, 0, []⟩]⟩, [⟨3, []⟩]⟩]
theorem hs0_f : heldF hs0 = 0 := by decide +kernel
theorem hs0_ok : OkL hs0 := Sv.okL_of hs0_f (fun h hh g hg => by
  simp [hs0] at hh; subst hh; simp at hg; subst hg; decide)
theorem hs0_len : (heldTxt hs0).length ≤ 6000 := by
  have h1 := Sv.sumTxt_le (body hs0)
  have h : heldTxt hs0 = body hs0 ++ sumTxt (body hs0) := rfl
  have ok := hs0_ok.2 (hd hs0 0) (Sv.mem_hd (by decide))
  have h2 := Sv.podLine_le ok.1
  have h3 := Sv.okC_at ok (k := 0) (by decide)
  have h4 := Sv.contLine_le h3.1 h3.2
  have e : body hs0 = [] ++ (Sv.podLine (hd hs0 0).pod ++ ([] ++ Sv.contLine (ct (hd hs0 0).pod.cs 0) (gv (hd hs0 0).gs 0))) := rfl
  have h5 : (body hs0).length = (Sv.podLine (hd hs0 0).pod).length + (Sv.contLine (ct (hd hs0 0).pod.cs 0) (gv (hd hs0 0).gs 0)).length := by rw [e]; simp
  rw [h, List.length_append]; omega
theorem needs_nil (w : World) : NeedsAt w (.slice none 0 0) [] := ⟨none, 0, rfl, by unfold maxLen; simp, fun h => by simp at h⟩
theorem ints_nil (w : World) : IntsOf w (.slice none 0 0) [] := ⟨none, 0, rfl, ⟨Nat.le_refl _, by unfold maxLen; omega⟩, fun h => by simp at h⟩
theorem made_cellV (W : World) (cs : Array Value) (t : TypeId) {n : Nat} (hn : n = W.heap.size) (j : Nat) : (W.alloc (.cells cs t)).cell? ⟨n, j, none⟩ = cs[j]? := by subst hn; simp
structure H0At (w : World) (a b c : Nat) : Prop where
  h1 : a < w.heap.size
  h2 : b < w.heap.size
  h3 : c < w.heap.size
  ha : ∀ j, j < 6 → w.cell? ⟨a, j, none⟩ = (contCells ⟨⟨#[120]⟩, 0, 0, 0, 0, []⟩ (.slice none 0 0))[j]?
  hb0 : w.cell? ⟨b, 0, none⟩ = some (.int .u64 3)
  hb1 : w.cell? ⟨b, 1, none⟩ = some (.slice none 0 0)
  hc0 : w.cell? ⟨c, 0, none⟩ = some (.string ⟨#[97]⟩)
  hc1 : w.cell? ⟨c, 1, none⟩ = some (.int .i64 0)
  hc2 : w.cell? ⟨c, 2, none⟩ = some (.slice (some ⟨a, 0, none⟩) 1 1)
  hc3 : w.cell? ⟨c, 3, none⟩ = some (.slice (some ⟨b, 0, none⟩) 1 1)
theorem H0At.grown {w w' : World} {a b c B : Nat} (h : H0At w a b c) (hg : w.grownBy w' (some B)) (ha : a ≠ B) (hb : b ≠ B) (hc : c ≠ B) : H0At w' a b c := by
  have e : ∀ k, k < w.heap.size → k ≠ B → w'.heap[k]? = w.heap[k]? := fun k hk hn => hg.block k hk (fun h => hn (Option.some.inj h))
  have ea := e a h.h1 ha
  have eb := e b h.h2 hb
  have ec := e c h.h3 hc
  exact ⟨Nat.lt_of_lt_of_le h.h1 hg.size, Nat.lt_of_lt_of_le h.h2 hg.size, Nat.lt_of_lt_of_le h.h3 hg.size, fun j hj => (World.cell?_of_block (a := ⟨a, j, none⟩) ea).trans (h.ha j hj), (World.cell?_of_block (a := ⟨b, 0, none⟩) eb).trans h.hb0, (World.cell?_of_block (a := ⟨b, 1, none⟩) eb).trans h.hb1,
    (World.cell?_of_block (a := ⟨c, 0, none⟩) ec).trans h.hc0, (World.cell?_of_block (a := ⟨c, 1, none⟩) ec).trans h.hc1, (World.cell?_of_block (a := ⟨c, 2, none⟩) ec).trans h.hc2, (World.cell?_of_block (a := ⟨c, 3, none⟩) ec).trans h.hc3⟩
theorem H0At.at {w : World} {a b c : Nat} (h : H0At w a b c) : HldsAt w (.slice (some ⟨c, 0, none⟩) 1 1) hs0 := by
  obtain ⟨h1, h2, h3, ha, hb0, hb1, hc0, hc1, hc2, hc3⟩ := h
  refine ⟨_, 1, rfl, ⟨Nat.le_refl _, by unfold maxLen; omega⟩, fun _ => ⟨c, 0, fun _ => .slice (some ⟨a, 0, none⟩) 1 1, fun _ => .slice (some ⟨b, 0, none⟩) 1 1, rfl, h3, fun k hk => ?_⟩⟩
  obtain rfl : k = 0 := by simp [hs0] at hk; exact hk
  refine ⟨⟨hc0, hc1, hc2, hc3⟩, ⟨_, 1, rfl, ⟨Nat.le_refl _, by unfold maxLen; omega⟩, fun _ => ⟨a, 0, fun _ => .slice none 0 0, rfl, h1, fun k hk => ?_⟩⟩, ⟨_, 1, rfl, ⟨Nat.le_refl _, by unfold maxLen; omega⟩, fun _ => ⟨b, 0, fun _ => .slice none 0 0, rfl, h2, fun k hk => ?_⟩⟩⟩
  · obtain rfl : k = 0 := by simp [hs0, hd] at hk; exact hk
    refine ⟨fun j hj => ?_, needs_nil w⟩
    have := ha j hj
    simpa [hs0, hd, ct] using this
  · obtain rfl : k = 0 := by simp [hs0, hd] at hk; exact hk
    exact ⟨⟨hb0, hb1, by simp [hs0, hd, gv]⟩, ints_nil w⟩
set_option maxRecDepth 100000 in
set_option maxHeartbeats 4000000 in
theorem saves_true (w : World) (ht : TabUp w) (hm : Mx w) : Calls Tryz.prog 6 #[] w fun e w' => e = .returned (.bool true) ∧ Below w.heap.size w w' := by
  have HT := hideIt ht
  have HM := hideIt hm
  clear ht hm
  go_enter Tryz.func6, Tryz.ntmps6
  go_wp2_with fail
  refine (diskNew_any w).mono ?_
  rintro e w1 ⟨rfl, hd1, hb1⟩
  have hA := ((Below.refl w1.heap.size w1).alloc (Nat.le_refl _) (.cells #[.string ⟨#[120]⟩, .int .i64 0, .int .i64 0, .int .i64 0, .int .i64 0, .slice none 0 0] 56))
  have hB := hA.alloc (by simp) (.cells #[.int .u64 3, .slice none 0 0] 64)
  have hC := hB.alloc (by simp <;> omega) (.cells #[.string ⟨#[97]⟩, .int .i64 0, .slice (some ⟨w1.heap.size, 0, none⟩) 1 1, .slice (some ⟨w1.heap.size + 1, 0, none⟩) 1 1] 67)
  have hBC := (Below.refl ((w1.alloc (.cells #[.string ⟨#[120]⟩, .int .i64 0, .int .i64 0, .int .i64 0, .int .i64 0, .slice none 0 0] 56)).alloc (.cells #[.int .u64 3, .slice none 0 0] 64)).heap.size ((w1.alloc (.cells #[.string ⟨#[120]⟩, .int .i64 0, .int .i64 0, .int .i64 0, .int .i64 0, .slice none 0 0] 56)).alloc (.cells #[.int .u64 3, .slice none 0 0] 64))).alloc (Nat.le_refl _) (.cells #[.string ⟨#[97]⟩, .int .i64 0, .slice (some ⟨w1.heap.size, 0, none⟩) 1 1, .slice (some ⟨w1.heap.size + 1, 0, none⟩) 1 1] 67)
  have hAC := ((Below.refl (w1.alloc (.cells #[.string ⟨#[120]⟩, .int .i64 0, .int .i64 0, .int .i64 0, .int .i64 0, .slice none 0 0] 56)).heap.size (w1.alloc (.cells #[.string ⟨#[120]⟩, .int .i64 0, .int .i64 0, .int .i64 0, .int .i64 0, .slice none 0 0] 56))).alloc (Nat.le_refl _) (.cells #[.int .u64 3, .slice none 0 0] 64)).trans (hBC.mono (by simp))
  have szA : (w1.alloc (.cells #[.string ⟨#[120]⟩, .int .i64 0, .int .i64 0, .int .i64 0, .int .i64 0, .slice none 0 0] 56)).heap.size = w1.heap.size + 1 := by simp
  have szB : ((w1.alloc (.cells #[.string ⟨#[120]⟩, .int .i64 0, .int .i64 0, .int .i64 0, .int .i64 0, .slice none 0 0] 56)).alloc (.cells #[.int .u64 3, .slice none 0 0] 64)).heap.size = w1.heap.size + 1 + 1 := by simp
  have szC : (((w1.alloc (.cells #[.string ⟨#[120]⟩, .int .i64 0, .int .i64 0, .int .i64 0, .int .i64 0, .slice none 0 0] 56)).alloc (.cells #[.int .u64 3, .slice none 0 0] 64)).alloc (.cells #[.string ⟨#[97]⟩, .int .i64 0, .slice (some ⟨w1.heap.size, 0, none⟩) 1 1, .slice (some ⟨w1.heap.size + 1, 0, none⟩) 1 1] 67)).heap.size = w1.heap.size + 1 + 1 + 1 := by simp
  have HH := hideIt (show H0At (((w1.alloc (.cells #[.string ⟨#[120]⟩, .int .i64 0, .int .i64 0, .int .i64 0, .int .i64 0, .slice none 0 0] 56)).alloc (.cells #[.int .u64 3, .slice none 0 0] 64)).alloc (.cells #[.string ⟨#[97]⟩, .int .i64 0, .slice (some ⟨w1.heap.size, 0, none⟩) 1 1, .slice (some ⟨w1.heap.size + 1, 0, none⟩) 1 1] 67)) w1.heap.size (w1.heap.size + 1) (w1.heap.size + 1 + 1) from
    ⟨by rw [szC]; omega, by rw [szC]; omega, by rw [szC]; omega,
    fun j hj => (hAC.cell (p := ⟨w1.heap.size, j, none⟩) (by rw [szA]; exact Nat.lt_succ_self _)).trans ((made_cellV w1 _ _ rfl j).trans (by simp [contCells])),
    (hBC.cell (p := ⟨w1.heap.size + 1, 0, none⟩) (by rw [szB]; exact Nat.lt_succ_self _)).trans (made_cellV _ _ _ szA.symm 0), (hBC.cell (p := ⟨w1.heap.size + 1, 1, none⟩) (by rw [szB]; exact Nat.lt_succ_self _)).trans (made_cellV _ _ _ szA.symm 1),
    made_cellV _ _ _ szB.symm 0, made_cellV _ _ _ szB.symm 1, made_cellV _ _ _ szB.symm 2, made_cellV _ _ _ szB.symm 3⟩)
  clear hBC hAC szA szB szC
  have HB := hideIt (hb1.trans (hC.mono hb1.size))
  have HD := hideIt (hd1.below hC)
  have hlt := hd1.lt
  clear hA hB hC hd1 hb1
  go_wp2_with fail
  generalize (((w1.alloc (.cells #[.string ⟨#[120]⟩, .int .i64 0, .int .i64 0, .int .i64 0, .int .i64 0, .slice none 0 0] 56)).alloc (.cells #[.int .u64 3, .slice none 0 0] 64)).alloc (.cells #[.string ⟨#[97]⟩, .int .i64 0, .slice (some ⟨w1.heap.size, 0, none⟩) 1 1, .slice (some ⟨w1.heap.size + 1, 0, none⟩) 1 1] 67)) = W at *
  have HSA := hideIt (save_any w.heap.size Dk.fresh _ hs0 W HD.out (.inl rfl) HH.out.at (HT.out.below HB.out))
  have HZ := hideIt (save_zero (s := Dk.fresh) HH.out.at.cps (save_calm (by decide) rfl hs0_f hs0_len))
  have h0 : (Dk.fresh.save hs0).1 = 0 := save_calm (by decide) rfl hs0_f hs0_len
  rw [h0] at HSA
  generalize (Dk.fresh.save hs0).2 = s at *
  clear h0 HD
  refine HSA.out.mono ?_
  rintro e w2 ⟨rfl, hd2, hg2⟩
  clear HSA
  have HV := hideIt (HH.out.grown hg2 (by omega) (by omega) (by omega)).at
  have HB2 := hideIt (below_of_grown HB.out hg2 (Nat.le_refl _) HB.out.size)
  have HD2 := hideIt hd2
  clear hg2 hd2 HB HH
  go_wp2_with fail
  refine (load_any w.heap.size s w2 HD2.out HZ.out.1.size (HT.out.below HB2.out) (HM.out.below HB2.out)).mono ?_
  rintro e w3 ⟨v, rfl, hv, hb3⟩
  rw [HZ.out.1.load] at hv ⊢
  obtain ⟨va, vc, rfl, _, _⟩ := id hv
  have HX := hideIt hv
  have HY := hideIt (HV.out.below hb3)
  have HB3 := hideIt (HB2.out.trans (hb3.mono HB2.out.size))
  clear hv hb3 HB2 HD2 HV
  go_wp2_with fail
  refine (same_zeroV w3).mono ?_
  rintro e w4 ⟨rfl, rfl⟩
  go_wp2_with fail
  refine (same_zeroV _).mono ?_
  rintro e w5 ⟨rfl, rfl⟩
  go_wp2_with fail
  refine (sameHeld_any _ _ hs0 hs0 _ HX.out HY.out).mono ?_
  rintro e w6 ⟨b, rfl, hbt, hb6⟩
  obtain rfl := hbt rfl
  have HB6 := hideIt (HB3.out.trans (hb6.mono HB3.out.size))
  clear hb6
  go_wp2_with fail
  go_ret
  exact ⟨rfl, HB6.out⟩
theorem save_long {hs : List Hd} (hf : heldF hs = 0) (hl : 6000 < (heldTxt hs).length) : (Dk.fresh.save hs).1 = 2 := by
  have h0 : Dk.fresh.err ⟨(heldTxt hs).toArray⟩ 0 = 2 := by
    show (Dk.write Dk.fresh _).1 = 2
    unfold Dk.write
    rw [if_pos (by simpa [ByteArray.size] using hl)]
  unfold Dk.save
  rw [if_pos hf, Dk.from_no (by decide) (by rw [h0]; decide)]
  exact h0
theorem errV_at {f : Nat} (h : f ≠ 0) : errV ((f : Nat) : Int) = .iface 80 (.int .i64 f) := by
  rcases errV_two f with ⟨h0, _⟩ | ⟨_, e⟩
  · exact absurd h0 h
  · exact e
theorem heldFault_zero (v : Value) (hs : List Hd) (w : World) (h : HldsAt w v hs) (hf : heldF hs = 0) : Calls Tryz.prog 8 #[v] w fun e w' => e = .returned (.int .i64 0) ∧ Below w.heap.size w w' := by
  have := heldFault_of podFaultIs v hs w h
  rw [hf] at this
  exact this
theorem check_zero (v : Value) (hs : List Hd) (w : World) (h : HldsAt w v hs) (hf : heldF hs = 0) : Calls Tryz.prog 11 #[v] w fun e w' => e = .returned .nilIface ∧ Below w.heap.size w w' := by
  have := saveCheck_any v hs w h
  rw [hf] at this
  exact this
theorem check_pos (v : Value) (hs : List Hd) (w : World) (h : HldsAt w v hs) (hf : heldF hs ≠ 0) : Calls Tryz.prog 11 #[v] w fun e w' => e = .returned (.iface 80 (.int .i64 (heldF hs : Nat))) ∧ Below w.heap.size w w' := by
  have := saveCheck_any v hs w h
  rw [errV_at hf] at this
  exact this
theorem text_zero (v : Value) (hs : List Hd) (w : World) (h : HldsAt w v hs) (ht : TabUp w) (hf : heldF hs = 0) : Calls Tryz.prog 9 #[v] w fun e w' => e = .returned (.tuple #[.string ⟨(heldTxt hs).toArray⟩, .nilIface]) ∧ Below w.heap.size w w' := by
  have := text_any v hs w h ht
  unfold textV at this
  rw [if_pos hf] at this
  exact this
theorem text_pos (v : Value) (hs : List Hd) (w : World) (h : HldsAt w v hs) (ht : TabUp w) (hf : heldF hs ≠ 0) : Calls Tryz.prog 9 #[v] w fun e w' => e = .returned (.tuple #[.string ⟨#[]⟩, .iface 80 (.int .i64 (heldF hs : Nat))]) ∧ Below w.heap.size w w' := by
  have := text_any v hs w h ht
  unfold textV at this
  rw [if_neg hf, errV_at hf] at this
  exact this
theorem load_fresh (B : Nat) (w : World) (h : DkAt w B Dk.fresh) (ht : TabUp w) (hm : Mx w) : Calls Tryz.prog 14 #[.pointer (some ⟨B, 0, none⟩)] w fun e w' => ∃ a c, e = .returned (.tuple #[.slice a 0 c, .nilIface]) ∧ Below w.heap.size w w' := by
  refine (load_any B Dk.fresh w h (by decide) ht hm).mono ?_
  rintro e w' ⟨v, rfl, hv, hb⟩
  obtain ⟨a, c, rfl, _, _⟩ := id hv
  exact ⟨a, c, rfl, hb⟩
set_option maxRecDepth 100000 in
set_option maxHeartbeats 8000000 in
theorem saveSays_true (v : Value) (hs : List Hd) (w : World) (h : HldsAt w v hs) (ht : TabUp w) (hm : Mx w) :
    Calls Tryz.prog 3 #[v] w fun e w' => e = .returned (.bool true) ∧ Below w.heap.size w w' := by
  have HT := hideIt ht
  have HM := hideIt hm
  have HV := hideIt h
  obtain ⟨a1, c1, rfl, m1, _⟩ := h
  clear ht hm m1
  go_enter Tryz.func3, Tryz.ntmps3
  go_wp2_with fail
  refine (saves_true w HT.out HM.out).mono ?_
  rintro e w1 ⟨rfl, hb1⟩
  have HB1 := hideIt hb1
  clear hb1
  go_wp2_with fail
  refine (lightHeld_any _ hs w1 (HV.out.below HB1.out)).mono ?_
  rintro e w2 ⟨⟨lb, rfl⟩, hb2⟩
  have HB2 := hideIt (HB1.out.trans (hb2.mono HB1.out.size))
  clear hb2 HB1
  cases lb with
  | false =>
    go_wp2_with fail
    go_ret
    exact ⟨rfl, HB2.out⟩
  | true =>
    by_cases hf : heldF hs = 0
    · have HF := hideIt hf
      clear hf
      go_wp2_with fail
      refine (heldFault_zero _ hs w2 (HV.out.below HB2.out) HF.out).mono ?_
      rintro e w3 ⟨rfl, hb3⟩
      have HB3 := hideIt (HB2.out.trans (hb3.mono HB2.out.size))
      clear hb3 HB2
      go_wp2_with fail
      refine (text_zero _ hs w3 (HV.out.below HB3.out) (HT.out.below HB3.out) HF.out).mono ?_
      rintro e w4 ⟨rfl, hb4⟩
      have HB4 := hideIt (HB3.out.trans (hb4.mono HB3.out.size))
      clear hb4 HB3
      go_wp2_with fail
      refine (check_zero _ hs w4 (HV.out.below HB4.out) HF.out).mono ?_
      rintro e w5 ⟨rfl, hb5⟩
      have HB5 := hideIt (HB4.out.trans (hb5.mono HB4.out.size))
      clear hb5 HB4
      go_wp2_with fail
      refine (same_zeroV w5).mono ?_
      rintro e w6 ⟨rfl, rfl⟩
      go_wp2_with fail
      refine (same_zeroV _).mono ?_
      rintro e w7 ⟨rfl, rfl⟩
      go_wp2_with fail
      refine (heldText_any _ hs _ (HV.out.below HB5.out) (Sv.okL_of HF.out HV.out.cps)).mono ?_
      rintro e w8 ⟨rfl, hb8⟩
      have HB8 := hideIt (HB5.out.trans (hb8.mono HB5.out.size))
      clear hb8 HB5
      go_wp2_with fail
      refine (diskNew_any w8).mono ?_
      rintro e w9 ⟨rfl, hd9, hb9⟩
      have HD9 := hideIt hd9
      have HBB := hideIt HB8.out.size
      have HB9 := hideIt (HB8.out.trans (hb9.mono HB8.out.size))
      clear hb9 HB8 hd9
      generalize w8.heap.size = B at *
      go_wp2_with fail
      refine (load_fresh B w9 HD9.out (HT.out.below HB9.out) (HM.out.below HB9.out)).mono ?_
      rintro e w10 ⟨xa, xc, rfl, hb10⟩
      have HB10 := hideIt (HB9.out.trans (hb10.mono HB9.out.size))
      have HD10 := hideIt (HD9.out.below hb10)
      clear hb10 HB9 HD9
      by_cases hl : (heldTxt hs).length ≤ 6000
      · have hl' : ¬ 6000 < (heldTxt hs).length := by omega
        have h0 : (Dk.fresh.save hs).1 = 0 := save_calm (by decide) rfl HF.out hl
        have HSA := hideIt (save_any B Dk.fresh _ hs w10 HD10.out (.inl rfl) (HV.out.below HB10.out) (HT.out.below HB10.out))
        have HZ := hideIt (save_zero (s := Dk.fresh) HV.out.cps h0).1
        have HPA := hideIt (Sv.parseS_text (Sv.okL_of HF.out HV.out.cps) HF.out hl)
        rw [h0] at HSA
        generalize (Dk.fresh.save hs).2 = s at *
        generalize heldTxt hs = tx at *
        clear h0
        go_wp2_with fail
        refine HSA.out.mono ?_
        rintro e w11 ⟨rfl, hd11, hg11⟩
        have HD11 := hideIt hd11
        have HB11 := hideIt (below_of_grown HB10.out hg11 HBB.out HB10.out.size)
        clear hd11 hg11 HSA HD10 HB10
        go_wp2_with fail
        refine (load_any B s w11 HD11.out HZ.out.size (HT.out.below HB11.out) (HM.out.below HB11.out)).mono ?_
        rintro e w12 ⟨v, rfl, hv, hb12⟩
        rw [HZ.out.load] at hv ⊢
        obtain ⟨va, vc, rfl, _, _⟩ := id hv
        have HX := hideIt hv
        have HB12 := hideIt (HB11.out.trans (hb12.mono HB11.out.size))
        clear hv hb12 HB11 HD11
        go_wp2_with fail
        refine (parse_any tx w12 (by omega) (HT.out.below HB12.out) (HM.out.below HB12.out)).mono ?_
        rintro e w13 ⟨v, rfl, hv, hb13⟩
        rw [HPA.out] at hv ⊢
        obtain ⟨ya, yc, rfl, _, _⟩ := id hv
        have HY := hideIt hv
        have HX2 := hideIt (HX.out.below hb13)
        have HB13 := hideIt (HB12.out.trans (hb13.mono HB12.out.size))
        clear hv hb13 HB12 HX
        go_wp2_with fail
        refine (same_zeroV w13).mono ?_
        rintro e w14 ⟨rfl, rfl⟩
        go_wp2_with fail
        refine (same_zeroV _).mono ?_
        rintro e w15 ⟨rfl, rfl⟩
        go_wp2_with fail
        refine (same_zeroV _).mono ?_
        rintro e w16 ⟨rfl, rfl⟩
        go_wp2_with fail
        refine (sameHeld_any _ _ hs hs _ HX2.out (HV.out.below HB13.out)).mono ?_
        rintro e w17 ⟨b1, rfl, hbt, hb17⟩
        obtain rfl := hbt rfl
        have HY2 := hideIt (HY.out.below hb17)
        have HB17 := hideIt (HB13.out.trans (hb17.mono HB13.out.size))
        clear hb17 HB13 HY hbt
        go_wp2_with fail
        refine (sameHeld_any _ _ hs hs _ HY2.out (HV.out.below HB17.out)).mono ?_
        rintro e w18 ⟨b2, rfl, hbt, hb18⟩
        obtain rfl := hbt rfl
        have HB18 := hideIt (HB17.out.trans (hb18.mono HB17.out.size))
        clear hb18
        go_wp2_with fail
        go_ret
        exact ⟨rfl, HB18.out⟩
      · have hl' : 6000 < (heldTxt hs).length := by omega
        have h0 : (Dk.fresh.save hs).1 = 2 := save_long HF.out hl'
        have HSA := hideIt (save_any B Dk.fresh _ hs w10 HD10.out (.inl rfl) (HV.out.below HB10.out) (HT.out.below HB10.out))
        rw [h0, errV_at (by decide)] at HSA
        generalize (Dk.fresh.save hs).2 = s at *
        generalize heldTxt hs = tx at *
        clear h0 hl
        go_wp2_with fail
        refine HSA.out.mono ?_
        rintro e w11 ⟨rfl, hd11, hg11⟩
        have HB11 := hideIt (below_of_grown HB10.out hg11 HBB.out HB10.out.size)
        clear hd11 hg11 HSA HD10 HB10
        go_wp2_with fail
        refine (same_posV 2 w11 (by decide)).mono ?_
        rintro e w12 ⟨rfl, rfl⟩
        go_wp2_with fail
        go_ret
        exact ⟨rfl, HB11.out⟩
    · have HF := hideIt hf
      have HHF := hideIt (heldFault_of podFaultIs _ hs w2 (HV.out.below HB2.out))
      have HTX := hideIt (fun W hb => text_pos _ hs W (HV.out.below hb) (HT.out.below hb) hf)
      have HCK := hideIt (fun W hb => check_pos _ hs W (HV.out.below hb) hf)
      have HSV := hideIt (fun B W hD hb => save_any B Dk.fresh _ hs W hD (.inl rfl) (HV.out.below hb) (HT.out.below hb))
      have e0 : (Dk.fresh.save hs).1 = heldF hs := by unfold Dk.save; rw [if_neg hf]
      rw [e0, errV_at hf] at HSV
      clear e0
      generalize (Dk.fresh.save hs).2 = s at *
      have hp : 0 < heldF hs := by omega
      clear hf
      generalize heldF hs = f at *
      have hq : decide ((0 : Int) < (f : Int)) = true := decide_eq_true (by omega)
      have hr : ((f : Int) == 0) = false := by simp; omega
      have hr' : ¬ ((f : Int) = 0) := by omega
      go_wp2_with fail
      refine HHF.out.mono ?_
      rintro e w3 ⟨rfl, hb3⟩
      have HB3 := hideIt (HB2.out.trans (hb3.mono HB2.out.size))
      clear hb3 HB2
      go_wp2_with fail
      refine (HTX.out w3 HB3.out).mono ?_
      rintro e w4 ⟨rfl, hb4⟩
      have HB4 := hideIt (HB3.out.trans (hb4.mono HB3.out.size))
      clear hb4 HB3
      go_wp2_with fail
      refine (HCK.out w4 HB4.out).mono ?_
      rintro e w5 ⟨rfl, hb5⟩
      have HB5 := hideIt (HB4.out.trans (hb5.mono HB4.out.size))
      clear hb5 HB4
      go_wp2_with fail
      refine (same_posV f w5 (by omega)).mono ?_
      rintro e w6 ⟨rfl, rfl⟩
      go_wp2_with fail
      refine (same_posV f _ (by omega)).mono ?_
      rintro e w7 ⟨rfl, rfl⟩
      go_wp2_with fail
      refine (diskNew_any _).mono ?_
      rintro e w9 ⟨rfl, hd9, hb9⟩
      have HD9 := hideIt hd9
      have HBB := hideIt HB5.out.size
      have HB9 := hideIt (HB5.out.trans (hb9.mono HB5.out.size))
      clear hb9 HB5 hd9
      generalize w7.heap.size = B at *
      go_wp2_with fail
      refine (load_fresh B w9 HD9.out (HT.out.below HB9.out) (HM.out.below HB9.out)).mono ?_
      rintro e w10 ⟨xa, xc, rfl, hb10⟩
      have HB10 := hideIt (HB9.out.trans (hb10.mono HB9.out.size))
      have HD10 := hideIt (HD9.out.below hb10)
      clear hb10 HB9 HD9
      go_wp2_with fail
      refine (HSV.out B w10 HD10.out HB10.out).mono ?_
      rintro e w11 ⟨rfl, hd11, hg11⟩
      have HB11 := hideIt (below_of_grown HB10.out hg11 HBB.out HB10.out.size)
      clear hd11 hg11 HSV HD10 HB10
      go_wp2_with fail
      refine (same_posV f w11 (by omega)).mono ?_
      rintro e w12 ⟨rfl, rfl⟩
      go_wp2_with fail
      go_ret
      exact ⟨rfl, HB11.out⟩
end Go.Proofs.YtlljniaobbbjgaaGreatDoor
