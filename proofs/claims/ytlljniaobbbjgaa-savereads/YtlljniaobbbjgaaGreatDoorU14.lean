/- VY4, VY5, VY6 -/
import Derived.Test.YtlljniaobbbjgaaGreatDoorU13
import Derived.Test.YtlljniaobbbjgaaGreatDoorU5
namespace Go.Proofs.YtlljniaobbbjgaaGreatDoor
open Go.RowKit Go.Shelf
open Ost (splitC)
open Qos (Nd Ct Pd nd)
open Sv (Gv wd)
attribute [local go_sem] Oper.semAt_some
set_option maxRecDepth 100000 in
set_option maxHeartbeats 400000 in
theorem readSet_manyV (s : ByteArray) (w : World) (hs : 300 < s.size) (hs2 : s.size ≤ maxLen) :
    Calls Tryz.prog 74 #[.string s] w fun e w' => e = .returned (S1.setNum (0, 2)) ∧ Below w.heap.size w w' := by
  unfold maxLen at hs2
  go_enter Tryz.func74, Tryz.ntmps74
  go_wp2_with fail
  go_ret2
  exact ⟨rfl, Below.refl _ _⟩
set_option maxRecDepth 100000 in
set_option maxHeartbeats 400000 in
theorem readSet_noneV (w : World) :
    Calls Tryz.prog 74 #[.string ⟨#[]⟩] w fun e w' => e = .returned (S1.setNum (0, 0)) ∧ Below w.heap.size w w' := by
  go_enter Tryz.func74, Tryz.ntmps74
  go_wp2_with fail
  go_ret2
  exact ⟨rfl, Below.refl _ _⟩
theorem readSet_cV (l : List UInt8) (p : Nat) (f : Int) (w : World) (hs2 : l.length ≤ 10000) (h : Ost.parseOut l = (p, f)) :
    Calls Tryz.prog 74 #[.string ⟨l.toArray⟩] w fun e w' => e = .returned (.tuple #[.int .u64 (p : Nat), .int .i64 f]) ∧ Below w.heap.size w w' := by
  have hz : (ByteArray.mk l.toArray).size = l.length := by simp [ByteArray.size]
  have hd : (ByteArray.mk l.toArray).data.toList = l := by simp
  have key : Calls Tryz.prog 74 #[.string ⟨l.toArray⟩] w fun e w' => e = .returned (S1.setNum (Ost.parseOut l)) ∧ Below w.heap.size w w' := by
    by_cases h1 : 300 < l.length
    · have := readSet_manyV ⟨l.toArray⟩ w (by omega) (by unfold maxLen; omega)
      rw [show ((0, 2) : Nat × Int) = Ost.parseOut l by unfold Ost.parseOut; rw [if_pos h1]] at this
      exact this
    · by_cases h0 : l.length = 0
      · have he : l = [] := List.length_eq_zero_iff.1 h0
        subst he
        exact readSet_noneV w
      · have := S1.readSet_walk ⟨l.toArray⟩ w (by omega) (by omega)
        rw [hd] at this
        exact this
  rw [h] at key; exact key
/-- What reading the processors leaves. -/
def ReadsCpus (W : World) (v : Value) (B : Nat) (l : List UInt8) (ok : Bool) : Act → World → Prop := FrV (frC v B (ok && cgOf l)) fun _ W' =>
  W'.heap[B + 3]? = some (.cells #[.int .u64 (cpOf l : Nat), .slice none 0 0] 64 (0, 0)) ∧ Apart (fun j => j = B + 3) W W'
set_option maxRecDepth 100000 in
set_option maxHeartbeats 8000000 in
theorem piece7_any (bw wc B : Nat) (l : List UInt8) (ok : Bool) (W : World) (F : Nat → Value) (hg : W.heap[B + 3]? = some (.cells #[.int .u64 0, .slice none 0 0] 64 (0, 0))) (hcl : W.cell? ⟨bw, 7, none⟩ = some (.string ⟨l.toArray⟩)) (hl : l.length ≤ 10000) :
    Code.wp Tryz.prog (pieceC 9) (NormalAtV (ReadsCpus W (.slice (some ⟨bw, 0, none⟩) 9 wc) B l ok)) (frC (.slice (some ⟨bw, 0, none⟩) 9 wc) B ok F) W := by
  generalize HF : (NormalAtV (ReadsCpus W (.slice (some ⟨bw, 0, none⟩) 9 wc) B l ok)) = Q
  unfold frC
  unfold pieceC
  simp only [Tryz.f49, Option.map, Option.getD, spineV, List.getD, List.getElem?_cons_succ, List.getElem?_cons_zero]
  have hlt3 : B + 3 < W.heap.size := (Array.getElem?_eq_some_iff.1 hg).1
  by_cases h45 : l = [45]
  · have hq2 : (l == [45]) = true := by simp [h45]
    have HL : Hid (cgOf l = true ∧ cpOf l = 0) := by unfold Hid cgOf cpOf; simp [h45]
    have HK : Hid (ok = (ok && cgOf l)) := by unfold Hid; rw [HL.out.1]; simp
    clear h45
    go_wp2_with fail
    rw [← HF]
    refine NormalAtV.mk ?_
    unfold ReadsCpus
    rw [HL.out.1, HL.out.2, Bool.and_true]
    exact FrV.mk (by kernel_rfl) ⟨hg, Apart.refl _ _⟩
  · have hq2 : (l == [45]) = false := by simp [h45]
    have HL : Hid (cgOf l = ((Ost.parseOut l).2 == 0) ∧ cpOf l = (Ost.parseOut l).1) := by
      unfold Hid cgOf cpOf
      rw [if_neg h45, decide_eq_false h45]
      refine ⟨?_, rfl⟩
      rw [Bool.false_or]
      by_cases h : (Ost.parseOut l).2 = 0 <;> simp [h]
    have HP := hideIt (readSet_cV l (Ost.parseOut l).1 (Ost.parseOut l).2 W hl rfl)
    clear h45
    generalize (Ost.parseOut l).1 = p at *
    generalize (Ost.parseOut l).2 = f at *
    cases ok
    · go_wp2_with fail
      refine HP.out.mono ?_
      rintro e W1 ⟨rfl, hb1⟩
      have hgB := (hb1.block (B + 3) hlt3).trans hg
      have c0 : W1.cell? ⟨B + 3, 0, none⟩ = some (.int .u64 0) := cell_of_heapV hgB 0
      have f0 := frozen_of_heapV hgB 0
      have HGB := hideIt hgB
      have HB1 := hideIt hb1
      clear hgB hb1 hg
      go_wp2_with fail
      rw [← HF]
      refine NormalAtV.mk ?_
      unfold ReadsCpus
      rw [HL.out.1, HL.out.2]
      exact FrV.mk (by kernel_rfl) ⟨set_heap HGB.out 0 _, (Apart.of_below HB1.out).trans (Apart.setCell (K := fun j => j = B + 3) rfl _ _ _)⟩
    · go_wp2_with fail
      refine HP.out.mono ?_
      rintro e W1 ⟨rfl, hb1⟩
      have hgB := (hb1.block (B + 3) hlt3).trans hg
      have c0 : W1.cell? ⟨B + 3, 0, none⟩ = some (.int .u64 0) := cell_of_heapV hgB 0
      have f0 := frozen_of_heapV hgB 0
      have HGB := hideIt hgB
      have HB1 := hideIt hb1
      clear hgB hb1 hg
      go_wp2_with fail
      rw [← HF]
      refine NormalAtV.mk ?_
      unfold ReadsCpus
      rw [HL.out.1, HL.out.2]
      exact FrV.mk (by kernel_rfl) ⟨set_heap HGB.out 0 _, (Apart.of_below HB1.out).trans (Apart.setCell (K := fun j => j = B + 3) rfl _ _ _)⟩
end Go.Proofs.YtlljniaobbbjgaaGreatDoor

namespace Go.Proofs.YtlljniaobbbjgaaGreatDoor
open Go.RowKit Go.Shelf
open Ost (splitC)
open Qos (Nd Ct Pd nd)
open Sv (Gv wd)
attribute [local go_sem] Oper.semAt_some
def twoR (l : List UInt8) : Bool := decide ((splitC 58 l).length = 2)
def g2R (l : List UInt8) : Bool := gR (wd (splitC 58 l) 1)
def ndR (l : List UInt8) : Nd := ⟨⟨(wd (splitC 58 l) 0).toArray⟩, nR (wd (splitC 58 l) 1)⟩
theorem needR_n (l : List UInt8) : Sv.needR l = if (twoR l && g2R l) = true then some (ndR l) else none := by
  unfold Sv.needR twoR g2R ndR
  by_cases h : (splitC 58 l).length = 2
  · rw [if_pos h, numR_n, decide_eq_true h]
    cases gR (wd (splitC 58 l) 1) <;> rfl
  · rw [if_neg h, decide_eq_false h]; rfl
def ndsR (ps : List (List UInt8)) (k : Nat) : List Nd := (ps.take k).map ndR
theorem ndsR_next {ps : List (List UInt8)} {k : Nat} (h : k < ps.length) : ndsR ps (k + 1) = ndsR ps k ++ [ndR (wd ps k)] := by
  unfold ndsR
  rw [List.take_succ_eq_append_getElem h, List.map_append]; simp [wd, h]
theorem ndsR_len {ps : List (List UInt8)} {k : Nat} (h : k ≤ ps.length) : (ndsR ps k).length = k := by unfold ndsR; simp; omega
theorem ndsR_all (ps : List (List UInt8)) : ndsR ps ps.length = ps.map ndR := by unfold ndsR; rw [List.take_length]
theorem all_and (p q : List UInt8 → Bool) (ps : List (List UInt8)) (h : ps.all p = true) : (ps.all fun x => p x && q x) = ps.all q := by
  induction ps with
  | nil => rfl
  | cons x r ih =>
    simp only [List.all_cons, Bool.and_eq_true] at h
    rw [List.all_cons, List.all_cons, ih h.2, h.1, Bool.true_and]
theorem all_bad {p : List UInt8 → Bool} {ps : List (List UInt8)} {k : Nat} (hk : k < ps.length) (h : p (wd ps k) = false) : ps.all p = false := by
  rw [List.all_eq_false]
  exact ⟨wd ps k, wd_mem hk, by rw [h]; decide⟩
/-- What reading the needs leaves, at its end. -/
def ReadsNeedsN (W : World) (v : Value) (B : Nat) (x1 : ByteArray) (a b c d : Int) (l : List UInt8) (ok : Bool) : Act → World → Prop := FrV (frC v B (ok && (Sv.listOf Sv.needR l).isSome)) fun _ W' =>
  ∃ nv, W'.heap[B + 2]? = some (.cells #[.string x1, .int .i64 a, .int .i64 b, .int .i64 c, .int .i64 d, nv] 56 (0, 0)) ∧ Apart (fun j => j = B + 2) W W' ∧ (∃ x n c, nv = .slice x n c ∧ ∀ y, x = some y → W.heap.size ≤ y.block) ∧ ∃ ds, NeedsAt W' nv ds ∧ ∀ ds', Sv.listOf Sv.needR l = some ds' → ds' = ds
/-- What it leaves where it ends all. -/
def ReadsNeedsX (W : World) (v : Value) (B : Nat) (x1 : ByteArray) (a b c d : Int) (l : List UInt8) (act : Act) (W' : World) : Prop :=
  ∃ ok, FrV (frC v B ok) (fun _ W' => ∃ nv, W'.heap[B]? = some (.cells #[.string x1, .int .i64 a, .int .i64 b, .int .i64 c, .int .i64 d, nv] 56 (0, 0)) ∧ W'.heap[B + 1]? = some (.cells #[.int .u64 0, .slice none 0 0] 64 (0, 0)) ∧ Apart (fun j => j = B ∨ j = B + 1 ∨ j = B + 2) W W' ∧ (∃ x n c, nv = .slice x n c ∧ ∀ y, x = some y → W.heap.size ≤ y.block) ∧ Sv.listOf Sv.needR l = none ∧ ∃ ds, NeedsAt W' nv ds) act W'
theorem needs_nilV (w : World) : NeedsAt w (.slice none 0 0) [] := ⟨none, 0, rfl, by unfold maxLen; simp, fun h => by simp at h⟩
theorem row_fresh {W : World} {base : Nat} {e : TypeId} {sz : Nat} {v : Value} {n : Nat} {xs : List Value} (h : W.ownsRow base e sz v n xs) : ∃ x k c, v = .slice x k c ∧ ∀ y, x = some y → base ≤ y.block := by
  rcases h.2 with ⟨h1, _⟩ | ⟨g, cap, cur, h1, hg, _⟩
  · exact ⟨none, 0, 0, h1, fun y hy => by cases hy⟩
  · exact ⟨_, _, _, h1, fun y hy => by cases hy; exact hg⟩
set_option maxRecDepth 100000 in
set_option maxHeartbeats 16000000 in
theorem piece6_any (bw wc B : Nat) (x1 : ByteArray) (a b c d : Int) (l : List UInt8) (ok : Bool) (W : World) (F : Nat → Value)
    (h0 : W.heap[B]? = some (.cells #[.string ⟨#[]⟩, .int .i64 0, .int .i64 0, .int .i64 0, .int .i64 0, .slice none 0 0] 56 (0, 0))) (h1 : W.heap[B + 1]? = some (.cells #[.int .u64 0, .slice none 0 0] 64 (0, 0)))
    (hc : W.heap[B + 2]? = some (.cells #[.string x1, .int .i64 a, .int .i64 b, .int .i64 c, .int .i64 d, .slice none 0 0] 56 (0, 0))) (hg : W.heap[B + 3]? = some (.cells #[.int .u64 0, .slice none 0 0] 64 (0, 0)))
    (hcl : W.cell? ⟨bw, 6, none⟩ = some (.string ⟨l.toArray⟩)) (hl : l.length ≤ 10000) :
    Code.wp Tryz.prog (pieceC 8) (RetOr (ReadsNeedsN W (.slice (some ⟨bw, 0, none⟩) 9 wc) B x1 a b c d l ok) (ReadsNeedsX W (.slice (some ⟨bw, 0, none⟩) 9 wc) B x1 a b c d l)) (frC (.slice (some ⟨bw, 0, none⟩) 9 wc) B ok F) W := by
  generalize HF : (RetOr (ReadsNeedsN W (.slice (some ⟨bw, 0, none⟩) 9 wc) B x1 a b c d l ok) (ReadsNeedsX W (.slice (some ⟨bw, 0, none⟩) 9 wc) B x1 a b c d l)) = Q
  unfold frC
  unfold pieceC
  simp only [Tryz.f49, Option.map, Option.getD, spineV, List.getD, List.getElem?_cons_succ, List.getElem?_cons_zero]
  have hlt3 : B + 3 < W.heap.size := (Array.getElem?_eq_some_iff.1 hg).1
  by_cases h45 : l = [45]
  · have hq2 : (l == [45]) = true := by simp [h45]
    have HL : Hid (Sv.listOf Sv.needR l = some []) := by unfold Hid Sv.listOf; rw [if_pos h45]
    clear h45
    go_wp2_with fail
    rw [← HF]
    show ReadsNeedsN _ _ _ _ _ _ _ _ _ _ _ _
    unfold ReadsNeedsN
    rw [HL.out, Option.isSome_some, Bool.and_true]
    refine FrV.mk (by kernel_rfl) ⟨.slice none 0 0, hc, Apart.refl _ _, ⟨none, 0, 0, rfl, fun y h => by cases h⟩, [], needs_nilV W, fun ds h => ?_⟩
    injection h with h
    exact h.symm
  · have hq2 : (l == [45]) = false := by simp [h45]
    have HL : Hid (Sv.listOf Sv.needR l = if ((splitC 44 l).all fun x => twoR x && g2R x) = true then some ((splitC 44 l).map ndR) else none) := by unfold Hid Sv.listOf; rw [if_neg h45, allOf_if needR_n]
    clear h45
    go_wp2_with fail
    refine (S1.wordsC 44 44 rfl ⟨l.toArray⟩ W (by show l.length ≤ _; omega)).mono ?_
    rintro e W0 ⟨v12, rfl, hrw, hb0⟩
    rw [show (ByteArray.mk l.toArray).data.toList = l by simp] at hrw
    have hp0 : 0 < (splitC 44 l).length := List.length_pos_iff.2 (Ost.splitC_ne 44 l)
    have hpl := S1.splitC_len 44 l
    have HPM : Hid (∀ x ∈ splitC 44 l, x.length ≤ 10000) := fun x hx => by have := S1.splitC_mem 44 l x hx; omega
    generalize splitC 44 l = ps at *
    obtain ⟨g12, c12, rfl, hg12, hst⟩ := strs_atV hrw hp0
    have HST := hideIt hst
    have H0 := hideIt ((hb0.block B (by omega)).trans h0)
    have H1 := hideIt ((hb0.block (B + 1) (by omega)).trans h1)
    have H2 := hideIt ((hb0.block (B + 2) (by omega)).trans hc)
    have H3 := hideIt ((hb0.block (B + 3) hlt3).trans hg)
    have HB0 := hideIt hb0
    have hszW := hb0.size
    clear hrw hst hb0 hcl h0 h1 hc hg
    go_wp2_with fail
    go_loopw [4, 8, 13] (fun o4 o i wr => ∃ (k : Nat) (nv : Value), k ≤ ps.length ∧ i = .int .i64 k ∧ o4 = .bool false ∧ o = .bool (ok && (ps.take k).all g2R) ∧ wr.heap[B + 2]? = some (.cells #[.string x1, .int .i64 a, .int .i64 b, .int .i64 c, .int .i64 d, nv] 56 (0, 0)) ∧ wr.ownsRow W0.heap.size 115 2 nv (ndsR ps k).length (ndsV (ndsR ps k)) ∧ Apart (fun j => j = B + 2) W0 wr ∧ (ps.take k).all twoR = true) (fun _ _ i _ => ps.length - (intOf i).toNat)
    case atStart => exact ⟨0, .slice none 0 0, by omega, rfl, rfl, by simp, H2.out, World.ownsRow_nil _ _ _ _, Apart.refl _ _, by simp⟩
    case round =>
      obtain ⟨k, nv, hk, rfl, rfl, rfl, hck, hrow, hab, htw⟩ := hrel
      by_cases hlt : k < ps.length
      · have hst := strs_kept HST.out hab (by omega)
        have c12 := hst.2 k hlt
        have hxl := HPM.out (wd ps k) (wd_mem hlt)
        have HNX := hideIt (ndsR_next hlt)
        have HAX := hideIt (allR_next (p := g2R) hlt)
        have HTX := hideIt (allR_next (p := twoR) hlt)
        have HBD : Hid (twoR (wd ps k) = false → Sv.listOf Sv.needR l = none) := fun h => by
          rw [HL.out, if_neg]
          rw [all_bad (p := fun x => twoR x && g2R x) hlt (by rw [h]; rfl)]; decide
        have hnl : (ndsR ps k).length ≤ ps.length := by rw [ndsR_len hk]; exact hk
        have hszk := hab.size
        have HCK := hideIt hck
        have HAB := hideIt hab
        have HROW := hideIt hrow
        have HTW := hideIt htw
        have HW2 := hideIt (S1.wordsC 58 58 rfl ⟨(wd ps k).toArray⟩ wr (by show (wd ps k).length ≤ _; omega))
        rw [show (ByteArray.mk (wd ps k).toArray).data.toList = wd ps k by simp] at HW2
        have HD : Hid (twoR (wd ps k) = decide ((splitC 58 (wd ps k)).length = 2) ∧ g2R (wd ps k) = gR (wd (splitC 58 (wd ps k)) 1) ∧ ndR (wd ps k) = ⟨⟨(wd (splitC 58 (wd ps k)) 0).toArray⟩, nR (wd (splitC 58 (wd ps k)) 1)⟩) := ⟨rfl, rfl, rfl⟩
        have hq0 : 0 < (splitC 58 (wd ps k)).length := List.length_pos_iff.2 (Ost.splitC_ne 58 _)
        have HQM : Hid (∀ y ∈ splitC 58 (wd ps k), y.length ≤ 10000) := fun y hy => by have := S1.splitC_mem 58 _ y hy; omega
        clear hst hck hab hrow htw
        generalize twoR (wd ps k) = tx at *
        generalize g2R (wd ps k) = gx at *
        generalize ndR (wd ps k) = nx at *
        generalize splitC 58 (wd ps k) = qs at *
        generalize wd ps k = x at *
        generalize ndsR ps k = ns at *
        generalize hoo : (ok && (ps.take k).all g2R) = oo at *
        have HOO : Hid ((ok && (ps.take (k + 1)).all g2R) = (oo && gx)) := by unfold Hid; rw [HAX.out, ← hoo, Bool.and_assoc]
        clear hoo
        go_wp2_with fail
        refine HW2.out.mono ?_
        rintro e W1 ⟨v14, rfl, hr14, hb1⟩
        obtain ⟨g14, c14, rfl, hg14, hs14⟩ := strs_atV hr14 hq0
        have HS14 := hideIt hs14
        have HB1 := hideIt hb1
        have HC1 := hideIt ((hb1.block (B + 2) (by omega)).trans HCK.out)
        have hsz1 := hb1.size
        clear hr14 hs14 hb1 HW2 HCK
        by_cases hq : qs.length = 2
        · have HTT : Hid (tx = true) := by unfold Hid; rw [HD.out.1]; exact decide_eq_true hq
          have c14a := HS14.out.2 0 (by omega)
          have c14b := HS14.out.2 1 (by omega)
          have hyl := HQM.out (wd qs 1) (wd_mem (by omega))
          have HN := hideIt (number_ref ⟨(wd qs 1).toArray⟩ W1 (by unfold maxLen; show (wd qs 1).length ≤ _; omega))
          rw [show (ByteArray.mk (wd qs 1).toArray).data.toList = wd qs 1 by simp, ← HD.out.2.1] at HN
          have HNN : Hid (nx = ⟨⟨(wd qs 0).toArray⟩, nR (wd qs 1)⟩) := HD.out.2.2
          rw [hq]
          obtain ⟨va, vc, hv⟩ := own_slice HROW.out
          subst hv
          have h0r : W1.cell? ⟨B + 2, 5, none⟩ = some (.slice va ns.length vc) := cell_of_heapV HC1.out 5
          have hfr := frozen_of_heapV HC1.out 5
          have HR1 := hideIt (show W1.ownsRow W0.heap.size 115 2 (.slice va ns.length vc) ns.length (ndsV ns) from (Apart.of_below (K := fun _ => False) HB1.out).row HROW.out (fun j hj => hj.elim))
          have HNE : Hid ((Value.slice va ns.length vc).ownBlock ≠ some (B + 2)) := fun e => by have := (HR1.out.lt (B + 2) e).1; omega
          clear HD HQM hq0 hq
          generalize nR (wd qs 1) = nn at *
          generalize wd qs 1 = y1 at *
          generalize wd qs 0 = y0 at *
          cases oo
          · go_wp2_with fail
            refine HN.out.mono ?_
            rintro e w2 ⟨rfl, rfl⟩
            go_wp2_with fail
            refine wp_normalAtV (contOfR23_in (base := W0.heap.size) w2 h0r hfr c14a HR1.out (by omega) (by omega) (by omega) HNE.out) ?_
            rintro _ W' ⟨F', rfl, g, cap, W2, rfl, hrow2, hgr, _⟩
            dsimp only
            have hap := row_apart HR1.out hgr
            have hcB := (hap.block (B + 2) (by omega) (by omega)).trans HC1.out
            go_wp2_with fail
            go_roundw
            case rel =>
              refine ⟨k + 1, .slice (some ⟨g, 0, none⟩) (ns.length + 1) cap, by omega, by go_num, rfl, by rw [HOO.out]; rfl, set_heap hcB 5 _, ?_, ((HAB.out.next (Apart.of_below (K := fun _ => False) HB1.out) (fun j _ h => h.elim)).next hap (fun j hj h => by omega)).trans (Apart.setCell (K := fun j => j = B + 2) rfl _ _ _), by rw [HTX.out, HTW.out, HTT.out]; rfl⟩
              rw [HNX.out, ndsV_snoc, List.length_append, HNN.out]
              exact (Apart.setCell (K := fun j => j = B + 2) rfl W2 5 _).row hrow2 (fun j hj => by omega)
            case measure => simp [intOf]; omega
          · go_wp2_with fail
            refine HN.out.mono ?_
            rintro e w2 ⟨rfl, rfl⟩
            go_wp2_with fail
            refine wp_normalAtV (contOfR23_in (base := W0.heap.size) w2 h0r hfr c14a HR1.out (by omega) (by omega) (by omega) HNE.out) ?_
            rintro _ W' ⟨F', rfl, g, cap, W2, rfl, hrow2, hgr, _⟩
            dsimp only
            have hap := row_apart HR1.out hgr
            have hcB := (hap.block (B + 2) (by omega) (by omega)).trans HC1.out
            go_wp2_with fail
            go_roundw
            case rel =>
              refine ⟨k + 1, .slice (some ⟨g, 0, none⟩) (ns.length + 1) cap, by omega, by go_num, rfl, by rw [HOO.out]; rfl, set_heap hcB 5 _, ?_, ((HAB.out.next (Apart.of_below (K := fun _ => False) HB1.out) (fun j _ h => h.elim)).next hap (fun j hj h => by omega)).trans (Apart.setCell (K := fun j => j = B + 2) rfl _ _ _), by rw [HTX.out, HTW.out, HTT.out]; rfl⟩
              rw [HNX.out, ndsV_snoc, List.length_append, HNN.out]
              exact (Apart.setCell (K := fun j => j = B + 2) rfl W2 5 _).row hrow2 (fun j hj => by omega)
            case measure => simp [intOf]; omega
        · have HTT : Hid (tx = false) := by unfold Hid; rw [HD.out.1]; exact decide_eq_false hq
          have hq' : ((qs.length : Int) == 2) = false := by simp; omega
          have hq'' : ¬ ((qs.length : Int) = 2) := by omega
          have HNO := hideIt (HBD.out HTT.out)
          have HA1 := hideIt (HAB.out.next (Apart.of_below (K := fun _ => False) HB1.out) (fun j _ h => h.elim))
          have H0' := hideIt ((HA1.out.block B (by omega) (by omega)).trans H0.out)
          have H1' := hideIt ((HA1.out.block (B + 1) (by omega) (by omega)).trans H1.out)
          have H3' := hideIt ((HA1.out.block (B + 3) (by omega) (by omega)).trans H3.out)
          have HNW := hideIt ((needs_of_row HROW.out).below HB1.out)
          obtain ⟨va, vn, vc, hv, hfresh⟩ := row_fresh HROW.out
          subst hv
          have HFR := hideIt hfresh
          clear hfresh
          clear hq
          go_wp2_with fail
          refine wp_normalAtV (contOfR20_in W1 H0'.out H1'.out HC1.out H3'.out) ?_
          rintro _ W2 ⟨F', rfl, k0, k1, hap2⟩
          dsimp only
          go_wp2_with fail
          rw [← HF]
          show ReadsNeedsX _ _ _ _ _ _ _ _ _ _ _
          exact ⟨oo, FrV.mk (by kernel_rfl) ⟨.slice va vn vc, k0, k1, ((Apart.of_below HB0.out).trans (HA1.out.wide fun j h => .inr (.inr h))).trans (hap2.wide fun j h => h.elim .inl fun h => .inr (.inl h)), ⟨_, _, _, rfl, fun y hy => Nat.le_trans hszW (HFR.out y hy)⟩, HNO.out, _, needs_apart (N := W0.heap.size) HNW.out ⟨_, _, _, rfl, HFR.out⟩ hap2 (fun j hj => by omega)⟩⟩
      · have hke : k = ps.length := by omega
        subst hke
        rw [List.take_length] at htw
        have HOK : Hid ((ok && (ps.take ps.length).all g2R) = (ok && (Sv.listOf Sv.needR l).isSome)) := by
          unfold Hid; rw [HL.out, List.take_length, all_and _ _ _ htw]; cases ps.all g2R <;> rfl
        rw [HOK.out]
        go_wp2_with fail
        rw [← HF]
        show ReadsNeedsN _ _ _ _ _ _ _ _ _ _ _ _
        unfold ReadsNeedsN
        refine FrV.mk (by kernel_rfl) ⟨nv, hck, (Apart.of_below HB0.out).trans hab, ?_, ndsR ps ps.length, needs_of_row hrow, fun ds h => ?_⟩
        · obtain ⟨x, n, c, h1, h2⟩ := row_fresh hrow
          exact ⟨x, n, c, h1, fun y hy => Nat.le_trans hszW (h2 y hy)⟩
        · rw [HL.out] at h
          by_cases hall : (ps.all fun x => twoR x && g2R x) = true
          · rw [if_pos hall] at h
            injection h with h
            rw [ndsR_all]; exact h.symm
          · rw [if_neg hall] at h; cases h
end Go.Proofs.YtlljniaobbbjgaaGreatDoor

namespace Go.Proofs.YtlljniaobbbjgaaGreatDoor
open Go.RowKit Go.Shelf
open Ost (splitC)
open Qos (Nd Ct Pd nd)
open Sv (Gv wd)
attribute [local go_sem] Oper.semAt_some
def okA (ws : List (List UInt8)) : Nat → Bool
  | 0 => true
  | k + 1 => okA ws k && gR (wd ws (2 + k))
def nArr (ws : List (List UInt8)) : Nat → Array Value
  | 0 => #[.int .i64 0, .int .i64 0, .int .i64 0, .int .i64 0]
  | k + 1 => (nArr ws k).setIfInBounds k (.int .i64 (nR (wd ws (2 + k))))
theorem nArr_size (ws : List (List UInt8)) (k : Nat) : (nArr ws k).size = 4 := by
  induction k with
  | zero => rfl
  | succ k ih => rw [nArr, Array.size_setIfInBounds, ih]
theorem nArr_four (ws : List (List UInt8)) : nArr ws 4 = #[.int .i64 (nR (wd ws 2)), .int .i64 (nR (wd ws 3)), .int .i64 (nR (wd ws 4)), .int .i64 (nR (wd ws 5))] := rfl
def okR (ws : List (List UInt8)) : Bool := okA ws 4 && (Sv.listOf Sv.needR (wd ws 6)).isSome && cgOf (wd ws 7) && (Sv.listOf Sv.numR (wd ws 8)).isSome
/-- What reading a container leaves. -/
def ReadsContR (w : World) (ws : List (List UInt8)) (e : Ending) (w' : World) : Prop :=
  ∃ nv dv cp ds xs, e = .returned (.tuple #[.agg #[.string ⟨(wd ws 1).toArray⟩, .int .i64 (nR (wd ws 2)), .int .i64 (nR (wd ws 3)), .int .i64 (nR (wd ws 4)), .int .i64 (nR (wd ws 5)), nv], .agg #[.int .u64 (cp : Nat), dv], .bool (okR ws)]) ∧ cp < 18446744073709551616 ∧
    (okR ws = true → Sv.contOf Sv.numR Sv.needR ws = some (⟨⟨(wd ws 1).toArray⟩, nR (wd ws 2), nR (wd ws 3), nR (wd ws 4), nR (wd ws 5), ds⟩, ⟨cp, xs⟩)) ∧ NeedsAt w' nv ds ∧ IntsOf w' dv xs ∧ (∃ a n c, nv = .slice a n c ∧ ∀ x, a = some x → w.heap.size ≤ x.block) ∧ (∃ a n c, dv = .slice a n c ∧ ∀ x, a = some x → w.heap.size ≤ x.block) ∧ Below w.heap.size w w'
theorem contR_yes {ws : List (List UInt8)} {ds : List Nd} {xs : List Int} (h : okR ws = true) (h1 : ∀ ds', Sv.listOf Sv.needR (wd ws 6) = some ds' → ds' = ds) (h2 : ∀ ys, Sv.listOf Sv.numR (wd ws 8) = some ys → ys = xs) :
    Sv.contOf Sv.numR Sv.needR ws = some (⟨⟨(wd ws 1).toArray⟩, nR (wd ws 2), nR (wd ws 3), nR (wd ws 4), nR (wd ws 5), ds⟩, ⟨cpOf (wd ws 7), xs⟩) := by
  simp only [okR, okA, Bool.and_eq_true, Nat.reduceAdd] at h
  obtain ⟨⟨⟨⟨⟨⟨⟨_, a1⟩, a2⟩, a3⟩, a4⟩, h3⟩, a5⟩, h5⟩ := h
  obtain ⟨ds', hd⟩ := Option.isSome_iff_exists.1 h3
  obtain ⟨xs', hx⟩ := Option.isSome_iff_exists.1 h5
  have e1 := h1 ds' hd
  have e2 := h2 xs' hx
  subst e1
  subst e2
  unfold Sv.contOf
  rw [numR_n, numR_n, numR_n, numR_n, a1, a2, a3, a4, hd, hx, cpusOf_n, a5]
  rfl
theorem contR_no {ws : List (List UInt8)} (h : okR ws = false) : Sv.contOf Sv.numR Sv.needR ws = none := by
  unfold Sv.contOf
  simp only [okR, okA, Nat.reduceAdd] at h
  rw [numR_n, numR_n, numR_n, numR_n, cpusOf_n]
  cases g2 : gR (wd ws 2) <;> cases g3 : gR (wd ws 3) <;> cases g4 : gR (wd ws 4) <;> cases g5 : gR (wd ws 5) <;> cases g7 : cgOf (wd ws 7) <;> cases g6 : Sv.listOf Sv.needR (wd ws 6) <;> cases g8 : Sv.listOf Sv.numR (wd ws 8) <;> first | rfl | (simp [g2, g3, g4, g5, g6, g7, g8] at h)
theorem ints_apart {K : Nat → Prop} {N : Nat} {A B : World} {v : Value} {xs : List Int} (h : IntsOf A v xs) (hv : ∃ a n c, v = .slice a n c ∧ ∀ x, a = some x → N ≤ x.block) (hab : Apart K A B) (hK : ∀ j, K j → j < N) : IntsOf B v xs := by
  obtain ⟨ao, c, hv2, hc, hr⟩ := h
  obtain ⟨a, n, c', hv3, hx⟩ := hv
  refine ⟨ao, c, hv2, hc, fun h0 => ?_⟩
  obtain ⟨b, o, ha, hlt, hcs⟩ := hr h0
  have hb : N ≤ b := by
    rw [hv2] at hv3
    injection hv3 with e1 _ _
    exact hx ⟨b, o, none⟩ (e1.symm.trans ha)
  have hblk := hab.block b hlt (fun e => by have := hK b e; omega)
  exact ⟨b, o, ha, Nat.lt_of_lt_of_le hlt hab.size, fun k hk => (World.cell?_of_block (a := ⟨b, o + k, none⟩) hblk).trans (hcs k hk)⟩
theorem heap_made (W : World) (o : Obj) {n : Nat} (hn : n = W.heap.size) : (W.alloc o).heap[n]? = some o := by subst hn; exact heap_alloc_new W o
theorem heap_old {W : World} {n : Nat} {x : Obj} (h : W.heap[n]? = some x) (o : Obj) : (W.alloc o).heap[n]? = some x := (Below.heap_alloc _ _ _ (Array.getElem?_eq_some_iff.1 h).1).trans h
set_option maxRecDepth 100000 in
set_option maxHeartbeats 16000000 in
theorem contOf_any (bw wc : Nat) (ws : List (List UInt8)) (w : World) (h : StrsIn w bw ws) (hl : ws.length = 9) (hs : ∀ x ∈ ws, x.length ≤ 10000) :
    Calls Tryz.prog 49 #[.slice (some ⟨bw, 0, none⟩) 9 wc] w (ReadsContR w ws) := by
  have hlen : ∀ k, k < 9 → (wd ws k).length ≤ 10000 := fun k hk => hs _ (wd_mem (by omega))
  have HLN := hideIt hlen
  have s1 : (w.alloc (.cells #[.string ⟨#[]⟩, .int .i64 0, .int .i64 0, .int .i64 0, .int .i64 0, .slice none 0 0] 56)).heap.size = w.heap.size + 1 := by simp
  have s2 : ((w.alloc (.cells #[.string ⟨#[]⟩, .int .i64 0, .int .i64 0, .int .i64 0, .int .i64 0, .slice none 0 0] 56)).alloc (.cells #[.int .u64 0, .slice none 0 0] 64)).heap.size = w.heap.size + 2 := by simp
  have s3 : (((w.alloc (.cells #[.string ⟨#[]⟩, .int .i64 0, .int .i64 0, .int .i64 0, .int .i64 0, .slice none 0 0] 56)).alloc (.cells #[.int .u64 0, .slice none 0 0] 64)).alloc (.cells #[.string ⟨(wd ws 1).toArray⟩, .int .i64 0, .int .i64 0, .int .i64 0, .int .i64 0, .slice none 0 0] 56)).heap.size = w.heap.size + 3 := by simp
  have s4 : ((((w.alloc (.cells #[.string ⟨#[]⟩, .int .i64 0, .int .i64 0, .int .i64 0, .int .i64 0, .slice none 0 0] 56)).alloc (.cells #[.int .u64 0, .slice none 0 0] 64)).alloc (.cells #[.string ⟨(wd ws 1).toArray⟩, .int .i64 0, .int .i64 0, .int .i64 0, .int .i64 0, .slice none 0 0] 56)).alloc (.cells #[.int .u64 0, .slice none 0 0] 64)).heap.size = w.heap.size + 4 := by simp
  have s5 : (((((w.alloc (.cells #[.string ⟨#[]⟩, .int .i64 0, .int .i64 0, .int .i64 0, .int .i64 0, .slice none 0 0] 56)).alloc (.cells #[.int .u64 0, .slice none 0 0] 64)).alloc (.cells #[.string ⟨(wd ws 1).toArray⟩, .int .i64 0, .int .i64 0, .int .i64 0, .int .i64 0, .slice none 0 0] 56)).alloc (.cells #[.int .u64 0, .slice none 0 0] 64)).alloc (.cells #[.int .i64 0, .int .i64 0, .int .i64 0, .int .i64 0] 135)).heap.size = w.heap.size + 5 := by simp
  have b2 := ((Below.refl w.heap.size w).alloc (Nat.le_refl _) (.cells #[.string ⟨#[]⟩, .int .i64 0, .int .i64 0, .int .i64 0, .int .i64 0, .slice none 0 0] 56)).alloc (by rw [s1]; omega) (.cells #[.int .u64 0, .slice none 0 0] 64)
  have b5 := ((b2.alloc (by rw [s2]; omega) (.cells #[.string ⟨(wd ws 1).toArray⟩, .int .i64 0, .int .i64 0, .int .i64 0, .int .i64 0, .slice none 0 0] 56)).alloc (by rw [s3]; omega) (.cells #[.int .u64 0, .slice none 0 0] 64)).alloc (by rw [s4]; omega) (.cells #[.int .i64 0, .int .i64 0, .int .i64 0, .int .i64 0] 135)
  have w1 := (h.below b2).2 1 (by omega)
  have U0 := hideIt (heap_old (heap_old (heap_old (heap_old (heap_made w (.cells #[.string ⟨#[]⟩, .int .i64 0, .int .i64 0, .int .i64 0, .int .i64 0, .slice none 0 0] 56) rfl) (.cells #[.int .u64 0, .slice none 0 0] 64)) (.cells #[.string ⟨(wd ws 1).toArray⟩, .int .i64 0, .int .i64 0, .int .i64 0, .int .i64 0, .slice none 0 0] 56)) (.cells #[.int .u64 0, .slice none 0 0] 64)) (.cells #[.int .i64 0, .int .i64 0, .int .i64 0, .int .i64 0] 135))
  have U1 := hideIt (heap_old (heap_old (heap_old (heap_made (w.alloc (.cells #[.string ⟨#[]⟩, .int .i64 0, .int .i64 0, .int .i64 0, .int .i64 0, .slice none 0 0] 56)) (.cells #[.int .u64 0, .slice none 0 0] 64) s1.symm) (.cells #[.string ⟨(wd ws 1).toArray⟩, .int .i64 0, .int .i64 0, .int .i64 0, .int .i64 0, .slice none 0 0] 56)) (.cells #[.int .u64 0, .slice none 0 0] 64)) (.cells #[.int .i64 0, .int .i64 0, .int .i64 0, .int .i64 0] 135))
  have U2 := hideIt (heap_old (heap_old (heap_made ((w.alloc (.cells #[.string ⟨#[]⟩, .int .i64 0, .int .i64 0, .int .i64 0, .int .i64 0, .slice none 0 0] 56)).alloc (.cells #[.int .u64 0, .slice none 0 0] 64)) (.cells #[.string ⟨(wd ws 1).toArray⟩, .int .i64 0, .int .i64 0, .int .i64 0, .int .i64 0, .slice none 0 0] 56) s2.symm) (.cells #[.int .u64 0, .slice none 0 0] 64)) (.cells #[.int .i64 0, .int .i64 0, .int .i64 0, .int .i64 0] 135))
  have U3 := hideIt (heap_old (heap_made (((w.alloc (.cells #[.string ⟨#[]⟩, .int .i64 0, .int .i64 0, .int .i64 0, .int .i64 0, .slice none 0 0] 56)).alloc (.cells #[.int .u64 0, .slice none 0 0] 64)).alloc (.cells #[.string ⟨(wd ws 1).toArray⟩, .int .i64 0, .int .i64 0, .int .i64 0, .int .i64 0, .slice none 0 0] 56)) (.cells #[.int .u64 0, .slice none 0 0] 64) s3.symm) (.cells #[.int .i64 0, .int .i64 0, .int .i64 0, .int .i64 0] 135))
  have U4 := hideIt (heap_made ((((w.alloc (.cells #[.string ⟨#[]⟩, .int .i64 0, .int .i64 0, .int .i64 0, .int .i64 0, .slice none 0 0] 56)).alloc (.cells #[.int .u64 0, .slice none 0 0] 64)).alloc (.cells #[.string ⟨(wd ws 1).toArray⟩, .int .i64 0, .int .i64 0, .int .i64 0, .int .i64 0, .slice none 0 0] 56)).alloc (.cells #[.int .u64 0, .slice none 0 0] 64)) (.cells #[.int .i64 0, .int .i64 0, .int .i64 0, .int .i64 0] 135) s4.symm)
  have HU := hideIt (h.below b5)
  have hbw0 := h.1
  have HBU := hideIt b5
  have HSZ := hideIt s5
  clear b2 b5 s1 s2 s3 s4 s5 h hs hlen
  go_enter Tryz.func49, Tryz.ntmps49
  go_wp2_with fail
  clear w1
  generalize (((((w.alloc (.cells #[.string ⟨#[]⟩, .int .i64 0, .int .i64 0, .int .i64 0, .int .i64 0, .slice none 0 0] 56)).alloc (.cells #[.int .u64 0, .slice none 0 0] 64)).alloc (.cells #[.string ⟨(wd ws 1).toArray⟩, .int .i64 0, .int .i64 0, .int .i64 0, .int .i64 0, .slice none 0 0] 56)).alloc (.cells #[.int .u64 0, .slice none 0 0] 64)).alloc (.cells #[.int .i64 0, .int .i64 0, .int .i64 0, .int .i64 0] 135)) = U at *
  generalize HB : w.heap.size = B at *
  go_loopw [8, 9] (fun o i wr => ∃ k : Nat, k ≤ 4 ∧ i = .int .i64 k ∧ o = .bool (okA ws k) ∧ wr.heap[B + 4]? = some (.cells (nArr ws k) 135 (0, 0)) ∧ Apart (fun j => j = B + 4) U wr) (fun _ i _ => 4 - (intOf i).toNat)
  case atStart => exact ⟨0, by omega, rfl, rfl, U4.out, Apart.refl _ _⟩
  case round =>
    obtain ⟨k, hk, rfl, rfl, hn, hab⟩ := hrel
    have HAB := hideIt hab
    have HNK := hideIt hn
    have hbw := HU.out.1
    have hsz := HSZ.out
    have hws := strs_kept HU.out hab (by omega)
    by_cases hk4 : k < 4
    · obtain ⟨z, hz⟩ : ∃ z, (nArr ws k)[k]? = some z := ⟨_, Array.getElem?_eq_getElem (by rw [nArr_size]; exact hk4)⟩
      have c4 : wr.cell? ⟨B + 4, k, none⟩ = some z := (cell_of_heapV hn k).trans hz
      have f4 := frozen_of_heapV hn k
      have cw := hws.2 (2 + k) (by omega)
      have hxl := HLN.out (2 + k) (by omega)
      have HN := hideIt (number_ref ⟨(wd ws (2 + k)).toArray⟩ wr (by unfold maxLen; show (wd ws (2 + k)).length ≤ _; omega))
      rw [show (ByteArray.mk (wd ws (2 + k)).toArray).data.toList = wd ws (2 + k) by simp] at HN
      have HOK : Hid (okA ws (k + 1) = (okA ws k && gR (wd ws (2 + k)))) := rfl
      have HNA : Hid (nArr ws (k + 1) = (nArr ws k).setIfInBounds k (.int .i64 (nR (wd ws (2 + k))))) := rfl
      have hcase : k = 0 ∨ k = 1 ∨ k = 2 ∨ k = 3 := by omega
      clear hn hz hab hws hk4 hk
      generalize okA ws k = oo at *
      generalize gR (wd ws (2 + k)) = gx at *
      generalize nR (wd ws (2 + k)) = nx at *
      generalize wd ws (2 + k) = x at *
      rcases hcase with rfl | rfl | rfl | rfl
      · simp only [Nat.reduceAdd] at cw
        cases oo
        · go_wp2_with fail
          refine HN.out.mono ?_
          rintro e w1 ⟨rfl, rfl⟩
          go_wp2_with fail
          go_roundw
          case rel => exact ⟨0 + 1, by omega, by go_num, by rw [HOK.out]; rfl, by rw [HNA.out]; exact set_heap HNK.out 0 _, HAB.out.trans (Apart.setCell (K := fun j => j = B + 4) rfl _ _ _)⟩
          case measure => simp [intOf]
        · go_wp2_with fail
          refine HN.out.mono ?_
          rintro e w1 ⟨rfl, rfl⟩
          go_wp2_with fail
          go_roundw
          case rel => exact ⟨0 + 1, by omega, by go_num, by rw [HOK.out]; rfl, by rw [HNA.out]; exact set_heap HNK.out 0 _, HAB.out.trans (Apart.setCell (K := fun j => j = B + 4) rfl _ _ _)⟩
          case measure => simp [intOf]
      · simp only [Nat.reduceAdd] at cw
        cases oo
        · go_wp2_with fail
          refine HN.out.mono ?_
          rintro e w1 ⟨rfl, rfl⟩
          go_wp2_with fail
          go_roundw
          case rel => exact ⟨1 + 1, by omega, by go_num, by rw [HOK.out]; rfl, by rw [HNA.out]; exact set_heap HNK.out 1 _, HAB.out.trans (Apart.setCell (K := fun j => j = B + 4) rfl _ _ _)⟩
          case measure => simp [intOf]
        · go_wp2_with fail
          refine HN.out.mono ?_
          rintro e w1 ⟨rfl, rfl⟩
          go_wp2_with fail
          go_roundw
          case rel => exact ⟨1 + 1, by omega, by go_num, by rw [HOK.out]; rfl, by rw [HNA.out]; exact set_heap HNK.out 1 _, HAB.out.trans (Apart.setCell (K := fun j => j = B + 4) rfl _ _ _)⟩
          case measure => simp [intOf]
      · simp only [Nat.reduceAdd] at cw
        cases oo
        · go_wp2_with fail
          refine HN.out.mono ?_
          rintro e w1 ⟨rfl, rfl⟩
          go_wp2_with fail
          go_roundw
          case rel => exact ⟨2 + 1, by omega, by go_num, by rw [HOK.out]; rfl, by rw [HNA.out]; exact set_heap HNK.out 2 _, HAB.out.trans (Apart.setCell (K := fun j => j = B + 4) rfl _ _ _)⟩
          case measure => simp [intOf]
        · go_wp2_with fail
          refine HN.out.mono ?_
          rintro e w1 ⟨rfl, rfl⟩
          go_wp2_with fail
          go_roundw
          case rel => exact ⟨2 + 1, by omega, by go_num, by rw [HOK.out]; rfl, by rw [HNA.out]; exact set_heap HNK.out 2 _, HAB.out.trans (Apart.setCell (K := fun j => j = B + 4) rfl _ _ _)⟩
          case measure => simp [intOf]
      · simp only [Nat.reduceAdd] at cw
        cases oo
        · go_wp2_with fail
          refine HN.out.mono ?_
          rintro e w1 ⟨rfl, rfl⟩
          go_wp2_with fail
          go_roundw
          case rel => exact ⟨3 + 1, by omega, by go_num, by rw [HOK.out]; rfl, by rw [HNA.out]; exact set_heap HNK.out 3 _, HAB.out.trans (Apart.setCell (K := fun j => j = B + 4) rfl _ _ _)⟩
          case measure => simp [intOf]
        · go_wp2_with fail
          refine HN.out.mono ?_
          rintro e w1 ⟨rfl, rfl⟩
          go_wp2_with fail
          go_roundw
          case rel => exact ⟨3 + 1, by omega, by go_num, by rw [HOK.out]; rfl, by rw [HNA.out]; exact set_heap HNK.out 3 _, HAB.out.trans (Apart.setCell (K := fun j => j = B + 4) rfl _ _ _)⟩
          case measure => simp [intOf]
    · have hk4' : k = 4 := by omega
      subst hk4'
      rw [nArr_four] at hn
      have m0 : wr.cell? ⟨B + 4, 0, none⟩ = some (.int .i64 (nR (wd ws 2))) := cell_of_heapV hn 0
      have m1 : wr.cell? ⟨B + 4, 1, none⟩ = some (.int .i64 (nR (wd ws 3))) := cell_of_heapV hn 1
      have m2 : wr.cell? ⟨B + 4, 2, none⟩ = some (.int .i64 (nR (wd ws 4))) := cell_of_heapV hn 2
      have m3 : wr.cell? ⟨B + 4, 3, none⟩ = some (.int .i64 (nR (wd ws 5))) := cell_of_heapV hn 3
      have hC2 := (hab.block (B + 2) (by omega) (by omega)).trans U2.out
      have u1 : wr.cell? ⟨B + 2, 1, none⟩ = some (.int .i64 0) := cell_of_heapV hC2 1
      have u2 : wr.cell? ⟨B + 2, 2, none⟩ = some (.int .i64 0) := cell_of_heapV hC2 2
      have u3 : wr.cell? ⟨B + 2, 3, none⟩ = some (.int .i64 0) := cell_of_heapV hC2 3
      have u4 : wr.cell? ⟨B + 2, 4, none⟩ = some (.int .i64 0) := cell_of_heapV hC2 4
      have f1 := frozen_of_heapV hC2 1
      have f2 := frozen_of_heapV hC2 2
      have f3 := frozen_of_heapV hC2 3
      have f4 := frozen_of_heapV hC2 4
      have HC2 := hideIt (set_heap (set_heap (set_heap (set_heap hC2 1 (.int .i64 (nR (wd ws 2)))) 2 (.int .i64 (nR (wd ws 3)))) 3 (.int .i64 (nR (wd ws 4)))) 4 (.int .i64 (nR (wd ws 5))))
      have HAC := hideIt ((hab.wide (K' := fun j => j = B + 4 ∨ j = B + 2) fun _ => .inl).trans ((((Apart.setCell (K := fun j => j = B + 4 ∨ j = B + 2) (.inr rfl) wr 1 (.int .i64 (nR (wd ws 2)))).trans (Apart.setCell (.inr rfl) _ 2 (.int .i64 (nR (wd ws 3))))).trans (Apart.setCell (.inr rfl) _ 3 (.int .i64 (nR (wd ws 4))))).trans (Apart.setCell (.inr rfl) _ 4 (.int .i64 (nR (wd ws 5))))))
      clear hn hC2 hab hws hk4 hk
      iterate 72 (first | go_values | go_skip | go_guarded | go_step)
      refine wp_pieceV (G := frC (.slice (some ⟨bw, 0, none⟩) 9 wc) B (okA ws 4)) (by kernel_rfl) fun F6 => ?_
      show Code.wp _ _ _ _ ((((wr.setCell ⟨B + 2, 1, none⟩ (.int .i64 (nR (wd ws 2)))).setCell ⟨B + 2, 2, none⟩ (.int .i64 (nR (wd ws 3)))).setCell ⟨B + 2, 3, none⟩ (.int .i64 (nR (wd ws 4)))).setCell ⟨B + 2, 4, none⟩ (.int .i64 (nR (wd ws 5))))
      generalize ((((wr.setCell ⟨B + 2, 1, none⟩ (.int .i64 (nR (wd ws 2)))).setCell ⟨B + 2, 2, none⟩ (.int .i64 (nR (wd ws 3)))).setCell ⟨B + 2, 3, none⟩ (.int .i64 (nR (wd ws 4)))).setCell ⟨B + 2, 4, none⟩ (.int .i64 (nR (wd ws 5)))) = V at *
      clear m0 m1 m2 m3 u1 u2 u3 u4 f1 f2 f3 f4
      have h0 := (HAC.out.block B (by omega) (by omega)).trans U0.out
      have h1 := (HAC.out.block (B + 1) (by omega) (by omega)).trans U1.out
      have h3 := (HAC.out.block (B + 3) (by omega) (by omega)).trans U3.out
      have hSV := strs_kept HU.out HAC.out (by omega)
      have hszV := HAC.out.size
      have HBV := hideIt (HAC.out.below HBU.out (Nat.le_of_eq HB.symm) (fun j hj => by omega))
      have l6 := HLN.out 6 (by omega)
      have l7 := HLN.out 7 (by omega)
      have l8 := HLN.out 8 (by omega)
      refine wp_retOr (piece6_any bw wc B ⟨(wd ws 1).toArray⟩ (nR (wd ws 2)) (nR (wd ws 3)) (nR (wd ws 4)) (nR (wd ws 5)) (wd ws 6) (okA ws 4) V F6 h0 h1 HC2.out h3 (hSV.2 6 (by omega)) l6) ?_ ?_
      · rintro _ V6 ⟨F7, rfl, nv, hc6, hab6, hfr6, hnd6⟩
        have g0 := (hab6.block B (by omega) (by omega)).trans h0
        have g1 := (hab6.block (B + 1) (by omega) (by omega)).trans h1
        have g3 := (hab6.block (B + 3) (by omega) (by omega)).trans h3
        have hS6 := strs_kept hSV hab6 (by omega)
        have hsz6 := hab6.size
        have HB6 := hideIt (hab6.below HBV.out (Nat.le_of_eq HB.symm) (fun j hj => by omega))
        clear h0 h1 h3 HC2 HAC
        unfold frC
        iterate 3 (first | go_values | go_skip | go_guarded | go_step)
        refine wp_pieceV (G := frC (.slice (some ⟨bw, 0, none⟩) 9 wc) B (okA ws 4 && (Sv.listOf Sv.needR (wd ws 6)).isSome)) (by kernel_rfl) fun F8 => ?_
        refine wp_normalAtV (piece7_any bw wc B (wd ws 7) _ V6 F8 g3 (hS6.2 7 (by omega)) l7) ?_
        rintro _ V7 ⟨F9, rfl, hg7, hab7⟩
        have j0 := (hab7.block B (by omega) (by omega)).trans g0
        have j1 := (hab7.block (B + 1) (by omega) (by omega)).trans g1
        have j2 := (hab7.block (B + 2) (by omega) (by omega)).trans hc6
        have hS7 := strs_kept hS6 hab7 (by omega)
        have hsz7 := hab7.size
        have HB7 := hideIt (hab7.below HB6.out (Nat.le_of_eq HB.symm) (fun j hj => by omega))
        unfold frC
        iterate 3 (first | go_values | go_skip | go_guarded | go_step)
        refine wp_pieceV (G := frC (.slice (some ⟨bw, 0, none⟩) 9 wc) B (okA ws 4 && (Sv.listOf Sv.needR (wd ws 6)).isSome && cgOf (wd ws 7))) (by kernel_rfl) fun F10 => ?_
        refine wp_normalAtV (piece8_any bw wc B (cpOf (wd ws 7)) (wd ws 8) _ V7 F10 hg7 (hS7.2 8 (by omega)) l8) ?_
        rintro _ V8 ⟨F11, rfl, dv, hg8, hab8, hfr8, hin8⟩
        have k0 := (hab8.block B (by omega) (by omega)).trans j0
        have k1 := (hab8.block (B + 1) (by omega) (by omega)).trans j1
        have k2 := (hab8.block (B + 2) (by omega) (by omega)).trans j2
        have HB8 := hideIt (hab8.below HB7.out (Nat.le_of_eq HB.symm) (fun j hj => by omega))
        obtain ⟨na, nn, nc, rfl, hna⟩ := hfr6
        obtain ⟨ea, en, ec, rfl, hea⟩ := hfr8
        obtain ⟨ds, hnd6, hne6⟩ := hnd6
        obtain ⟨xs, hin8, hie8⟩ := hin8
        have HND := hideIt (needs_apart (needs_apart hnd6 ⟨_, _, _, rfl, hna⟩ hab7 (fun j hj => by omega)) ⟨_, _, _, rfl, hna⟩ hab8 (fun j hj => by omega))
        have HIN := hideIt hin8
        have HNE := hideIt hne6
        have HIE := hideIt hie8
        have HNA := hideIt hna
        have HEA := hideIt hea
        have HOK : Hid ((okA ws 4 && (Sv.listOf Sv.needR (wd ws 6)).isSome && cgOf (wd ws 7) && (Sv.listOf Sv.numR (wd ws 8)).isSome) = okR ws) := rfl
        have h8 := hab8.size
        clear hnd6 hin8 hna hea hab6 hab7 hab8 hne6 hie8
        rw [HOK.out]
        unfold frC
        go_wp2_with fail
        refine wp_normalAtV (contOfR36_in V8 k0 k1 k2 hg8) ?_
        rintro _ V9 ⟨F12, rfl, z0, z1, hab9⟩
        dsimp only
        go_wp2_with fail
        (try simp only [Exit.inBlock, Exit.then])
        have a0 := cell_of_heapV z0 0
        have a1 := cell_of_heapV z0 1
        have a2 := cell_of_heapV z0 2
        have a3 := cell_of_heapV z0 3
        have a4 := cell_of_heapV z0 4
        have a5 := cell_of_heapV z0 5
        have e0 := cell_of_heapV z1 0
        have e1 := cell_of_heapV z1 1
        simp only [List.getElem?_toArray, List.getElem?_cons_zero, List.getElem?_cons_succ] at a0 a1 a2 a3 a4 a5 e0 e1
        refine bodyPost_ret (v := .tuple #[.agg #[.string ⟨(wd ws 1).toArray⟩, .int .i64 (nR (wd ws 2)), .int .i64 (nR (wd ws 3)), .int .i64 (nR (wd ws 4)), .int .i64 (nR (wd ws 5)), .slice na nn nc], .agg #[.int .u64 (cpOf (wd ws 7) : Nat), .slice ea en ec], .bool (okR ws)]) ?_ rfl ⟨.slice na nn nc, .slice ea en ec, cpOf (wd ws 7), ds, xs, rfl, cpOf_lt _, fun h => contR_yes h HNE.out HIE.out, ?_, ?_, ⟨_, _, _, rfl, fun x hx => ?_⟩, ⟨_, _, _, rfl, fun x hx => ?_⟩, ?_⟩
        · rw [results_cct rfl]
          go_simp
        · exact needs_apart (N := V.heap.size) HND.out ⟨_, _, _, rfl, HNA.out⟩ hab9 (fun j hj => by omega)
        · exact ints_apart (N := V7.heap.size) HIN.out ⟨_, _, _, rfl, HEA.out⟩ hab9 (fun j hj => by omega)
        · have := HNA.out x hx; omega
        · have := HEA.out x hx; omega
        · rw [HB]; exact hab9.below HB8.out (Nat.le_of_eq HB.symm) (fun j hj => by omega)
      · rintro _ V6 ⟨okx, F7, rfl, nv, z0, z1, hab6, ⟨na, nn, nc, rfl, hna⟩, hno, ds, hnd⟩
        have HOK : Hid (okR ws = false) := by unfold Hid okR; rw [hno]; simp
        unfold frC
        (try simp only [Exit.then])
        have a0 := cell_of_heapV z0 0
        have a1 := cell_of_heapV z0 1
        have a2 := cell_of_heapV z0 2
        have a3 := cell_of_heapV z0 3
        have a4 := cell_of_heapV z0 4
        have a5 := cell_of_heapV z0 5
        have e0 := cell_of_heapV z1 0
        have e1 := cell_of_heapV z1 1
        simp only [List.getElem?_toArray, List.getElem?_cons_zero, List.getElem?_cons_succ] at a0 a1 a2 a3 a4 a5 e0 e1
        refine bodyPost_ret (v := .tuple #[.agg #[.string ⟨(wd ws 1).toArray⟩, .int .i64 (nR (wd ws 2)), .int .i64 (nR (wd ws 3)), .int .i64 (nR (wd ws 4)), .int .i64 (nR (wd ws 5)), .slice na nn nc], .agg #[.int .u64 0, .slice none 0 0], .bool false]) ?_ rfl ⟨.slice na nn nc, .slice none 0 0, 0, ds, [], by rw [HOK.out]; rfl, by decide, fun h => ?_, hnd, ints_nilV _, ⟨_, _, _, rfl, fun x hx => ?_⟩, ⟨none, 0, 0, rfl, fun x hx => by cases hx⟩, ?_⟩
        · rw [results_cct rfl]
          go_simp
        · rw [HOK.out] at h; cases h
        · have := hna x hx; omega
        · rw [HB]; exact hab6.below HBV.out (Nat.le_of_eq HB.symm) (fun j hj => by omega)
end Go.Proofs.YtlljniaobbbjgaaGreatDoor

