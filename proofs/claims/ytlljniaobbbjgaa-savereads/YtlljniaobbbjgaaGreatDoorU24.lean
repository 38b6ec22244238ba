/- VSA, VX2 -/
import Derived.Test.YtlljniaobbbjgaaGreatDoorU21
import Derived.Test.YtlljniaobbbjgaaGreatDoorU23
import Derived.Test.YtlljniaobbbjgaaGreatDoorU6
import Derived.Deep.RegionHeld3
namespace Go.Proofs.YtlljniaobbbjgaaGreatDoor
open Go.RowKit Go.Shelf
open Qos (Nd Ct Pd nd ct pd podF)
open Sv (Gv Hd gv hd wd Tx sumTxt heldTxt heldF body readS OkL)
open S1 (Mx Tab)
set_option maxHeartbeats 400000 in
theorem same_zeroV (w : World) : Calls Tryz.prog 10 #[.nilIface, .int .i64 0] w fun e w' => e = .returned (.bool true) ∧ w' = w := by
  go_enter Tryz.func10, Tryz.ntmps10
  go_wp2_with fail
  go_ret
  exact ⟨rfl, rfl⟩
theorem run_assertA (f : Int) (w : World) : (Instr.typeAssert (.iface 80 (.int .i64 f)) 27 80 true).run Tryz.prog w = .ok (.tuple #[.int .i64 f, .bool true]) w := by kernel_rfl
set_option maxRecDepth 100000 in
set_option maxHeartbeats 400000 in
theorem same_posV (f : Int) (w : World) (h : 0 < f) : Calls Tryz.prog 10 #[.iface 80 (.int .i64 f), .int .i64 f] w fun e w' => e = .returned (.bool true) ∧ w' = w := by
  have hta := run_assertA f
  go_enter Tryz.func10, Tryz.ntmps10
  go_wp2_with fail
  go_ret
  exact ⟨rfl, rfl⟩
/-- What 'saves' holds. -/
def hs0 : List Hd := [⟨⟨⟨#[97]⟩, 0, [⟨⟨#[120]⟩, 0, 0, 0, 0, []⟩]⟩, [⟨3, []⟩]⟩]
theorem hs0_f : heldF hs0 = 0 := by decide +kernel
theorem hs0_ok : OkL hs0 := Sv.okL_of hs0_f (fun h hh g hg => by
  simp [hs0] at hh; subst hh; simp at hg; subst hg; decide)
theorem hs0_len : (heldTxt hs0).length ≤ 6000 := by
  have h1 := Sv.sumTxt_le (body hs0)
  have h : heldTxt hs0 = body hs0 ++ sumTxt (body hs0) := rfl
  have ok := hs0_ok.2 (hd hs0 0) (Sv.mem_hd (by decide))
  have h2 := Sv.podLine_le ok.1
  have h3 := Sv.okC_at ok (k := 0) (by decide)
  have h4 := Sv.contLine_le h3.1 h3.2
  have e : body hs0 = [] ++ (Sv.podLine (hd hs0 0).pod ++ ([] ++ Sv.contLine (ct (hd hs0 0).pod.cs 0) (gv (hd hs0 0).gs 0))) := rfl
  have h5 : (body hs0).length = (Sv.podLine (hd hs0 0).pod).length + (Sv.contLine (ct (hd hs0 0).pod.cs 0) (gv (hd hs0 0).gs 0)).length := by rw [e]; simp
  rw [h, List.length_append]; omega
theorem needs_nil (w : World) : NeedsAt w (.slice none 0 0) [] := ⟨none, 0, rfl, by unfold maxLen; simp, fun h => by simp at h⟩
theorem ints_nil (w : World) : IntsOf w (.slice none 0 0) [] := ⟨none, 0, rfl, ⟨Nat.le_refl _, by unfold maxLen; omega⟩, fun h => by simp at h⟩
theorem made_cellV (W : World) (cs : Array Value) (t : TypeId) {n : Nat} (hn : n = W.heap.size) (j : Nat) : (W.alloc (.cells cs t)).cell? ⟨n, j, none⟩ = cs[j]? := by subst hn; simp
structure H0At (w : World) (a b c : Nat) : Prop where
  h1 : a < w.heap.size
  h2 : b < w.heap.size
  h3 : c < w.heap.size
  ha : ∀ j, j < 6 → w.cell? ⟨a, j, none⟩ = (contCells ⟨⟨#[120]⟩, 0, 0, 0, 0, []⟩ (.slice none 0 0))[j]?
  hb0 : w.cell? ⟨b, 0, none⟩ = some (.int .u64 3)
  hb1 : w.cell? ⟨b, 1, none⟩ = some (.slice none 0 0)
  hc0 : w.cell? ⟨c, 0, none⟩ = some (.string ⟨#[97]⟩)
  hc1 : w.cell? ⟨c, 1, none⟩ = some (.int .i64 0)
  hc2 : w.cell? ⟨c, 2, none⟩ = some (.slice (some ⟨a, 0, none⟩) 1 1)
  hc3 : w.cell? ⟨c, 3, none⟩ = some (.slice (some ⟨b, 0, none⟩) 1 1)
theorem H0At.grown {w w' : World} {a b c B : Nat} (h : H0At w a b c) (hg : w.grownBy w' (some B)) (ha : a ≠ B) (hb : b ≠ B) (hc : c ≠ B) : H0At w' a b c := by
  have e : ∀ k, k < w.heap.size → k ≠ B → w'.heap[k]? = w.heap[k]? := fun k hk hn => hg.block k hk (fun h => hn (Option.some.inj h))
  have ea := e a h.h1 ha
  have eb := e b h.h2 hb
  have ec := e c h.h3 hc
  exact ⟨Nat.lt_of_lt_of_le h.h1 hg.size, Nat.lt_of_lt_of_le h.h2 hg.size, Nat.lt_of_lt_of_le h.h3 hg.size, fun j hj => (World.cell?_of_block (a := ⟨a, j, none⟩) ea).trans (h.ha j hj), (World.cell?_of_block (a := ⟨b, 0, none⟩) eb).trans h.hb0, (World.cell?_of_block (a := ⟨b, 1, none⟩) eb).trans h.hb1,
    (World.cell?_of_block (a := ⟨c, 0, none⟩) ec).trans h.hc0, (World.cell?_of_block (a := ⟨c, 1, none⟩) ec).trans h.hc1, (World.cell?_of_block (a := ⟨c, 2, none⟩) ec).trans h.hc2, (World.cell?_of_block (a := ⟨c, 3, none⟩) ec).trans h.hc3⟩
theorem H0At.at {w : World} {a b c : Nat} (h : H0At w a b c) : HldsAt w (.slice (some ⟨c, 0, none⟩) 1 1) hs0 := by
  obtain ⟨h1, h2, h3, ha, hb0, hb1, hc0, hc1, hc2, hc3⟩ := h
  refine ⟨_, 1, rfl, ⟨Nat.le_refl _, by unfold maxLen; omega⟩, fun _ => ⟨c, 0, fun _ => .slice (some ⟨a, 0, none⟩) 1 1, fun _ => .slice (some ⟨b, 0, none⟩) 1 1, rfl, h3, fun k hk => ?_⟩⟩
  obtain rfl : k = 0 := by simp [hs0] at hk; exact hk
  refine ⟨⟨hc0, hc1, hc2, hc3⟩, ⟨_, 1, rfl, ⟨Nat.le_refl _, by unfold maxLen; omega⟩, fun _ => ⟨a, 0, fun _ => .slice none 0 0, rfl, h1, fun k hk => ?_⟩⟩, ⟨_, 1, rfl, ⟨Nat.le_refl _, by unfold maxLen; omega⟩, fun _ => ⟨b, 0, fun _ => .slice none 0 0, rfl, h2, fun k hk => ?_⟩⟩⟩
  · obtain rfl : k = 0 := by simp [hs0, hd] at hk; exact hk
    refine ⟨fun j hj => ?_, needs_nil w⟩
    have := ha j hj
    simpa [hs0, hd, ct] using this
  · obtain rfl : k = 0 := by simp [hs0, hd] at hk; exact hk
    exact ⟨⟨hb0, hb1, by simp [hs0, hd, gv]⟩, ints_nil w⟩
set_option maxRecDepth 100000 in
set_option maxHeartbeats 4000000 in
theorem saves_true (w : World) (ht : TabUp w) (hm : Mx w) : Calls Tryz.prog 6 #[] w fun e w' => e = .returned (.bool true) ∧ Below w.heap.size w w' := by
  have HT := hideIt ht
  have HM := hideIt hm
  clear ht hm
  go_enter Tryz.func6, Tryz.ntmps6
  go_wp2_with fail
  refine (diskNew_any w).mono ?_
  rintro e w1 ⟨rfl, hd1, hb1⟩
  have hA := ((Below.refl w1.heap.size w1).alloc (Nat.le_refl _) (.cells #[.string ⟨#[120]⟩, .int .i64 0, .int .i64 0, .int .i64 0, .int .i64 0, .slice none 0 0] 56))
  have hB := hA.alloc (by simp) (.cells #[.int .u64 3, .slice none 0 0] 64)
  have hC := hB.alloc (by simp <;> omega) (.cells #[.string ⟨#[97]⟩, .int .i64 0, .slice (some ⟨w1.heap.size, 0, none⟩) 1 1, .slice (some ⟨w1.heap.size + 1, 0, none⟩) 1 1] 67)
  have hBC := (Below.refl ((w1.alloc (.cells #[.string ⟨#[120]⟩, .int .i64 0, .int .i64 0, .int .i64 0, .int .i64 0, .slice none 0 0] 56)).alloc (.cells #[.int .u64 3, .slice none 0 0] 64)).heap.size ((w1.alloc (.cells #[.string ⟨#[120]⟩, .int .i64 0, .int .i64 0, .int .i64 0, .int .i64 0, .slice none 0 0] 56)).alloc (.cells #[.int .u64 3, .slice none 0 0] 64))).alloc (Nat.le_refl _) (.cells #[.string ⟨#[97]⟩, .int .i64 0, .slice (some ⟨w1.heap.size, 0, none⟩) 1 1, .slice (some ⟨w1.heap.size + 1, 0, none⟩) 1 1] 67)
  have hAC := ((Below.refl (w1.alloc (.cells #[.string ⟨#[120]⟩, .int .i64 0, .int .i64 0, .int .i64 0, .int .i64 0, .slice none 0 0] 56)).heap.size (w1.alloc (.cells #[.string ⟨#[120]⟩, .int .i64 0, .int .i64 0, .int .i64 0, .int .i64 0, .slice none 0 0] 56))).alloc (Nat.le_refl _) (.cells #[.int .u64 3, .slice none 0 0] 64)).trans (hBC.mono (by simp))
  have szA : (w1.alloc (.cells #[.string ⟨#[120]⟩, .int .i64 0, .int .i64 0, .int .i64 0, .int .i64 0, .slice none 0 0] 56)).heap.size = w1.heap.size + 1 := by simp
  have szB : ((w1.alloc (.cells #[.string ⟨#[120]⟩, .int .i64 0, .int .i64 0, .int .i64 0, .int .i64 0, .slice none 0 0] 56)).alloc (.cells #[.int .u64 3, .slice none 0 0] 64)).heap.size = w1.heap.size + 1 + 1 := by simp
  have szC : (((w1.alloc (.cells #[.string ⟨#[120]⟩, .int .i64 0, .int .i64 0, .int .i64 0, .int .i64 0, .slice none 0 0] 56)).alloc (.cells #[.int .u64 3, .slice none 0 0] 64)).alloc (.cells #[.string ⟨#[97]⟩, .int .i64 0, .slice (some ⟨w1.heap.size, 0, none⟩) 1 1, .slice (some ⟨w1.heap.size + 1, 0, none⟩) 1 1] 67)).heap.size = w1.heap.size + 1 + 1 + 1 := by simp
  have HH := hideIt (show H0At (((w1.alloc (.cells #[.string ⟨#[120]⟩, .int .i64 0, .int .i64 0, .int .i64 0, .int .i64 0, .slice none 0 0] 56)).alloc (.cells #[.int .u64 3, .slice none 0 0] 64)).alloc (.cells #[.string ⟨#[97]⟩, .int .i64 0, .slice (some ⟨w1.heap.size, 0, none⟩) 1 1, .slice (some ⟨w1.heap.size + 1, 0, none⟩) 1 1] 67)) w1.heap.size (w1.heap.size + 1) (w1.heap.size + 1 + 1) from
    ⟨by rw [szC]; omega, by rw [szC]; omega, by rw [szC]; omega,
    fun j hj => (hAC.cell (p := ⟨w1.heap.size, j, none⟩) (by rw [szA]; exact Nat.lt_succ_self _)).trans ((made_cellV w1 _ _ rfl j).trans (by simp [contCells])),
    (hBC.cell (p := ⟨w1.heap.size + 1, 0, none⟩) (by rw [szB]; exact Nat.lt_succ_self _)).trans (made_cellV _ _ _ szA.symm 0), (hBC.cell (p := ⟨w1.heap.size + 1, 1, none⟩) (by rw [szB]; exact Nat.lt_succ_self _)).trans (made_cellV _ _ _ szA.symm 1),
    made_cellV _ _ _ szB.symm 0, made_cellV _ _ _ szB.symm 1, made_cellV _ _ _ szB.symm 2, made_cellV _ _ _ szB.symm 3⟩)
  clear hBC hAC szA szB szC
  have HB := hideIt (hb1.trans (hC.mono hb1.size))
  have HD := hideIt (hd1.below hC)
  have hlt := hd1.lt
  clear hA hB hC hd1 hb1
  go_wp2_with fail
  generalize (((w1.alloc (.cells #[.string ⟨#[120]⟩, .int .i64 0, .int .i64 0, .int .i64 0, .int .i64 0, .slice none 0 0] 56)).alloc (.cells #[.int .u64 3, .slice none 0 0] 64)).alloc (.cells #[.string ⟨#[97]⟩, .int .i64 0, .slice (some ⟨w1.heap.size, 0, none⟩) 1 1, .slice (some ⟨w1.heap.size + 1, 0, none⟩) 1 1] 67)) = W at *
  have HSA := hideIt (save_any w.heap.size Dk.fresh _ hs0 W HD.out (.inl rfl) HH.out.at (HT.out.below HB.out))
  have HZ := hideIt (save_zero (s := Dk.fresh) HH.out.at.cps (save_calm (by decide) rfl hs0_f hs0_len))
  have h0 : (Dk.fresh.save hs0).1 = 0 := save_calm (by decide) rfl hs0_f hs0_len
  rw [h0] at HSA
  generalize (Dk.fresh.save hs0).2 = s at *
  clear h0 HD
  refine HSA.out.mono ?_
  rintro e w2 ⟨rfl, hd2, hg2⟩
  clear HSA
  have HV := hideIt (HH.out.grown hg2 (by omega) (by omega) (by omega)).at
  have HB2 := hideIt (below_of_grown HB.out hg2 (Nat.le_refl _) HB.out.size)
  have HD2 := hideIt hd2
  clear hg2 hd2 HB HH
  go_wp2_with fail
  refine (load_any w.heap.size s w2 HD2.out HZ.out.1.size (HT.out.below HB2.out) (HM.out.below HB2.out)).mono ?_
  rintro e w3 ⟨v, rfl, hv, hb3⟩
  rw [HZ.out.1.load] at hv ⊢
  obtain ⟨va, vc, rfl, _, _⟩ := id hv
  have HX := hideIt hv
  have HY := hideIt (HV.out.below hb3)
  have HB3 := hideIt (HB2.out.trans (hb3.mono HB2.out.size))
  clear hv hb3 HB2 HD2 HV
  go_wp2_with fail
  refine (same_zeroV w3).mono ?_
  rintro e w4 ⟨rfl, rfl⟩
  go_wp2_with fail
  refine (same_zeroV _).mono ?_
  rintro e w5 ⟨rfl, rfl⟩
  go_wp2_with fail
  refine (sameHeld_any _ _ hs0 hs0 _ HX.out HY.out).mono ?_
  rintro e w6 ⟨b, rfl, hbt, hb6⟩
  obtain rfl := hbt rfl
  have HB6 := hideIt (HB3.out.trans (hb6.mono HB3.out.size))
  clear hb6
  go_wp2_with fail
  go_ret
  exact ⟨rfl, HB6.out⟩
end Go.Proofs.YtlljniaobbbjgaaGreatDoor

namespace Go.Proofs.YtlljniaobbbjgaaGreatDoor
open Go.RowKit
open Qos (Nd Ct Pd nd ct pd)
open Sv (Gv Hd gv hd Tx orNo needTxt needsTxt devsTxt setTxt sumTxt fnv heldTxt body bodyTo podTxt podLine contsTo contLine OkL)
attribute [local go_sem] Oper.semAt_some
theorem podBytes (Y D : List UInt8) (nm : ByteArray) : (ByteArray.mk Y.toArray ++ ⟨#[112, 111, 100, 32]⟩ ++ nm ++ ⟨#[32]⟩ ++ ⟨D.toArray⟩ ++ ⟨#[10]⟩ : ByteArray) = ⟨(Y ++ Sv.lineTxt [[112, 111, 100], nm.data.toList, D]).toArray⟩ := by
  apply ByteArray.ext; simp [Sv.lineTxt, Lib.join]
theorem contBytes (Y a b c d n s v : List UInt8) (nm : ByteArray) : (ByteArray.mk Y.toArray ++ ⟨#[99, 111, 110, 116, 32]⟩ ++ nm ++ ⟨#[32]⟩ ++ ⟨a.toArray⟩ ++ ⟨#[32]⟩ ++ ⟨b.toArray⟩ ++ ⟨#[32]⟩ ++ ⟨c.toArray⟩ ++ ⟨#[32]⟩ ++ ⟨d.toArray⟩ ++ ⟨#[32]⟩ ++ ⟨n.toArray⟩ ++ ⟨#[32]⟩ ++ ⟨s.toArray⟩ ++ ⟨#[32]⟩ ++ ⟨v.toArray⟩ ++ ⟨#[10]⟩ : ByteArray) = ⟨(Y ++ Sv.lineTxt ([[99, 111, 110, 116], nm.data.toList, a, b, c, d, n] ++ [s, v])).toArray⟩ := by
  apply ByteArray.ext; simp [Sv.lineTxt, Lib.join]
theorem cellDX (W : World) (p : Addr) : W.drew.cell? p = W.cell? p := rfl
theorem contsTo_next (h : Hd) (k : Nat) : contsTo h (k + 1) = contsTo h k ++ contLine (ct h.pod.cs k) (gv h.gs k) := rfl
theorem bodyTo_nextX (hs : List Hd) (k : Nat) : bodyTo hs (k + 1) = bodyTo hs k ++ podTxt (hd hs k) := rfl
set_option maxRecDepth 100000 in
set_option maxHeartbeats 8000000 in
theorem heldText_any (v : Value) (hs : List Hd) (w : World) (h : HldsAt w v hs) (ok : OkL hs) : Calls Tryz.prog 12 #[v] w fun e w' => e = .returned (.string ⟨(heldTxt hs).toArray⟩) ∧ Below w.heap.size w w' := by
  obtain ⟨a1, c1, rfl, m1, h1⟩ := h
  unfold maxLen at m1
  have H1 := hideIt h1
  have HO := hideIt ok
  clear h1 ok
  go_enter Tryz.func12, Tryz.ntmps12
  go_wp2_with fail
  go_loopw [3, 4] (fun s i wr => ∃ k : Nat, k ≤ hs.length ∧ i = .int .i64 k ∧ s = .string ⟨(bodyTo hs k).toArray⟩ ∧ Below w.heap.size w wr) (fun _ i _ => hs.length - (intOf i).toNat)
  case atStart => exact ⟨0, by omega, rfl, rfl, Below.refl _ _⟩
  case round =>
    obtain ⟨k, hk, rfl, rfl, hB⟩ := hrel
    have HB := hideIt hB
    clear hB
    have hY : (bodyTo hs k).length ≤ 156000 := by
      have h1 := Sv.bodyTo_le HO.out k hk
      have h2 : k * 13000 ≤ 12 * 13000 := Nat.mul_le_mul_right _ (Nat.le_trans hk HO.out.1)
      omega
    by_cases hlt : k < hs.length
    · obtain ⟨b1, o1, cv1, gv1, rfl, hc1⟩ := H1.out (by omega)
      have hH := HO.out.2 _ (Sv.mem_hd hlt)
      have hC1 := ((hc1.below HB.out).2 k hlt).2
      obtain ⟨x0, x1, x2, x3⟩ := (hc1.below HB.out).atE hlt
      have hlb := (hc1.below HB.out).1
      have HNX := hideIt (bodyTo_nextX hs k)
      clear hc1 H1
      have hcon := hC1.1
      have hgiv := hC1.2
      obtain ⟨ca, cc, hcv, -, -⟩ := id hcon
      obtain ⟨ga, gc, hgv, -, -⟩ := id hgiv
      rw [hcv] at x2 hcon
      rw [hgv] at x3 hgiv
      have HCON := hideIt hcon
      have HGIV := hideIt hgiv
      clear hC1 hcv hgv hcon hgiv
      have HPL : Hid ((podTxt (hd hs k)) = podLine (hd hs k).pod ++ contsTo (hd hs k) (hd hs k).pod.cs.length) := rfl
      have HCN := hideIt (contsTo_next (hd hs k))
      have HCL := hideIt (Sv.contsTo_le hH)
      have HCK := hideIt (fun j (hj : j < (hd hs k).pod.cs.length) => Sv.okC_at hH hj)
      have hpl := Sv.podLine_le hH.1
      have hnm := (Sv.name_size hH.1.1).2
      have hpr := hH.1.2.1
      have hcs3 := hH.1.2.2.1
      have hgl := hH.2.1
      have HPB : Hid (podLine (hd hs k).pod = Sv.lineTxt [[112, 111, 100], (hd hs k).pod.nm.data.toList, Sv.dec (hd hs k).pod.pr]) := rfl
      have HC0 : Hid (contsTo (hd hs k) 0 = []) := rfl
      generalize bodyTo hs k = Y at *
      generalize hY1e : bodyTo hs (k + 1) = Y1 at HNX
      have HYE : Hid (bodyTo hs (k + 1) = Y1) := hY1e
      clear hY1e
      generalize contsTo (hd hs k) = CT at *
      generalize podTxt (hd hs k) = PT at *
      generalize podLine (hd hs k).pod = PL at *
      generalize hd hs k = x at *
      obtain ⟨⟨xn, xp, xc⟩, xg⟩ := x
      dsimp only at x0 x1 x2 x3 HCON HGIV HPL HCN HCL HCK hpl hnm hpr hcs3 hgl HPB
      have hnz : xn.size ≤ 8 := by simpa using hnm
      have hdl := Sv.dec_le xp (by omega)
      rw [hgl] at x3 HGIV
      clear hnm hH HO
      have HP0 := hideIt ((Below.refl wr.heap.size wr).alloc (Nat.le_refl _) (.cells #[.string xn, .int .i64 xp, .slice ca xc.length cc] 59))
      have HS0 := hideIt (show (wr.alloc (.cells #[.string xn, .int .i64 xp, .slice ca xc.length cc] 59)).drew.cell? ⟨wr.heap.size, 0, none⟩ = some (.string xn) ∧ (wr.alloc (.cells #[.string xn, .int .i64 xp, .slice ca xc.length cc] 59)).drew.cell? ⟨wr.heap.size, 1, none⟩ = some (.int .i64 xp) ∧ (wr.alloc (.cells #[.string xn, .int .i64 xp, .slice ca xc.length cc] 59)).drew.cell? ⟨wr.heap.size, 2, none⟩ = some (.slice ca xc.length cc) from ⟨by rw [cellDX]; simp, by rw [cellDX]; simp, by rw [cellDX]; simp⟩)
      have HX3 := hideIt ((HP0.out.cell (p := ⟨b1, o1 + k * 4 + 3, none⟩) hlb).trans x3)
      have HSZ : Hid ((wr.alloc (.cells #[.string xn, .int .i64 xp, .slice ca xc.length cc] 59)).heap.size = wr.heap.size + 1) := by unfold Hid; simp
      have HLB := hideIt hlb
      clear hlb x3
      go_wp2_with fail
      generalize (wr.alloc (.cells #[.string xn, .int .i64 xp, .slice ca xc.length cc] 59)) = W0 at *
      clear x0 x1 x2
      refine wp_region_held_drew (S := (fun w' => w'.cell? ⟨wr.heap.size, 0, none⟩ = some (.string xn) ∧ w'.cell? ⟨wr.heap.size, 1, none⟩ = some (.int .i64 xp) ∧ w'.cell? ⟨wr.heap.size, 2, none⟩ = some (.slice ca xc.length cc))) (by kernel_rfl) HS0.out (fun hHeld => ?_)
      refine wpAnyH_take (i := 0) (oi := { dst := some 19, op := Op.move (Operand.tmp 3), type := 9, pos := "ostler.go:437", after := #[], guard := none }) (v := ?v1x0) rfl (by kernel_rfl) (by kernel_rfl) (by kernel_rfl) (fun _ _ _ h => h) (Or.inl ⟨by rfl, ?h1x0⟩) (by assumption) ?r1x0
      case h1x0 =>
        intro w' hSw
        (try dsimp only at hSw)
        go_simp
        first | done | with_reducible rfl | rfl | (rw [if_neg (by omega)])
      (try simp only [Act.put, List.setIfInBounds_toArray, List.set_cons_zero, List.set_cons_succ])
      refine wpAnyH_take (i := 1) (oi := { dst := some 20, op := Op.binOp BinOp.add 9 (Operand.tmp 19) (Operand.const (Value.string { data := #[112, 111, 100, 32] })) 9, type := 9, pos := "ostler.go:437", after := #[{ on := 0, ground := Ground.data }], guard := none }) (v := ?v2x1) rfl (by kernel_rfl) (by kernel_rfl) (by kernel_rfl) (fun _ _ _ h => h) (Or.inl ⟨by rfl, ?h2x1⟩) (by assumption) ?r2x1
      case h2x1 =>
        intro w' hSw
        (try dsimp only at hSw)
        go_simp
        first | done | with_reducible rfl | rfl | (rw [if_neg (by omega)])
      (try simp only [Act.put, List.setIfInBounds_toArray, List.set_cons_zero, List.set_cons_succ])
      refine wpAnyH_take (i := 2) (oi := { dst := some 21, op := Op.fieldAddr 59 (Operand.tmp 5) 0, type := 0, pos := "ostler.go:437", after := #[], guard := none }) (v := ?v3x2) rfl (by kernel_rfl) (by kernel_rfl) (by kernel_rfl) (fun _ _ _ h => h) (Or.inl ⟨by rfl, ?h3x2⟩) (by assumption) ?r3x2
      case h3x2 =>
        intro w' hSw
        (try dsimp only at hSw)
        go_simp
        first | done | with_reducible rfl | rfl | (rw [if_neg (by omega)])
      (try simp only [Act.put, List.setIfInBounds_toArray, List.set_cons_zero, List.set_cons_succ])
      refine wpAnyH_take (i := 3) (oi := { dst := some 22, op := Op.load 9 (Operand.tmp 21), type := 9, pos := "ostler.go:437", after := #[{ on := 2, ground := Ground.data }], guard := none }) (v := ?v4x3) rfl (by kernel_rfl) (by kernel_rfl) (by kernel_rfl) (fun _ _ _ h => h) (Or.inl ⟨by rfl, ?h4x3⟩) (by assumption) ?r4x3
      case h4x3 =>
        intro w' hSw
        (try dsimp only at hSw)
        go_simp
        first | done | with_reducible rfl | rfl | (rw [if_neg (by omega)])
      (try simp only [Act.put, List.setIfInBounds_toArray, List.set_cons_zero, List.set_cons_succ])
      refine wpAnyH_take (i := 4) (oi := { dst := some 23, op := Op.binOp BinOp.add 9 (Operand.tmp 20) (Operand.tmp 22) 9, type := 9, pos := "ostler.go:437", after := #[{ on := 1, ground := Ground.data }, { on := 3, ground := Ground.data }], guard := none }) (v := ?v5x4) rfl (by kernel_rfl) (by kernel_rfl) (by kernel_rfl) (fun _ _ _ h => h) (Or.inl ⟨by rfl, ?h5x4⟩) (by assumption) ?r5x4
      case h5x4 =>
        intro w' hSw
        (try dsimp only at hSw)
        go_simp
        first | done | with_reducible rfl | rfl | (rw [if_neg (by omega)])
      (try simp only [Act.put, List.setIfInBounds_toArray, List.set_cons_zero, List.set_cons_succ])
      refine wpAnyH_take (i := 5) (oi := { dst := some 24, op := Op.binOp BinOp.add 9 (Operand.tmp 23) (Operand.const (Value.string { data := #[32] })) 9, type := 9, pos := "ostler.go:437", after := #[{ on := 4, ground := Ground.data }], guard := none }) (v := ?v6x5) rfl (by kernel_rfl) (by kernel_rfl) (by kernel_rfl) (fun _ _ _ h => h) (Or.inl ⟨by rfl, ?h6x5⟩) (by assumption) ?r6x5
      case h6x5 =>
        intro w' hSw
        (try dsimp only at hSw)
        go_simp
        first | done | with_reducible rfl | rfl | (rw [if_neg (by omega)])
      (try simp only [Act.put, List.setIfInBounds_toArray, List.set_cons_zero, List.set_cons_succ])
      refine wpAnyH_take (i := 6) (oi := { dst := some 25, op := Op.fieldAddr 59 (Operand.tmp 5) 1, type := 0, pos := "ostler.go:437", after := #[], guard := none }) (v := ?v7x6) rfl (by kernel_rfl) (by kernel_rfl) (by kernel_rfl) (fun _ _ _ h => h) (Or.inl ⟨by rfl, ?h7x6⟩) (by assumption) ?r7x6
      case h7x6 =>
        intro w' hSw
        (try dsimp only at hSw)
        go_simp
        first | done | with_reducible rfl | rfl | (rw [if_neg (by omega)])
      (try simp only [Act.put, List.setIfInBounds_toArray, List.set_cons_zero, List.set_cons_succ])
      refine wpAnyH_take (i := 7) (oi := { dst := some 26, op := Op.load 3 (Operand.tmp 25), type := 3, pos := "ostler.go:437", after := #[{ on := 6, ground := Ground.data }], guard := none }) (v := ?v8x7) rfl (by kernel_rfl) (by kernel_rfl) (by kernel_rfl) (fun _ _ _ h => h) (Or.inl ⟨by rfl, ?h8x7⟩) (by assumption) ?r8x7
      case h8x7 =>
        intro w' hSw
        (try dsimp only at hSw)
        go_simp
        first | done | with_reducible rfl | rfl | (rw [if_neg (by omega)])
      (try simp only [Act.put, List.setIfInBounds_toArray, List.set_cons_zero, List.set_cons_succ])
      refine wpAnyH_ready (rs := [8]) (by kernel_rfl) (by simp) (AllReadyH.cons rfl (fun K hK => ?_) AllReadyH.nil)
      go_simp
      go_wp2_with fail
      refine (decX xp _ hpr.1 (by omega)).mono ?_
      rintro e W1 ⟨rfl, hb1⟩
      have HW1 := hideIt (show Below W0.heap.size W0 W1 from ⟨hb1.os, hb1.tape, hb1.output, hb1.size, hb1.block⟩)
      have HS1 := hideIt (show W1.cell? ⟨wr.heap.size, 0, none⟩ = some (.string xn) ∧ W1.cell? ⟨wr.heap.size, 1, none⟩ = some (.int .i64 xp) ∧ W1.cell? ⟨wr.heap.size, 2, none⟩ = some (.slice ca xc.length cc) from ⟨(hb1.cell (p := ⟨wr.heap.size, 0, none⟩) (by show wr.heap.size < W0.heap.size; rw [HSZ.out]; omega)).trans HS0.out.1, (hb1.cell (p := ⟨wr.heap.size, 1, none⟩) (by show wr.heap.size < W0.heap.size; rw [HSZ.out]; omega)).trans HS0.out.2.1, (hb1.cell (p := ⟨wr.heap.size, 2, none⟩) (by show wr.heap.size < W0.heap.size; rw [HSZ.out]; omega)).trans HS0.out.2.2⟩)
      clear hb1
      generalize Sv.dec xp = D at *
      go_wp2_with fail
      refine hK.out _ _ HS1.out (fun hHeld => ?_)
      clear hK K
      refine wpAnyH_take (i := 9) (oi := { dst := some 28, op := Op.binOp BinOp.add 9 (Operand.tmp 24) (Operand.tmp 27) 9, type := 9, pos := "ostler.go:437", after := #[{ on := 5, ground := Ground.data }, { on := 8, ground := Ground.data }], guard := none }) (v := ?v9x9) rfl (by kernel_rfl) (by kernel_rfl) (by kernel_rfl) (fun _ _ _ h => h) (Or.inl ⟨by rfl, ?h9x9⟩) (by assumption) ?r9x9
      case h9x9 =>
        intro w' hSw
        (try dsimp only at hSw)
        go_simp
        first | done | with_reducible rfl | rfl | (rw [if_neg (by omega)])
      (try simp only [Act.put, List.setIfInBounds_toArray, List.set_cons_zero, List.set_cons_succ])
      refine wpAnyH_take (i := 10) (oi := { dst := some 29, op := Op.binOp BinOp.add 9 (Operand.tmp 28) (Operand.const (Value.string { data := #[10] })) 9, type := 9, pos := "ostler.go:437", after := #[{ on := 9, ground := Ground.data }], guard := none }) (v := ?v10x10) rfl (by kernel_rfl) (by kernel_rfl) (by kernel_rfl) (fun _ _ _ h => h) (Or.inl ⟨by rfl, ?h10x10⟩) (by assumption) ?r10x10
      case h10x10 =>
        intro w' hSw
        (try dsimp only at hSw)
        go_simp
        first | done | with_reducible rfl | rfl | (rw [if_neg (by omega)])
      (try simp only [Act.put, List.setIfInBounds_toArray, List.set_cons_zero, List.set_cons_succ])
      refine wpAnyH_take (i := 11) (oi := { dst := some 3, op := Op.assign (Operand.tmp 29), type := 9, pos := "ostler.go:437", after := #[{ on := 10, ground := Ground.data }, { on := 8, ground := Ground.chain }, { on := 0, ground := Ground.phase }, { on := 1, ground := Ground.phase }, { on := 2, ground := Ground.phase }, { on := 3, ground := Ground.phase }, { on := 4, ground := Ground.phase }, { on := 5, ground := Ground.phase }, { on := 6, ground := Ground.phase }, { on := 7, ground := Ground.phase }, { on := 8, ground := Ground.phase }, { on := 9, ground := Ground.phase }, { on := 10, ground := Ground.phase }], guard := none }) (v := ?v11x11) rfl (by kernel_rfl) (by kernel_rfl) (by kernel_rfl) (fun _ _ _ h => h) (Or.inl ⟨by rfl, ?h11x11⟩) (by assumption) ?r11x11
      case h11x11 =>
        intro w' hSw
        (try dsimp only at hSw)
        go_simp
        first | done | with_reducible rfl | rfl | (rw [if_neg (by omega)])
      (try simp only [Act.put, List.setIfInBounds_toArray, List.set_cons_zero, List.set_cons_succ])
      refine wpAnyH_done (by kernel_rfl) ?_ _
      clear HS0
      rw [podBytes, ← HPB.out]
      have hY1 : (Y ++ PL).length ≤ 156400 := by rw [List.length_append]; omega
      have HY1 : Hid (Y1 = Y ++ PL ++ CT xc.length) := by unfold Hid; rw [HNX.out, HPL.out, List.append_assoc]
      generalize Y ++ PL = Y0 at *
      have HBW := hideIt (HP0.out.trans (HW1.out.mono HP0.out.size))
      have HB1 := hideIt (HB.out.trans (HBW.out.mono HB.out.size))
      have hcon := HCON.out.below HBW.out
      have hgiv := (HGIV.out.below HBW.out).parts
      obtain ⟨_, _, hv, hcm, hcr⟩ := hcon
      cases hv
      obtain ⟨ga2, gc2, hv, hgm, hgr⟩ := hgiv
      injection hv with e1 e3 e2
      clear e3
      subst e1
      subst e2
      rw [hgl] at hgm hgr
      unfold maxLen at hcm hgm
      have HCR := hideIt hcr
      have HGR := hideIt hgr
      have HX4 := hideIt ((HW1.out.cell (p := ⟨b1, o1 + k * 4 + 3, none⟩) (Nat.lt_of_lt_of_le HLB.out HP0.out.size)).trans HX3.out)
      have HPl : Hid (wr.heap.size < W1.heap.size) := by have h1 := HW1.out.size; have h2 := HSZ.out; unfold Hid; omega
      have HLB1 := hideIt (Nat.lt_of_lt_of_le HLB.out HBW.out.size)
      have HS2 := hideIt HS1.out.2.2
      clear HNX HPL HPB HCON HGIV hcr hgr HX3 HW1 HP0 HSZ HBW HB HLB HS1 hpl hY hnz hdl hpr
      generalize wr.heap.size = P at *
      clear hHeld hgl
      go_wp2_with fail
      go_loopw [3, 6] (fun s i wq => ∃ j : Nat, j ≤ xc.length ∧ i = .int .i64 j ∧ s = .string ⟨(Y0 ++ CT j).toArray⟩ ∧ Below W1.heap.size W1 wq) (fun _ i _ => xc.length - (intOf i).toNat)
      case atStart => exact ⟨0, by omega, rfl, by rw [HC0.out, List.append_nil], Below.refl _ _⟩
      case round =>
        obtain ⟨j, hj, rfl, rfl, hb⟩ := hrel
        have r2 := (hb.cell (p := ⟨P, 2, none⟩) HPl.out).trans HS2.out
        have HX5 := hideIt ((hb.cell (p := ⟨b1, o1 + k * 4 + 3, none⟩) HLB1.out).trans HX4.out)
        have HLB2 := hideIt (Nat.lt_of_lt_of_le HLB1.out hb.size)
        have HBv := hideIt hb
        clear hb
        by_cases hjl : j < xc.length
        · have hYl : (Y0 ++ CT j).length ≤ 180000 := by
            have h1 := HCL.out j hj
            have h2 : j * 4000 ≤ 3 * 4000 := Nat.mul_le_mul_right _ (by omega)
            rw [List.length_append]; omega
          have HCNj : Hid (Y0 ++ CT (j + 1) = Y0 ++ CT j ++ contLine (ct xc j) (gv xg j)) := by unfold Hid; rw [HCN.out j, List.append_assoc]
          obtain ⟨hck, hcg⟩ := HCK.out j hjl
          obtain ⟨b2, o2, dv2, rfl, hc2⟩ := HCR.out (by omega)
          obtain ⟨x0, x1, x2, x3, x4, x5⟩ := (hc2.below HBv.out).at hjl
          have hnd := ((hc2.below HBv.out).2 j hjl).2
          obtain ⟨g1, g2, dv3, rfl, hu1, y0, y1, hi1⟩ := HGR.out j (by omega)
          have y0 := (HBv.out.cell (p := ⟨g1, g2 + j * 2, none⟩) hu1).trans y0
          have y1 := (HBv.out.cell (p := ⟨g1, g2 + j * 2 + 1, none⟩) hu1).trans y1
          have hi1 := hi1.below HBv.out
          have hlg := Nat.lt_of_lt_of_le hu1 HBv.out.size
          obtain ⟨na, nc, hn1, -, -⟩ := id hnd
          rw [hn1] at x5 hnd
          obtain ⟨da, dc, rfl, -, -⟩ := id hi1
          have HND := hideIt hnd
          have HI1 := hideIt hi1
          have HLG := hideIt hlg
          have HCL2 : Hid (contLine (ct xc j) (gv xg j) = Sv.lineTxt ([[99, 111, 110, 116], (ct xc j).nm.data.toList, Sv.dec (ct xc j).am, Sv.dec (ct xc j).ab, Sv.dec (ct xc j).cm, Sv.dec (ct xc j).cb, needsTxt (ct xc j).ds] ++ [setTxt (gv xg j).cp, devsTxt (gv xg j).dv])) := rfl
          rw [HCL2.out] at HCNj
          have hnm := (Sv.name_size hck.1).2
          obtain ⟨_, q1, q2, q3, q4, q5, q6⟩ := hck
          obtain ⟨p1, p2, p3⟩ := hcg
          have HQ6 := hideIt q6
          have HP3 := hideIt p3
          have l1 := Sv.dec_le (ct xc j).am (by omega)
          have l2 := Sv.dec_le (ct xc j).ab (by omega)
          have l3 := Sv.dec_le (ct xc j).cm (by omega)
          have l4 := Sv.dec_le (ct xc j).cb (by omega)
          have l5 := Sv.needsTxt_le q6 q5
          have l6 := Sv.setTxt_le (gv xg j).cp
          have l7 := Sv.devsTxt_le p3 p2
          clear hc2 hnd hi1 hn1 q6 p3 HCL2 HCL HCK HCN HCR HGR hu1 hlg
          generalize ct xc j = c at *
          generalize gv xg j = g at *
          generalize Y0 ++ CT j = Y at *
          generalize hY2 : Y0 ++ CT (j + 1) = Y2 at HCNj
          have HY2 := hideIt hY2
          clear hY2
          obtain ⟨cn, am, ab, cm, cb, ds⟩ := c
          obtain ⟨cp, dv⟩ := g
          dsimp only at *
          have hnz : cn.size ≤ 8 := by simpa using hnm
          clear hnm
          have HPA := hideIt ((Below.refl wr.heap.size wr).alloc (Nat.le_refl _) (.cells #[.string cn, .int .i64 am, .int .i64 ab, .int .i64 cm, .int .i64 cb, .slice na ds.length nc] 56))
          have HS0 := hideIt (show (wr.alloc (.cells #[.string cn, .int .i64 am, .int .i64 ab, .int .i64 cm, .int .i64 cb, .slice na ds.length nc] 56)).drew.cell? ⟨wr.heap.size, 0, none⟩ = some (.string cn) ∧ (wr.alloc (.cells #[.string cn, .int .i64 am, .int .i64 ab, .int .i64 cm, .int .i64 cb, .slice na ds.length nc] 56)).drew.cell? ⟨wr.heap.size, 1, none⟩ = some (.int .i64 am) ∧ (wr.alloc (.cells #[.string cn, .int .i64 am, .int .i64 ab, .int .i64 cm, .int .i64 cb, .slice na ds.length nc] 56)).drew.cell? ⟨wr.heap.size, 2, none⟩ = some (.int .i64 ab) ∧ (wr.alloc (.cells #[.string cn, .int .i64 am, .int .i64 ab, .int .i64 cm, .int .i64 cb, .slice na ds.length nc] 56)).drew.cell? ⟨wr.heap.size, 3, none⟩ = some (.int .i64 cm) ∧ (wr.alloc (.cells #[.string cn, .int .i64 am, .int .i64 ab, .int .i64 cm, .int .i64 cb, .slice na ds.length nc] 56)).drew.cell? ⟨wr.heap.size, 4, none⟩ = some (.int .i64 cb) ∧ (wr.alloc (.cells #[.string cn, .int .i64 am, .int .i64 ab, .int .i64 cm, .int .i64 cb, .slice na ds.length nc] 56)).drew.cell? ⟨wr.heap.size, 5, none⟩ = some (.slice na ds.length nc) ∧ (wr.alloc (.cells #[.string cn, .int .i64 am, .int .i64 ab, .int .i64 cm, .int .i64 cb, .slice na ds.length nc] 56)).drew.cell? ⟨b1, o1 + k * 4 + 3, none⟩ = some (.slice (some ⟨g1, g2, none⟩) xc.length gc) ∧ (wr.alloc (.cells #[.string cn, .int .i64 am, .int .i64 ab, .int .i64 cm, .int .i64 cb, .slice na ds.length nc] 56)).drew.cell? ⟨g1, g2 + j * 2, none⟩ = some (.int .u64 cp) ∧ (wr.alloc (.cells #[.string cn, .int .i64 am, .int .i64 ab, .int .i64 cm, .int .i64 cb, .slice na ds.length nc] 56)).drew.cell? ⟨g1, g2 + j * 2 + 1, none⟩ = some (.slice da dv.length dc) from ⟨by rw [cellDX]; simp, by rw [cellDX]; simp, by rw [cellDX]; simp, by rw [cellDX]; simp, by rw [cellDX]; simp, by rw [cellDX]; simp, (HPA.out.cell (p := ⟨b1, o1 + k * 4 + 3, none⟩) HLB2.out).trans HX5.out, (HPA.out.cell (p := ⟨g1, g2 + j * 2, none⟩) HLG.out).trans y0, (HPA.out.cell (p := ⟨g1, g2 + j * 2 + 1, none⟩) HLG.out).trans y1⟩)
          have HSZ : Hid ((wr.alloc (.cells #[.string cn, .int .i64 am, .int .i64 ab, .int .i64 cm, .int .i64 cb, .slice na ds.length nc] 56)).heap.size = wr.heap.size + 1) := by unfold Hid; simp
          clear y0 y1
          go_wp2_with fail
          generalize (wr.alloc (.cells #[.string cn, .int .i64 am, .int .i64 ab, .int .i64 cm, .int .i64 cb, .slice na ds.length nc] 56)) = WC at *
          clear x0 x1 x2 x3 x4 x5
          refine wp_region_held_drew (S := (fun w' => w'.cell? ⟨wr.heap.size, 0, none⟩ = some (.string cn) ∧ w'.cell? ⟨wr.heap.size, 1, none⟩ = some (.int .i64 am) ∧ w'.cell? ⟨wr.heap.size, 2, none⟩ = some (.int .i64 ab) ∧ w'.cell? ⟨wr.heap.size, 3, none⟩ = some (.int .i64 cm) ∧ w'.cell? ⟨wr.heap.size, 4, none⟩ = some (.int .i64 cb) ∧ w'.cell? ⟨wr.heap.size, 5, none⟩ = some (.slice na ds.length nc) ∧ w'.cell? ⟨b1, o1 + k * 4 + 3, none⟩ = some (.slice (some ⟨g1, g2, none⟩) xc.length gc) ∧ w'.cell? ⟨g1, g2 + j * 2, none⟩ = some (.int .u64 cp) ∧ w'.cell? ⟨g1, g2 + j * 2 + 1, none⟩ = some (.slice da dv.length dc))) (by kernel_rfl) HS0.out (fun hHeld => ?_)
          refine wpAnyH_take (i := 0) (oi := { dst := some 42, op := Op.move (Operand.tmp 3), type := 9, pos := "ostler.go:440", after := #[], guard := none }) (v := ?v12x0) rfl (by kernel_rfl) (by kernel_rfl) (by kernel_rfl) (fun _ _ _ h => h) (Or.inl ⟨by rfl, ?h12x0⟩) (by assumption) ?r12x0
          case h12x0 =>
            intro w' hSw
            (try dsimp only at hSw)
            go_simp
            first | done | with_reducible rfl | rfl | (rw [if_neg (by omega)])
          (try simp only [Act.put, List.setIfInBounds_toArray, List.set_cons_zero, List.set_cons_succ])
          refine wpAnyH_take (i := 1) (oi := { dst := some 43, op := Op.binOp BinOp.add 9 (Operand.tmp 42) (Operand.const (Value.string { data := #[99, 111, 110, 116, 32] })) 9, type := 9, pos := "ostler.go:440", after := #[{ on := 0, ground := Ground.data }], guard := none }) (v := ?v13x1) rfl (by kernel_rfl) (by kernel_rfl) (by kernel_rfl) (fun _ _ _ h => h) (Or.inl ⟨by rfl, ?h13x1⟩) (by assumption) ?r13x1
          case h13x1 =>
            intro w' hSw
            (try dsimp only at hSw)
            go_simp
            first | done | with_reducible rfl | rfl | (rw [if_neg (by omega)])
          (try simp only [Act.put, List.setIfInBounds_toArray, List.set_cons_zero, List.set_cons_succ])
          refine wpAnyH_take (i := 2) (oi := { dst := some 44, op := Op.fieldAddr 56 (Operand.tmp 7) 0, type := 0, pos := "ostler.go:440", after := #[], guard := none }) (v := ?v14x2) rfl (by kernel_rfl) (by kernel_rfl) (by kernel_rfl) (fun _ _ _ h => h) (Or.inl ⟨by rfl, ?h14x2⟩) (by assumption) ?r14x2
          case h14x2 =>
            intro w' hSw
            (try dsimp only at hSw)
            go_simp
            first | done | with_reducible rfl | rfl | (rw [if_neg (by omega)])
          (try simp only [Act.put, List.setIfInBounds_toArray, List.set_cons_zero, List.set_cons_succ])
          refine wpAnyH_take (i := 3) (oi := { dst := some 45, op := Op.load 9 (Operand.tmp 44), type := 9, pos := "ostler.go:440", after := #[{ on := 2, ground := Ground.data }], guard := none }) (v := ?v15x3) rfl (by kernel_rfl) (by kernel_rfl) (by kernel_rfl) (fun _ _ _ h => h) (Or.inl ⟨by rfl, ?h15x3⟩) (by assumption) ?r15x3
          case h15x3 =>
            intro w' hSw
            (try dsimp only at hSw)
            go_simp
            first | done | with_reducible rfl | rfl | (rw [if_neg (by omega)])
          (try simp only [Act.put, List.setIfInBounds_toArray, List.set_cons_zero, List.set_cons_succ])
          refine wpAnyH_take (i := 4) (oi := { dst := some 46, op := Op.binOp BinOp.add 9 (Operand.tmp 43) (Operand.tmp 45) 9, type := 9, pos := "ostler.go:440", after := #[{ on := 1, ground := Ground.data }, { on := 3, ground := Ground.data }], guard := none }) (v := ?v16x4) rfl (by kernel_rfl) (by kernel_rfl) (by kernel_rfl) (fun _ _ _ h => h) (Or.inl ⟨by rfl, ?h16x4⟩) (by assumption) ?r16x4
          case h16x4 =>
            intro w' hSw
            (try dsimp only at hSw)
            go_simp
            first | done | with_reducible rfl | rfl | (rw [if_neg (by omega)])
          (try simp only [Act.put, List.setIfInBounds_toArray, List.set_cons_zero, List.set_cons_succ])
          refine wpAnyH_take (i := 5) (oi := { dst := some 47, op := Op.binOp BinOp.add 9 (Operand.tmp 46) (Operand.const (Value.string { data := #[32] })) 9, type := 9, pos := "ostler.go:440", after := #[{ on := 4, ground := Ground.data }], guard := none }) (v := ?v17x5) rfl (by kernel_rfl) (by kernel_rfl) (by kernel_rfl) (fun _ _ _ h => h) (Or.inl ⟨by rfl, ?h17x5⟩) (by assumption) ?r17x5
          case h17x5 =>
            intro w' hSw
            (try dsimp only at hSw)
            go_simp
            first | done | with_reducible rfl | rfl | (rw [if_neg (by omega)])
          (try simp only [Act.put, List.setIfInBounds_toArray, List.set_cons_zero, List.set_cons_succ])
          refine wpAnyH_take (i := 6) (oi := { dst := some 48, op := Op.fieldAddr 56 (Operand.tmp 7) 1, type := 0, pos := "ostler.go:440", after := #[], guard := none }) (v := ?v18x6) rfl (by kernel_rfl) (by kernel_rfl) (by kernel_rfl) (fun _ _ _ h => h) (Or.inl ⟨by rfl, ?h18x6⟩) (by assumption) ?r18x6
          case h18x6 =>
            intro w' hSw
            (try dsimp only at hSw)
            go_simp
            first | done | with_reducible rfl | rfl | (rw [if_neg (by omega)])
          (try simp only [Act.put, List.setIfInBounds_toArray, List.set_cons_zero, List.set_cons_succ])
          refine wpAnyH_take (i := 7) (oi := { dst := some 49, op := Op.fieldAddr 53 (Operand.tmp 48) 0, type := 0, pos := "ostler.go:440", after := #[{ on := 6, ground := Ground.data }], guard := none }) (v := ?v19x7) rfl (by kernel_rfl) (by kernel_rfl) (by kernel_rfl) (fun _ _ _ h => h) (Or.inl ⟨by rfl, ?h19x7⟩) (by assumption) ?r19x7
          case h19x7 =>
            intro w' hSw
            (try dsimp only at hSw)
            go_simp
            first | done | with_reducible rfl | rfl | (rw [if_neg (by omega)])
          (try simp only [Act.put, List.setIfInBounds_toArray, List.set_cons_zero, List.set_cons_succ])
          refine wpAnyH_take (i := 8) (oi := { dst := some 50, op := Op.load 3 (Operand.tmp 49), type := 3, pos := "ostler.go:440", after := #[{ on := 7, ground := Ground.data }], guard := none }) (v := ?v20x8) rfl (by kernel_rfl) (by kernel_rfl) (by kernel_rfl) (fun _ _ _ h => h) (Or.inl ⟨by rfl, ?h20x8⟩) (by assumption) ?r20x8
          case h20x8 =>
            intro w' hSw
            (try dsimp only at hSw)
            go_simp
            first | done | with_reducible rfl | rfl | (rw [if_neg (by omega)])
          (try simp only [Act.put, List.setIfInBounds_toArray, List.set_cons_zero, List.set_cons_succ])
          refine wpAnyH_take (i := 12) (oi := { dst := some 54, op := Op.fieldAddr 56 (Operand.tmp 7) 1, type := 0, pos := "ostler.go:440", after := #[], guard := none }) (v := ?v21x12) rfl (by kernel_rfl) (by kernel_rfl) (by kernel_rfl) (fun _ _ _ h => h) (Or.inl ⟨by rfl, ?h21x12⟩) (by assumption) ?r21x12
          case h21x12 =>
            intro w' hSw
            (try dsimp only at hSw)
            go_simp
            first | done | with_reducible rfl | rfl | (rw [if_neg (by omega)])
          (try simp only [Act.put, List.setIfInBounds_toArray, List.set_cons_zero, List.set_cons_succ])
          refine wpAnyH_take (i := 13) (oi := { dst := some 55, op := Op.fieldAddr 53 (Operand.tmp 54) 1, type := 0, pos := "ostler.go:440", after := #[{ on := 12, ground := Ground.data }], guard := none }) (v := ?v22x13) rfl (by kernel_rfl) (by kernel_rfl) (by kernel_rfl) (fun _ _ _ h => h) (Or.inl ⟨by rfl, ?h22x13⟩) (by assumption) ?r22x13
          case h22x13 =>
            intro w' hSw
            (try dsimp only at hSw)
            go_simp
            first | done | with_reducible rfl | rfl | (rw [if_neg (by omega)])
          (try simp only [Act.put, List.setIfInBounds_toArray, List.set_cons_zero, List.set_cons_succ])
          refine wpAnyH_take (i := 14) (oi := { dst := some 56, op := Op.load 3 (Operand.tmp 55), type := 3, pos := "ostler.go:440", after := #[{ on := 13, ground := Ground.data }], guard := none }) (v := ?v23x14) rfl (by kernel_rfl) (by kernel_rfl) (by kernel_rfl) (fun _ _ _ h => h) (Or.inl ⟨by rfl, ?h23x14⟩) (by assumption) ?r23x14
          case h23x14 =>
            intro w' hSw
            (try dsimp only at hSw)
            go_simp
            first | done | with_reducible rfl | rfl | (rw [if_neg (by omega)])
          (try simp only [Act.put, List.setIfInBounds_toArray, List.set_cons_zero, List.set_cons_succ])
          refine wpAnyH_take (i := 18) (oi := { dst := some 60, op := Op.fieldAddr 56 (Operand.tmp 7) 2, type := 0, pos := "ostler.go:440", after := #[], guard := none }) (v := ?v24x18) rfl (by kernel_rfl) (by kernel_rfl) (by kernel_rfl) (fun _ _ _ h => h) (Or.inl ⟨by rfl, ?h24x18⟩) (by assumption) ?r24x18
          case h24x18 =>
            intro w' hSw
            (try dsimp only at hSw)
            go_simp
            first | done | with_reducible rfl | rfl | (rw [if_neg (by omega)])
          (try simp only [Act.put, List.setIfInBounds_toArray, List.set_cons_zero, List.set_cons_succ])
          refine wpAnyH_take (i := 19) (oi := { dst := some 61, op := Op.fieldAddr 53 (Operand.tmp 60) 0, type := 0, pos := "ostler.go:440", after := #[{ on := 18, ground := Ground.data }], guard := none }) (v := ?v25x19) rfl (by kernel_rfl) (by kernel_rfl) (by kernel_rfl) (fun _ _ _ h => h) (Or.inl ⟨by rfl, ?h25x19⟩) (by assumption) ?r25x19
          case h25x19 =>
            intro w' hSw
            (try dsimp only at hSw)
            go_simp
            first | done | with_reducible rfl | rfl | (rw [if_neg (by omega)])
          (try simp only [Act.put, List.setIfInBounds_toArray, List.set_cons_zero, List.set_cons_succ])
          refine wpAnyH_take (i := 20) (oi := { dst := some 62, op := Op.load 3 (Operand.tmp 61), type := 3, pos := "ostler.go:440", after := #[{ on := 19, ground := Ground.data }], guard := none }) (v := ?v26x20) rfl (by kernel_rfl) (by kernel_rfl) (by kernel_rfl) (fun _ _ _ h => h) (Or.inl ⟨by rfl, ?h26x20⟩) (by assumption) ?r26x20
          case h26x20 =>
            intro w' hSw
            (try dsimp only at hSw)
            go_simp
            first | done | with_reducible rfl | rfl | (rw [if_neg (by omega)])
          (try simp only [Act.put, List.setIfInBounds_toArray, List.set_cons_zero, List.set_cons_succ])
          refine wpAnyH_take (i := 24) (oi := { dst := some 66, op := Op.fieldAddr 56 (Operand.tmp 7) 2, type := 0, pos := "ostler.go:440", after := #[], guard := none }) (v := ?v27x24) rfl (by kernel_rfl) (by kernel_rfl) (by kernel_rfl) (fun _ _ _ h => h) (Or.inl ⟨by rfl, ?h27x24⟩) (by assumption) ?r27x24
          case h27x24 =>
            intro w' hSw
            (try dsimp only at hSw)
            go_simp
            first | done | with_reducible rfl | rfl | (rw [if_neg (by omega)])
          (try simp only [Act.put, List.setIfInBounds_toArray, List.set_cons_zero, List.set_cons_succ])
          refine wpAnyH_take (i := 25) (oi := { dst := some 67, op := Op.fieldAddr 53 (Operand.tmp 66) 1, type := 0, pos := "ostler.go:440", after := #[{ on := 24, ground := Ground.data }], guard := none }) (v := ?v28x25) rfl (by kernel_rfl) (by kernel_rfl) (by kernel_rfl) (fun _ _ _ h => h) (Or.inl ⟨by rfl, ?h28x25⟩) (by assumption) ?r28x25
          case h28x25 =>
            intro w' hSw
            (try dsimp only at hSw)
            go_simp
            first | done | with_reducible rfl | rfl | (rw [if_neg (by omega)])
          (try simp only [Act.put, List.setIfInBounds_toArray, List.set_cons_zero, List.set_cons_succ])
          refine wpAnyH_take (i := 26) (oi := { dst := some 68, op := Op.load 3 (Operand.tmp 67), type := 3, pos := "ostler.go:440", after := #[{ on := 25, ground := Ground.data }], guard := none }) (v := ?v29x26) rfl (by kernel_rfl) (by kernel_rfl) (by kernel_rfl) (fun _ _ _ h => h) (Or.inl ⟨by rfl, ?h29x26⟩) (by assumption) ?r29x26
          case h29x26 =>
            intro w' hSw
            (try dsimp only at hSw)
            go_simp
            first | done | with_reducible rfl | rfl | (rw [if_neg (by omega)])
          (try simp only [Act.put, List.setIfInBounds_toArray, List.set_cons_zero, List.set_cons_succ])
          refine wpAnyH_take (i := 30) (oi := { dst := some 72, op := Op.fieldAddr 56 (Operand.tmp 7) 3, type := 0, pos := "ostler.go:440", after := #[], guard := none }) (v := ?v30x30) rfl (by kernel_rfl) (by kernel_rfl) (by kernel_rfl) (fun _ _ _ h => h) (Or.inl ⟨by rfl, ?h30x30⟩) (by assumption) ?r30x30
          case h30x30 =>
            intro w' hSw
            (try dsimp only at hSw)
            go_simp
            first | done | with_reducible rfl | rfl | (rw [if_neg (by omega)])
          (try simp only [Act.put, List.setIfInBounds_toArray, List.set_cons_zero, List.set_cons_succ])
          refine wpAnyH_take (i := 31) (oi := { dst := some 73, op := Op.load 54 (Operand.tmp 72), type := 54, pos := "ostler.go:440", after := #[{ on := 30, ground := Ground.data }], guard := none }) (v := ?v31x31) rfl (by kernel_rfl) (by kernel_rfl) (by kernel_rfl) (fun _ _ _ h => h) (Or.inl ⟨by rfl, ?h31x31⟩) (by assumption) ?r31x31
          case h31x31 =>
            intro w' hSw
            (try dsimp only at hSw)
            go_simp
            first | done | with_reducible rfl | rfl | (rw [if_neg (by omega)])
          (try simp only [Act.put, List.setIfInBounds_toArray, List.set_cons_zero, List.set_cons_succ])
          refine wpAnyH_take (i := 35) (oi := { dst := some 77, op := Op.move (Operand.tmp 0), type := 22, pos := "ostler.go:440", after := #[], guard := none }) (v := ?v32x35) rfl (by kernel_rfl) (by kernel_rfl) (by kernel_rfl) (fun _ _ _ h => h) (Or.inl ⟨by rfl, ?h32x35⟩) (by assumption) ?r32x35
          case h32x35 =>
            intro w' hSw
            (try dsimp only at hSw)
            go_simp
            first | done | with_reducible rfl | rfl | (rw [if_neg (by omega)])
          (try simp only [Act.put, List.setIfInBounds_toArray, List.set_cons_zero, List.set_cons_succ])
          refine wpAnyH_take (i := 36) (oi := { dst := some 78, op := Op.move (Operand.tmp 4), type := 3, pos := "ostler.go:440", after := #[], guard := none }) (v := ?v33x36) rfl (by kernel_rfl) (by kernel_rfl) (by kernel_rfl) (fun _ _ _ h => h) (Or.inl ⟨by rfl, ?h33x36⟩) (by assumption) ?r33x36
          case h33x36 =>
            intro w' hSw
            (try dsimp only at hSw)
            go_simp
            first | done | with_reducible rfl | rfl | (rw [if_neg (by omega)])
          (try simp only [Act.put, List.setIfInBounds_toArray, List.set_cons_zero, List.set_cons_succ])
          refine wpAnyH_take (i := 37) (oi := { dst := some 79, op := Op.indexAddr 22 (Operand.tmp 77) (Operand.tmp 78), type := 0, pos := "ostler.go:440", after := #[{ on := 35, ground := Ground.data }, { on := 36, ground := Ground.data }], guard := none }) (v := ?v34x37) rfl (by kernel_rfl) (by kernel_rfl) (by kernel_rfl) (fun _ _ _ h => h) (Or.inl ⟨by rfl, ?h34x37⟩) (by assumption) ?r34x37
          case h34x37 =>
            intro w' hSw
            (try dsimp only at hSw)
            go_simp
            first | done | with_reducible rfl | rfl | (rw [if_neg (by omega)])
          (try simp only [Act.put, List.setIfInBounds_toArray, List.set_cons_zero, List.set_cons_succ])
          refine wpAnyH_take (i := 38) (oi := { dst := some 80, op := Op.fieldAddr 67 (Operand.tmp 79) 1, type := 0, pos := "ostler.go:440", after := #[{ on := 37, ground := Ground.data }], guard := none }) (v := ?v35x38) rfl (by kernel_rfl) (by kernel_rfl) (by kernel_rfl) (fun _ _ _ h => h) (Or.inl ⟨by rfl, ?h35x38⟩) (by assumption) ?r35x38
          case h35x38 =>
            intro w' hSw
            (try dsimp only at hSw)
            go_simp
            first | done | with_reducible rfl | rfl | (rw [if_neg (by omega)])
          (try simp only [Act.put, List.setIfInBounds_toArray, List.set_cons_zero, List.set_cons_succ])
          refine wpAnyH_take (i := 39) (oi := { dst := some 81, op := Op.load 65 (Operand.tmp 80), type := 65, pos := "ostler.go:440", after := #[{ on := 38, ground := Ground.data }], guard := none }) (v := ?v36x39) rfl (by kernel_rfl) (by kernel_rfl) (by kernel_rfl) (fun _ _ _ h => h) (Or.inl ⟨by rfl, ?h36x39⟩) (by assumption) ?r36x39
          case h36x39 =>
            intro w' hSw
            (try dsimp only at hSw)
            go_simp
            first | done | with_reducible rfl | rfl | (rw [if_neg (by omega)])
          (try simp only [Act.put, List.setIfInBounds_toArray, List.set_cons_zero, List.set_cons_succ])
          refine wpAnyH_take (i := 40) (oi := { dst := some 82, op := Op.move (Operand.tmp 6), type := 3, pos := "ostler.go:440", after := #[], guard := none }) (v := ?v37x40) rfl (by kernel_rfl) (by kernel_rfl) (by kernel_rfl) (fun _ _ _ h => h) (Or.inl ⟨by rfl, ?h37x40⟩) (by assumption) ?r37x40
          case h37x40 =>
            intro w' hSw
            (try dsimp only at hSw)
            go_simp
            first | done | with_reducible rfl | rfl | (rw [if_neg (by omega)])
          (try simp only [Act.put, List.setIfInBounds_toArray, List.set_cons_zero, List.set_cons_succ])
          refine wpAnyH_take (i := 41) (oi := { dst := some 83, op := Op.indexAddr 65 (Operand.tmp 81) (Operand.tmp 82), type := 0, pos := "ostler.go:440", after := #[{ on := 39, ground := Ground.data }, { on := 40, ground := Ground.data }], guard := none }) (v := ?v38x41) rfl (by kernel_rfl) (by kernel_rfl) (by kernel_rfl) (fun _ _ _ h => h) (Or.inl ⟨by rfl, ?h38x41⟩) (by assumption) ?r38x41
          case h38x41 =>
            intro w' hSw
            (try dsimp only at hSw)
            go_simp
            first | done | with_reducible rfl | rfl | (rw [if_neg (by omega)])
          (try simp only [Act.put, List.setIfInBounds_toArray, List.set_cons_zero, List.set_cons_succ])
          refine wpAnyH_take (i := 42) (oi := { dst := some 84, op := Op.fieldAddr 64 (Operand.tmp 83) 0, type := 0, pos := "ostler.go:440", after := #[{ on := 41, ground := Ground.data }], guard := none }) (v := ?v39x42) rfl (by kernel_rfl) (by kernel_rfl) (by kernel_rfl) (fun _ _ _ h => h) (Or.inl ⟨by rfl, ?h39x42⟩) (by assumption) ?r39x42
          case h39x42 =>
            intro w' hSw
            (try dsimp only at hSw)
            go_simp
            first | done | with_reducible rfl | rfl | (rw [if_neg (by omega)])
          (try simp only [Act.put, List.setIfInBounds_toArray, List.set_cons_zero, List.set_cons_succ])
          refine wpAnyH_take (i := 43) (oi := { dst := some 85, op := Op.load 61 (Operand.tmp 84), type := 61, pos := "ostler.go:440", after := #[{ on := 42, ground := Ground.data }], guard := none }) (v := ?v40x43) rfl (by kernel_rfl) (by kernel_rfl) (by kernel_rfl) (fun _ _ _ h => h) (Or.inl ⟨by rfl, ?h40x43⟩) (by assumption) ?r40x43
          case h40x43 =>
            intro w' hSw
            (try dsimp only at hSw)
            go_simp
            first | done | with_reducible rfl | rfl | (rw [if_neg (by omega)])
          (try simp only [Act.put, List.setIfInBounds_toArray, List.set_cons_zero, List.set_cons_succ])
          refine wpAnyH_take (i := 47) (oi := { dst := some 89, op := Op.move (Operand.tmp 0), type := 22, pos := "ostler.go:440", after := #[], guard := none }) (v := ?v41x47) rfl (by kernel_rfl) (by kernel_rfl) (by kernel_rfl) (fun _ _ _ h => h) (Or.inl ⟨by rfl, ?h41x47⟩) (by assumption) ?r41x47
          case h41x47 =>
            intro w' hSw
            (try dsimp only at hSw)
            go_simp
            first | done | with_reducible rfl | rfl | (rw [if_neg (by omega)])
          (try simp only [Act.put, List.setIfInBounds_toArray, List.set_cons_zero, List.set_cons_succ])
          refine wpAnyH_take (i := 48) (oi := { dst := some 90, op := Op.move (Operand.tmp 4), type := 3, pos := "ostler.go:440", after := #[], guard := none }) (v := ?v42x48) rfl (by kernel_rfl) (by kernel_rfl) (by kernel_rfl) (fun _ _ _ h => h) (Or.inl ⟨by rfl, ?h42x48⟩) (by assumption) ?r42x48
          case h42x48 =>
            intro w' hSw
            (try dsimp only at hSw)
            go_simp
            first | done | with_reducible rfl | rfl | (rw [if_neg (by omega)])
          (try simp only [Act.put, List.setIfInBounds_toArray, List.set_cons_zero, List.set_cons_succ])
          refine wpAnyH_take (i := 49) (oi := { dst := some 91, op := Op.indexAddr 22 (Operand.tmp 89) (Operand.tmp 90), type := 0, pos := "ostler.go:440", after := #[{ on := 47, ground := Ground.data }, { on := 48, ground := Ground.data }], guard := none }) (v := ?v43x49) rfl (by kernel_rfl) (by kernel_rfl) (by kernel_rfl) (fun _ _ _ h => h) (Or.inl ⟨by rfl, ?h43x49⟩) (by assumption) ?r43x49
          case h43x49 =>
            intro w' hSw
            (try dsimp only at hSw)
            go_simp
            first | done | with_reducible rfl | rfl | (rw [if_neg (by omega)])
          (try simp only [Act.put, List.setIfInBounds_toArray, List.set_cons_zero, List.set_cons_succ])
          refine wpAnyH_take (i := 50) (oi := { dst := some 92, op := Op.fieldAddr 67 (Operand.tmp 91) 1, type := 0, pos := "ostler.go:440", after := #[{ on := 49, ground := Ground.data }], guard := none }) (v := ?v44x50) rfl (by kernel_rfl) (by kernel_rfl) (by kernel_rfl) (fun _ _ _ h => h) (Or.inl ⟨by rfl, ?h44x50⟩) (by assumption) ?r44x50
          case h44x50 =>
            intro w' hSw
            (try dsimp only at hSw)
            go_simp
            first | done | with_reducible rfl | rfl | (rw [if_neg (by omega)])
          (try simp only [Act.put, List.setIfInBounds_toArray, List.set_cons_zero, List.set_cons_succ])
          refine wpAnyH_take (i := 51) (oi := { dst := some 93, op := Op.load 65 (Operand.tmp 92), type := 65, pos := "ostler.go:440", after := #[{ on := 50, ground := Ground.data }], guard := none }) (v := ?v45x51) rfl (by kernel_rfl) (by kernel_rfl) (by kernel_rfl) (fun _ _ _ h => h) (Or.inl ⟨by rfl, ?h45x51⟩) (by assumption) ?r45x51
          case h45x51 =>
            intro w' hSw
            (try dsimp only at hSw)
            go_simp
            first | done | with_reducible rfl | rfl | (rw [if_neg (by omega)])
          (try simp only [Act.put, List.setIfInBounds_toArray, List.set_cons_zero, List.set_cons_succ])
          refine wpAnyH_take (i := 52) (oi := { dst := some 94, op := Op.move (Operand.tmp 6), type := 3, pos := "ostler.go:440", after := #[], guard := none }) (v := ?v46x52) rfl (by kernel_rfl) (by kernel_rfl) (by kernel_rfl) (fun _ _ _ h => h) (Or.inl ⟨by rfl, ?h46x52⟩) (by assumption) ?r46x52
          case h46x52 =>
            intro w' hSw
            (try dsimp only at hSw)
            go_simp
            first | done | with_reducible rfl | rfl | (rw [if_neg (by omega)])
          (try simp only [Act.put, List.setIfInBounds_toArray, List.set_cons_zero, List.set_cons_succ])
          refine wpAnyH_take (i := 53) (oi := { dst := some 95, op := Op.indexAddr 65 (Operand.tmp 93) (Operand.tmp 94), type := 0, pos := "ostler.go:440", after := #[{ on := 51, ground := Ground.data }, { on := 52, ground := Ground.data }], guard := none }) (v := ?v47x53) rfl (by kernel_rfl) (by kernel_rfl) (by kernel_rfl) (fun _ _ _ h => h) (Or.inl ⟨by rfl, ?h47x53⟩) (by assumption) ?r47x53
          case h47x53 =>
            intro w' hSw
            (try dsimp only at hSw)
            go_simp
            first | done | with_reducible rfl | rfl | (rw [if_neg (by omega)])
          (try simp only [Act.put, List.setIfInBounds_toArray, List.set_cons_zero, List.set_cons_succ])
          refine wpAnyH_take (i := 54) (oi := { dst := some 96, op := Op.fieldAddr 64 (Operand.tmp 95) 1, type := 0, pos := "ostler.go:440", after := #[{ on := 53, ground := Ground.data }], guard := none }) (v := ?v48x54) rfl (by kernel_rfl) (by kernel_rfl) (by kernel_rfl) (fun _ _ _ h => h) (Or.inl ⟨by rfl, ?h48x54⟩) (by assumption) ?r48x54
          case h48x54 =>
            intro w' hSw
            (try dsimp only at hSw)
            go_simp
            first | done | with_reducible rfl | rfl | (rw [if_neg (by omega)])
          (try simp only [Act.put, List.setIfInBounds_toArray, List.set_cons_zero, List.set_cons_succ])
          refine wpAnyH_take (i := 55) (oi := { dst := some 97, op := Op.load 62 (Operand.tmp 96), type := 62, pos := "ostler.go:440", after := #[{ on := 54, ground := Ground.data }], guard := none }) (v := ?v49x55) rfl (by kernel_rfl) (by kernel_rfl) (by kernel_rfl) (fun _ _ _ h => h) (Or.inl ⟨by rfl, ?h49x55⟩) (by assumption) ?r49x55
          case h49x55 =>
            intro w' hSw
            (try dsimp only at hSw)
            go_simp
            first | done | with_reducible rfl | rfl | (rw [if_neg (by omega)])
          (try simp only [Act.put, List.setIfInBounds_toArray, List.set_cons_zero, List.set_cons_succ])
          refine wpAnyH_ready (rs := [9]) (by kernel_rfl) (by simp) (AllReadyH.cons rfl (fun K hK => ?_) AllReadyH.nil)
          go_simp
          go_wp2_with fail
          refine (decX am _ q1.1 (by omega)).mono ?_
          rintro e X1 ⟨rfl, hb1⟩
          have HXX1 := hideIt (show Below WC.heap.size WC X1 from ⟨hb1.os, hb1.tape, hb1.output, hb1.size, hb1.block⟩)
          have HS1 := hideIt (show X1.cell? ⟨wr.heap.size, 0, none⟩ = some (.string cn) ∧ X1.cell? ⟨wr.heap.size, 1, none⟩ = some (.int .i64 am) ∧ X1.cell? ⟨wr.heap.size, 2, none⟩ = some (.int .i64 ab) ∧ X1.cell? ⟨wr.heap.size, 3, none⟩ = some (.int .i64 cm) ∧ X1.cell? ⟨wr.heap.size, 4, none⟩ = some (.int .i64 cb) ∧ X1.cell? ⟨wr.heap.size, 5, none⟩ = some (.slice na ds.length nc) ∧ X1.cell? ⟨b1, o1 + k * 4 + 3, none⟩ = some (.slice (some ⟨g1, g2, none⟩) xc.length gc) ∧ X1.cell? ⟨g1, g2 + j * 2, none⟩ = some (.int .u64 cp) ∧ X1.cell? ⟨g1, g2 + j * 2 + 1, none⟩ = some (.slice da dv.length dc) from ⟨(hb1.cell (p := ⟨wr.heap.size, 0, none⟩) (Nat.lt_of_lt_of_le (by have h := HSZ.out; show wr.heap.size < WC.heap.size; omega) (Nat.le_refl _))).trans HS0.out.1, (hb1.cell (p := ⟨wr.heap.size, 1, none⟩) (Nat.lt_of_lt_of_le (by have h := HSZ.out; show wr.heap.size < WC.heap.size; omega) (Nat.le_refl _))).trans HS0.out.2.1, (hb1.cell (p := ⟨wr.heap.size, 2, none⟩) (Nat.lt_of_lt_of_le (by have h := HSZ.out; show wr.heap.size < WC.heap.size; omega) (Nat.le_refl _))).trans HS0.out.2.2.1, (hb1.cell (p := ⟨wr.heap.size, 3, none⟩) (Nat.lt_of_lt_of_le (by have h := HSZ.out; show wr.heap.size < WC.heap.size; omega) (Nat.le_refl _))).trans HS0.out.2.2.2.1, (hb1.cell (p := ⟨wr.heap.size, 4, none⟩) (Nat.lt_of_lt_of_le (by have h := HSZ.out; show wr.heap.size < WC.heap.size; omega) (Nat.le_refl _))).trans HS0.out.2.2.2.2.1, (hb1.cell (p := ⟨wr.heap.size, 5, none⟩) (Nat.lt_of_lt_of_le (by have h := HSZ.out; show wr.heap.size < WC.heap.size; omega) (Nat.le_refl _))).trans HS0.out.2.2.2.2.2.1, (hb1.cell (p := ⟨b1, o1 + k * 4 + 3, none⟩) (Nat.lt_of_lt_of_le (Nat.lt_of_lt_of_le HLB2.out HPA.out.size) (Nat.le_refl _))).trans HS0.out.2.2.2.2.2.2.1, (hb1.cell (p := ⟨g1, g2 + j * 2, none⟩) (Nat.lt_of_lt_of_le (Nat.lt_of_lt_of_le HLG.out HPA.out.size) (Nat.le_refl _))).trans HS0.out.2.2.2.2.2.2.2.1, (hb1.cell (p := ⟨g1, g2 + j * 2 + 1, none⟩) (Nat.lt_of_lt_of_le (Nat.lt_of_lt_of_le HLG.out HPA.out.size) (Nat.le_refl _))).trans HS0.out.2.2.2.2.2.2.2.2⟩)
          clear hb1
          generalize Sv.dec am = D1 at *
          go_wp2_with fail
          refine hK.out _ _ HS1.out (fun hHeld => ?_)
          clear hK K
          refine wpAnyH_take (i := 10) (oi := { dst := some 52, op := Op.binOp BinOp.add 9 (Operand.tmp 47) (Operand.tmp 51) 9, type := 9, pos := "ostler.go:440", after := #[{ on := 5, ground := Ground.data }, { on := 9, ground := Ground.data }], guard := none }) (v := ?v50x10) rfl (by kernel_rfl) (by kernel_rfl) (by kernel_rfl) (fun _ _ _ h => h) (Or.inl ⟨by rfl, ?h50x10⟩) (by assumption) ?r50x10
          case h50x10 =>
            intro w' hSw
            (try dsimp only at hSw)
            go_simp
            first | done | with_reducible rfl | rfl | (rw [if_neg (by omega)])
          (try simp only [Act.put, List.setIfInBounds_toArray, List.set_cons_zero, List.set_cons_succ])
          refine wpAnyH_take (i := 11) (oi := { dst := some 53, op := Op.binOp BinOp.add 9 (Operand.tmp 52) (Operand.const (Value.string { data := #[32] })) 9, type := 9, pos := "ostler.go:440", after := #[{ on := 10, ground := Ground.data }], guard := none }) (v := ?v51x11) rfl (by kernel_rfl) (by kernel_rfl) (by kernel_rfl) (fun _ _ _ h => h) (Or.inl ⟨by rfl, ?h51x11⟩) (by assumption) ?r51x11
          case h51x11 =>
            intro w' hSw
            (try dsimp only at hSw)
            go_simp
            first | done | with_reducible rfl | rfl | (rw [if_neg (by omega)])
          (try simp only [Act.put, List.setIfInBounds_toArray, List.set_cons_zero, List.set_cons_succ])
          refine wpAnyH_ready (rs := [15]) (by kernel_rfl) (by simp) (AllReadyH.cons rfl (fun K hK => ?_) AllReadyH.nil)
          go_simp
          go_wp2_with fail
          refine (decX ab _ q2.1 (by omega)).mono ?_
          rintro e X2 ⟨rfl, hb1⟩
          have HXX2 := hideIt (HXX1.out.trans (hb1.mono HXX1.out.size))
          have HS2 := hideIt (show X2.cell? ⟨wr.heap.size, 0, none⟩ = some (.string cn) ∧ X2.cell? ⟨wr.heap.size, 1, none⟩ = some (.int .i64 am) ∧ X2.cell? ⟨wr.heap.size, 2, none⟩ = some (.int .i64 ab) ∧ X2.cell? ⟨wr.heap.size, 3, none⟩ = some (.int .i64 cm) ∧ X2.cell? ⟨wr.heap.size, 4, none⟩ = some (.int .i64 cb) ∧ X2.cell? ⟨wr.heap.size, 5, none⟩ = some (.slice na ds.length nc) ∧ X2.cell? ⟨b1, o1 + k * 4 + 3, none⟩ = some (.slice (some ⟨g1, g2, none⟩) xc.length gc) ∧ X2.cell? ⟨g1, g2 + j * 2, none⟩ = some (.int .u64 cp) ∧ X2.cell? ⟨g1, g2 + j * 2 + 1, none⟩ = some (.slice da dv.length dc) from ⟨(hb1.cell (p := ⟨wr.heap.size, 0, none⟩) (Nat.lt_of_lt_of_le (by have h := HSZ.out; show wr.heap.size < WC.heap.size; omega) HXX1.out.size)).trans HS1.out.1, (hb1.cell (p := ⟨wr.heap.size, 1, none⟩) (Nat.lt_of_lt_of_le (by have h := HSZ.out; show wr.heap.size < WC.heap.size; omega) HXX1.out.size)).trans HS1.out.2.1, (hb1.cell (p := ⟨wr.heap.size, 2, none⟩) (Nat.lt_of_lt_of_le (by have h := HSZ.out; show wr.heap.size < WC.heap.size; omega) HXX1.out.size)).trans HS1.out.2.2.1, (hb1.cell (p := ⟨wr.heap.size, 3, none⟩) (Nat.lt_of_lt_of_le (by have h := HSZ.out; show wr.heap.size < WC.heap.size; omega) HXX1.out.size)).trans HS1.out.2.2.2.1, (hb1.cell (p := ⟨wr.heap.size, 4, none⟩) (Nat.lt_of_lt_of_le (by have h := HSZ.out; show wr.heap.size < WC.heap.size; omega) HXX1.out.size)).trans HS1.out.2.2.2.2.1, (hb1.cell (p := ⟨wr.heap.size, 5, none⟩) (Nat.lt_of_lt_of_le (by have h := HSZ.out; show wr.heap.size < WC.heap.size; omega) HXX1.out.size)).trans HS1.out.2.2.2.2.2.1, (hb1.cell (p := ⟨b1, o1 + k * 4 + 3, none⟩) (Nat.lt_of_lt_of_le (Nat.lt_of_lt_of_le HLB2.out HPA.out.size) HXX1.out.size)).trans HS1.out.2.2.2.2.2.2.1, (hb1.cell (p := ⟨g1, g2 + j * 2, none⟩) (Nat.lt_of_lt_of_le (Nat.lt_of_lt_of_le HLG.out HPA.out.size) HXX1.out.size)).trans HS1.out.2.2.2.2.2.2.2.1, (hb1.cell (p := ⟨g1, g2 + j * 2 + 1, none⟩) (Nat.lt_of_lt_of_le (Nat.lt_of_lt_of_le HLG.out HPA.out.size) HXX1.out.size)).trans HS1.out.2.2.2.2.2.2.2.2⟩)
          clear hb1
          generalize Sv.dec ab = D2 at *
          go_wp2_with fail
          refine hK.out _ _ HS2.out (fun hHeld => ?_)
          clear hK K
          refine wpAnyH_take (i := 16) (oi := { dst := some 58, op := Op.binOp BinOp.add 9 (Operand.tmp 53) (Operand.tmp 57) 9, type := 9, pos := "ostler.go:440", after := #[{ on := 11, ground := Ground.data }, { on := 15, ground := Ground.data }], guard := none }) (v := ?v52x16) rfl (by kernel_rfl) (by kernel_rfl) (by kernel_rfl) (fun _ _ _ h => h) (Or.inl ⟨by rfl, ?h52x16⟩) (by assumption) ?r52x16
          case h52x16 =>
            intro w' hSw
            (try dsimp only at hSw)
            go_simp
            first | done | with_reducible rfl | rfl | (rw [if_neg (by omega)])
          (try simp only [Act.put, List.setIfInBounds_toArray, List.set_cons_zero, List.set_cons_succ])
          refine wpAnyH_take (i := 17) (oi := { dst := some 59, op := Op.binOp BinOp.add 9 (Operand.tmp 58) (Operand.const (Value.string { data := #[32] })) 9, type := 9, pos := "ostler.go:440", after := #[{ on := 16, ground := Ground.data }], guard := none }) (v := ?v53x17) rfl (by kernel_rfl) (by kernel_rfl) (by kernel_rfl) (fun _ _ _ h => h) (Or.inl ⟨by rfl, ?h53x17⟩) (by assumption) ?r53x17
          case h53x17 =>
            intro w' hSw
            (try dsimp only at hSw)
            go_simp
            first | done | with_reducible rfl | rfl | (rw [if_neg (by omega)])
          (try simp only [Act.put, List.setIfInBounds_toArray, List.set_cons_zero, List.set_cons_succ])
          refine wpAnyH_ready (rs := [21]) (by kernel_rfl) (by simp) (AllReadyH.cons rfl (fun K hK => ?_) AllReadyH.nil)
          go_simp
          go_wp2_with fail
          refine (decX cm _ q3.1 (by omega)).mono ?_
          rintro e X3 ⟨rfl, hb1⟩
          have HXX3 := hideIt (HXX2.out.trans (hb1.mono HXX2.out.size))
          have HS3 := hideIt (show X3.cell? ⟨wr.heap.size, 0, none⟩ = some (.string cn) ∧ X3.cell? ⟨wr.heap.size, 1, none⟩ = some (.int .i64 am) ∧ X3.cell? ⟨wr.heap.size, 2, none⟩ = some (.int .i64 ab) ∧ X3.cell? ⟨wr.heap.size, 3, none⟩ = some (.int .i64 cm) ∧ X3.cell? ⟨wr.heap.size, 4, none⟩ = some (.int .i64 cb) ∧ X3.cell? ⟨wr.heap.size, 5, none⟩ = some (.slice na ds.length nc) ∧ X3.cell? ⟨b1, o1 + k * 4 + 3, none⟩ = some (.slice (some ⟨g1, g2, none⟩) xc.length gc) ∧ X3.cell? ⟨g1, g2 + j * 2, none⟩ = some (.int .u64 cp) ∧ X3.cell? ⟨g1, g2 + j * 2 + 1, none⟩ = some (.slice da dv.length dc) from ⟨(hb1.cell (p := ⟨wr.heap.size, 0, none⟩) (Nat.lt_of_lt_of_le (by have h := HSZ.out; show wr.heap.size < WC.heap.size; omega) HXX2.out.size)).trans HS2.out.1, (hb1.cell (p := ⟨wr.heap.size, 1, none⟩) (Nat.lt_of_lt_of_le (by have h := HSZ.out; show wr.heap.size < WC.heap.size; omega) HXX2.out.size)).trans HS2.out.2.1, (hb1.cell (p := ⟨wr.heap.size, 2, none⟩) (Nat.lt_of_lt_of_le (by have h := HSZ.out; show wr.heap.size < WC.heap.size; omega) HXX2.out.size)).trans HS2.out.2.2.1, (hb1.cell (p := ⟨wr.heap.size, 3, none⟩) (Nat.lt_of_lt_of_le (by have h := HSZ.out; show wr.heap.size < WC.heap.size; omega) HXX2.out.size)).trans HS2.out.2.2.2.1, (hb1.cell (p := ⟨wr.heap.size, 4, none⟩) (Nat.lt_of_lt_of_le (by have h := HSZ.out; show wr.heap.size < WC.heap.size; omega) HXX2.out.size)).trans HS2.out.2.2.2.2.1, (hb1.cell (p := ⟨wr.heap.size, 5, none⟩) (Nat.lt_of_lt_of_le (by have h := HSZ.out; show wr.heap.size < WC.heap.size; omega) HXX2.out.size)).trans HS2.out.2.2.2.2.2.1, (hb1.cell (p := ⟨b1, o1 + k * 4 + 3, none⟩) (Nat.lt_of_lt_of_le (Nat.lt_of_lt_of_le HLB2.out HPA.out.size) HXX2.out.size)).trans HS2.out.2.2.2.2.2.2.1, (hb1.cell (p := ⟨g1, g2 + j * 2, none⟩) (Nat.lt_of_lt_of_le (Nat.lt_of_lt_of_le HLG.out HPA.out.size) HXX2.out.size)).trans HS2.out.2.2.2.2.2.2.2.1, (hb1.cell (p := ⟨g1, g2 + j * 2 + 1, none⟩) (Nat.lt_of_lt_of_le (Nat.lt_of_lt_of_le HLG.out HPA.out.size) HXX2.out.size)).trans HS2.out.2.2.2.2.2.2.2.2⟩)
          clear hb1
          generalize Sv.dec cm = D3 at *
          go_wp2_with fail
          refine hK.out _ _ HS3.out (fun hHeld => ?_)
          clear hK K
          refine wpAnyH_take (i := 22) (oi := { dst := some 64, op := Op.binOp BinOp.add 9 (Operand.tmp 59) (Operand.tmp 63) 9, type := 9, pos := "ostler.go:440", after := #[{ on := 17, ground := Ground.data }, { on := 21, ground := Ground.data }], guard := none }) (v := ?v54x22) rfl (by kernel_rfl) (by kernel_rfl) (by kernel_rfl) (fun _ _ _ h => h) (Or.inl ⟨by rfl, ?h54x22⟩) (by assumption) ?r54x22
          case h54x22 =>
            intro w' hSw
            (try dsimp only at hSw)
            go_simp
            first | done | with_reducible rfl | rfl | (rw [if_neg (by omega)])
          (try simp only [Act.put, List.setIfInBounds_toArray, List.set_cons_zero, List.set_cons_succ])
          refine wpAnyH_take (i := 23) (oi := { dst := some 65, op := Op.binOp BinOp.add 9 (Operand.tmp 64) (Operand.const (Value.string { data := #[32] })) 9, type := 9, pos := "ostler.go:440", after := #[{ on := 22, ground := Ground.data }], guard := none }) (v := ?v55x23) rfl (by kernel_rfl) (by kernel_rfl) (by kernel_rfl) (fun _ _ _ h => h) (Or.inl ⟨by rfl, ?h55x23⟩) (by assumption) ?r55x23
          case h55x23 =>
            intro w' hSw
            (try dsimp only at hSw)
            go_simp
            first | done | with_reducible rfl | rfl | (rw [if_neg (by omega)])
          (try simp only [Act.put, List.setIfInBounds_toArray, List.set_cons_zero, List.set_cons_succ])
          refine wpAnyH_ready (rs := [27]) (by kernel_rfl) (by simp) (AllReadyH.cons rfl (fun K hK => ?_) AllReadyH.nil)
          go_simp
          go_wp2_with fail
          refine (decX cb _ q4.1 (by omega)).mono ?_
          rintro e X4 ⟨rfl, hb1⟩
          have HXX4 := hideIt (HXX3.out.trans (hb1.mono HXX3.out.size))
          have HS4 := hideIt (show X4.cell? ⟨wr.heap.size, 0, none⟩ = some (.string cn) ∧ X4.cell? ⟨wr.heap.size, 1, none⟩ = some (.int .i64 am) ∧ X4.cell? ⟨wr.heap.size, 2, none⟩ = some (.int .i64 ab) ∧ X4.cell? ⟨wr.heap.size, 3, none⟩ = some (.int .i64 cm) ∧ X4.cell? ⟨wr.heap.size, 4, none⟩ = some (.int .i64 cb) ∧ X4.cell? ⟨wr.heap.size, 5, none⟩ = some (.slice na ds.length nc) ∧ X4.cell? ⟨b1, o1 + k * 4 + 3, none⟩ = some (.slice (some ⟨g1, g2, none⟩) xc.length gc) ∧ X4.cell? ⟨g1, g2 + j * 2, none⟩ = some (.int .u64 cp) ∧ X4.cell? ⟨g1, g2 + j * 2 + 1, none⟩ = some (.slice da dv.length dc) from ⟨(hb1.cell (p := ⟨wr.heap.size, 0, none⟩) (Nat.lt_of_lt_of_le (by have h := HSZ.out; show wr.heap.size < WC.heap.size; omega) HXX3.out.size)).trans HS3.out.1, (hb1.cell (p := ⟨wr.heap.size, 1, none⟩) (Nat.lt_of_lt_of_le (by have h := HSZ.out; show wr.heap.size < WC.heap.size; omega) HXX3.out.size)).trans HS3.out.2.1, (hb1.cell (p := ⟨wr.heap.size, 2, none⟩) (Nat.lt_of_lt_of_le (by have h := HSZ.out; show wr.heap.size < WC.heap.size; omega) HXX3.out.size)).trans HS3.out.2.2.1, (hb1.cell (p := ⟨wr.heap.size, 3, none⟩) (Nat.lt_of_lt_of_le (by have h := HSZ.out; show wr.heap.size < WC.heap.size; omega) HXX3.out.size)).trans HS3.out.2.2.2.1, (hb1.cell (p := ⟨wr.heap.size, 4, none⟩) (Nat.lt_of_lt_of_le (by have h := HSZ.out; show wr.heap.size < WC.heap.size; omega) HXX3.out.size)).trans HS3.out.2.2.2.2.1, (hb1.cell (p := ⟨wr.heap.size, 5, none⟩) (Nat.lt_of_lt_of_le (by have h := HSZ.out; show wr.heap.size < WC.heap.size; omega) HXX3.out.size)).trans HS3.out.2.2.2.2.2.1, (hb1.cell (p := ⟨b1, o1 + k * 4 + 3, none⟩) (Nat.lt_of_lt_of_le (Nat.lt_of_lt_of_le HLB2.out HPA.out.size) HXX3.out.size)).trans HS3.out.2.2.2.2.2.2.1, (hb1.cell (p := ⟨g1, g2 + j * 2, none⟩) (Nat.lt_of_lt_of_le (Nat.lt_of_lt_of_le HLG.out HPA.out.size) HXX3.out.size)).trans HS3.out.2.2.2.2.2.2.2.1, (hb1.cell (p := ⟨g1, g2 + j * 2 + 1, none⟩) (Nat.lt_of_lt_of_le (Nat.lt_of_lt_of_le HLG.out HPA.out.size) HXX3.out.size)).trans HS3.out.2.2.2.2.2.2.2.2⟩)
          clear hb1
          generalize Sv.dec cb = D4 at *
          go_wp2_with fail
          refine hK.out _ _ HS4.out (fun hHeld => ?_)
          clear hK K
          refine wpAnyH_take (i := 28) (oi := { dst := some 70, op := Op.binOp BinOp.add 9 (Operand.tmp 65) (Operand.tmp 69) 9, type := 9, pos := "ostler.go:440", after := #[{ on := 23, ground := Ground.data }, { on := 27, ground := Ground.data }], guard := none }) (v := ?v56x28) rfl (by kernel_rfl) (by kernel_rfl) (by kernel_rfl) (fun _ _ _ h => h) (Or.inl ⟨by rfl, ?h56x28⟩) (by assumption) ?r56x28
          case h56x28 =>
            intro w' hSw
            (try dsimp only at hSw)
            go_simp
            first | done | with_reducible rfl | rfl | (rw [if_neg (by omega)])
          (try simp only [Act.put, List.setIfInBounds_toArray, List.set_cons_zero, List.set_cons_succ])
          refine wpAnyH_take (i := 29) (oi := { dst := some 71, op := Op.binOp BinOp.add 9 (Operand.tmp 70) (Operand.const (Value.string { data := #[32] })) 9, type := 9, pos := "ostler.go:440", after := #[{ on := 28, ground := Ground.data }], guard := none }) (v := ?v57x29) rfl (by kernel_rfl) (by kernel_rfl) (by kernel_rfl) (fun _ _ _ h => h) (Or.inl ⟨by rfl, ?h57x29⟩) (by assumption) ?r57x29
          case h57x29 =>
            intro w' hSw
            (try dsimp only at hSw)
            go_simp
            first | done | with_reducible rfl | rfl | (rw [if_neg (by omega)])
          (try simp only [Act.put, List.setIfInBounds_toArray, List.set_cons_zero, List.set_cons_succ])
          refine wpAnyH_ready (rs := [32]) (by kernel_rfl) (by simp) (AllReadyH.cons rfl (fun K hK => ?_) AllReadyH.nil)
          go_simp
          go_wp2_with fail
          refine (needsText_any _ ds _ (HND.out.below (HPA.out.trans (HXX4.out.mono HPA.out.size))) q5 HQ6.out).mono ?_
          rintro e X5 ⟨rfl, hb1⟩
          have HXX5 := hideIt (HXX4.out.trans (hb1.mono HXX4.out.size))
          have HS5 := hideIt (show X5.cell? ⟨wr.heap.size, 0, none⟩ = some (.string cn) ∧ X5.cell? ⟨wr.heap.size, 1, none⟩ = some (.int .i64 am) ∧ X5.cell? ⟨wr.heap.size, 2, none⟩ = some (.int .i64 ab) ∧ X5.cell? ⟨wr.heap.size, 3, none⟩ = some (.int .i64 cm) ∧ X5.cell? ⟨wr.heap.size, 4, none⟩ = some (.int .i64 cb) ∧ X5.cell? ⟨wr.heap.size, 5, none⟩ = some (.slice na ds.length nc) ∧ X5.cell? ⟨b1, o1 + k * 4 + 3, none⟩ = some (.slice (some ⟨g1, g2, none⟩) xc.length gc) ∧ X5.cell? ⟨g1, g2 + j * 2, none⟩ = some (.int .u64 cp) ∧ X5.cell? ⟨g1, g2 + j * 2 + 1, none⟩ = some (.slice da dv.length dc) from ⟨(hb1.cell (p := ⟨wr.heap.size, 0, none⟩) (Nat.lt_of_lt_of_le (by have h := HSZ.out; show wr.heap.size < WC.heap.size; omega) HXX4.out.size)).trans HS4.out.1, (hb1.cell (p := ⟨wr.heap.size, 1, none⟩) (Nat.lt_of_lt_of_le (by have h := HSZ.out; show wr.heap.size < WC.heap.size; omega) HXX4.out.size)).trans HS4.out.2.1, (hb1.cell (p := ⟨wr.heap.size, 2, none⟩) (Nat.lt_of_lt_of_le (by have h := HSZ.out; show wr.heap.size < WC.heap.size; omega) HXX4.out.size)).trans HS4.out.2.2.1, (hb1.cell (p := ⟨wr.heap.size, 3, none⟩) (Nat.lt_of_lt_of_le (by have h := HSZ.out; show wr.heap.size < WC.heap.size; omega) HXX4.out.size)).trans HS4.out.2.2.2.1, (hb1.cell (p := ⟨wr.heap.size, 4, none⟩) (Nat.lt_of_lt_of_le (by have h := HSZ.out; show wr.heap.size < WC.heap.size; omega) HXX4.out.size)).trans HS4.out.2.2.2.2.1, (hb1.cell (p := ⟨wr.heap.size, 5, none⟩) (Nat.lt_of_lt_of_le (by have h := HSZ.out; show wr.heap.size < WC.heap.size; omega) HXX4.out.size)).trans HS4.out.2.2.2.2.2.1, (hb1.cell (p := ⟨b1, o1 + k * 4 + 3, none⟩) (Nat.lt_of_lt_of_le (Nat.lt_of_lt_of_le HLB2.out HPA.out.size) HXX4.out.size)).trans HS4.out.2.2.2.2.2.2.1, (hb1.cell (p := ⟨g1, g2 + j * 2, none⟩) (Nat.lt_of_lt_of_le (Nat.lt_of_lt_of_le HLG.out HPA.out.size) HXX4.out.size)).trans HS4.out.2.2.2.2.2.2.2.1, (hb1.cell (p := ⟨g1, g2 + j * 2 + 1, none⟩) (Nat.lt_of_lt_of_le (Nat.lt_of_lt_of_le HLG.out HPA.out.size) HXX4.out.size)).trans HS4.out.2.2.2.2.2.2.2.2⟩)
          clear hb1
          generalize needsTxt ds = D5 at *
          go_wp2_with fail
          refine hK.out _ _ HS5.out (fun hHeld => ?_)
          clear hK K
          refine wpAnyH_take (i := 33) (oi := { dst := some 75, op := Op.binOp BinOp.add 9 (Operand.tmp 71) (Operand.tmp 74) 9, type := 9, pos := "ostler.go:440", after := #[{ on := 29, ground := Ground.data }, { on := 32, ground := Ground.data }], guard := none }) (v := ?v58x33) rfl (by kernel_rfl) (by kernel_rfl) (by kernel_rfl) (fun _ _ _ h => h) (Or.inl ⟨by rfl, ?h58x33⟩) (by assumption) ?r58x33
          case h58x33 =>
            intro w' hSw
            (try dsimp only at hSw)
            go_simp
            first | done | with_reducible rfl | rfl | (rw [if_neg (by omega)])
          (try simp only [Act.put, List.setIfInBounds_toArray, List.set_cons_zero, List.set_cons_succ])
          refine wpAnyH_take (i := 34) (oi := { dst := some 76, op := Op.binOp BinOp.add 9 (Operand.tmp 75) (Operand.const (Value.string { data := #[32] })) 9, type := 9, pos := "ostler.go:440", after := #[{ on := 33, ground := Ground.data }], guard := none }) (v := ?v59x34) rfl (by kernel_rfl) (by kernel_rfl) (by kernel_rfl) (fun _ _ _ h => h) (Or.inl ⟨by rfl, ?h59x34⟩) (by assumption) ?r59x34
          case h59x34 =>
            intro w' hSw
            (try dsimp only at hSw)
            go_simp
            first | done | with_reducible rfl | rfl | (rw [if_neg (by omega)])
          (try simp only [Act.put, List.setIfInBounds_toArray, List.set_cons_zero, List.set_cons_succ])
          refine wpAnyH_ready (rs := [44]) (by kernel_rfl) (by simp) (AllReadyH.cons rfl (fun K hK => ?_) AllReadyH.nil)
          go_simp
          go_wp2_with fail
          refine (setWord_any cp _ p1).mono ?_
          rintro e X6 ⟨rfl, hb1⟩
          have HXX6 := hideIt (HXX5.out.trans (hb1.mono HXX5.out.size))
          have HS6 := hideIt (show X6.cell? ⟨wr.heap.size, 0, none⟩ = some (.string cn) ∧ X6.cell? ⟨wr.heap.size, 1, none⟩ = some (.int .i64 am) ∧ X6.cell? ⟨wr.heap.size, 2, none⟩ = some (.int .i64 ab) ∧ X6.cell? ⟨wr.heap.size, 3, none⟩ = some (.int .i64 cm) ∧ X6.cell? ⟨wr.heap.size, 4, none⟩ = some (.int .i64 cb) ∧ X6.cell? ⟨wr.heap.size, 5, none⟩ = some (.slice na ds.length nc) ∧ X6.cell? ⟨b1, o1 + k * 4 + 3, none⟩ = some (.slice (some ⟨g1, g2, none⟩) xc.length gc) ∧ X6.cell? ⟨g1, g2 + j * 2, none⟩ = some (.int .u64 cp) ∧ X6.cell? ⟨g1, g2 + j * 2 + 1, none⟩ = some (.slice da dv.length dc) from ⟨(hb1.cell (p := ⟨wr.heap.size, 0, none⟩) (Nat.lt_of_lt_of_le (by have h := HSZ.out; show wr.heap.size < WC.heap.size; omega) HXX5.out.size)).trans HS5.out.1, (hb1.cell (p := ⟨wr.heap.size, 1, none⟩) (Nat.lt_of_lt_of_le (by have h := HSZ.out; show wr.heap.size < WC.heap.size; omega) HXX5.out.size)).trans HS5.out.2.1, (hb1.cell (p := ⟨wr.heap.size, 2, none⟩) (Nat.lt_of_lt_of_le (by have h := HSZ.out; show wr.heap.size < WC.heap.size; omega) HXX5.out.size)).trans HS5.out.2.2.1, (hb1.cell (p := ⟨wr.heap.size, 3, none⟩) (Nat.lt_of_lt_of_le (by have h := HSZ.out; show wr.heap.size < WC.heap.size; omega) HXX5.out.size)).trans HS5.out.2.2.2.1, (hb1.cell (p := ⟨wr.heap.size, 4, none⟩) (Nat.lt_of_lt_of_le (by have h := HSZ.out; show wr.heap.size < WC.heap.size; omega) HXX5.out.size)).trans HS5.out.2.2.2.2.1, (hb1.cell (p := ⟨wr.heap.size, 5, none⟩) (Nat.lt_of_lt_of_le (by have h := HSZ.out; show wr.heap.size < WC.heap.size; omega) HXX5.out.size)).trans HS5.out.2.2.2.2.2.1, (hb1.cell (p := ⟨b1, o1 + k * 4 + 3, none⟩) (Nat.lt_of_lt_of_le (Nat.lt_of_lt_of_le HLB2.out HPA.out.size) HXX5.out.size)).trans HS5.out.2.2.2.2.2.2.1, (hb1.cell (p := ⟨g1, g2 + j * 2, none⟩) (Nat.lt_of_lt_of_le (Nat.lt_of_lt_of_le HLG.out HPA.out.size) HXX5.out.size)).trans HS5.out.2.2.2.2.2.2.2.1, (hb1.cell (p := ⟨g1, g2 + j * 2 + 1, none⟩) (Nat.lt_of_lt_of_le (Nat.lt_of_lt_of_le HLG.out HPA.out.size) HXX5.out.size)).trans HS5.out.2.2.2.2.2.2.2.2⟩)
          clear hb1
          generalize setTxt cp = D6 at *
          go_wp2_with fail
          refine hK.out _ _ HS6.out (fun hHeld => ?_)
          clear hK K
          refine wpAnyH_take (i := 45) (oi := { dst := some 87, op := Op.binOp BinOp.add 9 (Operand.tmp 76) (Operand.tmp 86) 9, type := 9, pos := "ostler.go:440", after := #[{ on := 34, ground := Ground.data }, { on := 44, ground := Ground.data }], guard := none }) (v := ?v60x45) rfl (by kernel_rfl) (by kernel_rfl) (by kernel_rfl) (fun _ _ _ h => h) (Or.inl ⟨by rfl, ?h60x45⟩) (by assumption) ?r60x45
          case h60x45 =>
            intro w' hSw
            (try dsimp only at hSw)
            go_simp
            first | done | with_reducible rfl | rfl | (rw [if_neg (by omega)])
          (try simp only [Act.put, List.setIfInBounds_toArray, List.set_cons_zero, List.set_cons_succ])
          refine wpAnyH_take (i := 46) (oi := { dst := some 88, op := Op.binOp BinOp.add 9 (Operand.tmp 87) (Operand.const (Value.string { data := #[32] })) 9, type := 9, pos := "ostler.go:440", after := #[{ on := 45, ground := Ground.data }], guard := none }) (v := ?v61x46) rfl (by kernel_rfl) (by kernel_rfl) (by kernel_rfl) (fun _ _ _ h => h) (Or.inl ⟨by rfl, ?h61x46⟩) (by assumption) ?r61x46
          case h61x46 =>
            intro w' hSw
            (try dsimp only at hSw)
            go_simp
            first | done | with_reducible rfl | rfl | (rw [if_neg (by omega)])
          (try simp only [Act.put, List.setIfInBounds_toArray, List.set_cons_zero, List.set_cons_succ])
          refine wpAnyH_ready (rs := [56]) (by kernel_rfl) (by simp) (AllReadyH.cons rfl (fun K hK => ?_) AllReadyH.nil)
          go_simp
          go_wp2_with fail
          refine (listed_any _ dv _ (HI1.out.below (HPA.out.trans (HXX6.out.mono HPA.out.size))) p2 HP3.out).mono ?_
          rintro e X7 ⟨rfl, hb1⟩
          have HXX7 := hideIt (HXX6.out.trans (hb1.mono HXX6.out.size))
          have HS7 := hideIt (show X7.cell? ⟨wr.heap.size, 0, none⟩ = some (.string cn) ∧ X7.cell? ⟨wr.heap.size, 1, none⟩ = some (.int .i64 am) ∧ X7.cell? ⟨wr.heap.size, 2, none⟩ = some (.int .i64 ab) ∧ X7.cell? ⟨wr.heap.size, 3, none⟩ = some (.int .i64 cm) ∧ X7.cell? ⟨wr.heap.size, 4, none⟩ = some (.int .i64 cb) ∧ X7.cell? ⟨wr.heap.size, 5, none⟩ = some (.slice na ds.length nc) ∧ X7.cell? ⟨b1, o1 + k * 4 + 3, none⟩ = some (.slice (some ⟨g1, g2, none⟩) xc.length gc) ∧ X7.cell? ⟨g1, g2 + j * 2, none⟩ = some (.int .u64 cp) ∧ X7.cell? ⟨g1, g2 + j * 2 + 1, none⟩ = some (.slice da dv.length dc) from ⟨(hb1.cell (p := ⟨wr.heap.size, 0, none⟩) (Nat.lt_of_lt_of_le (by have h := HSZ.out; show wr.heap.size < WC.heap.size; omega) HXX6.out.size)).trans HS6.out.1, (hb1.cell (p := ⟨wr.heap.size, 1, none⟩) (Nat.lt_of_lt_of_le (by have h := HSZ.out; show wr.heap.size < WC.heap.size; omega) HXX6.out.size)).trans HS6.out.2.1, (hb1.cell (p := ⟨wr.heap.size, 2, none⟩) (Nat.lt_of_lt_of_le (by have h := HSZ.out; show wr.heap.size < WC.heap.size; omega) HXX6.out.size)).trans HS6.out.2.2.1, (hb1.cell (p := ⟨wr.heap.size, 3, none⟩) (Nat.lt_of_lt_of_le (by have h := HSZ.out; show wr.heap.size < WC.heap.size; omega) HXX6.out.size)).trans HS6.out.2.2.2.1, (hb1.cell (p := ⟨wr.heap.size, 4, none⟩) (Nat.lt_of_lt_of_le (by have h := HSZ.out; show wr.heap.size < WC.heap.size; omega) HXX6.out.size)).trans HS6.out.2.2.2.2.1, (hb1.cell (p := ⟨wr.heap.size, 5, none⟩) (Nat.lt_of_lt_of_le (by have h := HSZ.out; show wr.heap.size < WC.heap.size; omega) HXX6.out.size)).trans HS6.out.2.2.2.2.2.1, (hb1.cell (p := ⟨b1, o1 + k * 4 + 3, none⟩) (Nat.lt_of_lt_of_le (Nat.lt_of_lt_of_le HLB2.out HPA.out.size) HXX6.out.size)).trans HS6.out.2.2.2.2.2.2.1, (hb1.cell (p := ⟨g1, g2 + j * 2, none⟩) (Nat.lt_of_lt_of_le (Nat.lt_of_lt_of_le HLG.out HPA.out.size) HXX6.out.size)).trans HS6.out.2.2.2.2.2.2.2.1, (hb1.cell (p := ⟨g1, g2 + j * 2 + 1, none⟩) (Nat.lt_of_lt_of_le (Nat.lt_of_lt_of_le HLG.out HPA.out.size) HXX6.out.size)).trans HS6.out.2.2.2.2.2.2.2.2⟩)
          clear hb1
          generalize devsTxt dv = D7 at *
          go_wp2_with fail
          refine hK.out _ _ HS7.out (fun hHeld => ?_)
          clear hK K
          refine wpAnyH_take (i := 57) (oi := { dst := some 99, op := Op.binOp BinOp.add 9 (Operand.tmp 88) (Operand.tmp 98) 9, type := 9, pos := "ostler.go:440", after := #[{ on := 46, ground := Ground.data }, { on := 56, ground := Ground.data }], guard := none }) (v := ?v62x57) rfl (by kernel_rfl) (by kernel_rfl) (by kernel_rfl) (fun _ _ _ h => h) (Or.inl ⟨by rfl, ?h62x57⟩) (by assumption) ?r62x57
          case h62x57 =>
            intro w' hSw
            (try dsimp only at hSw)
            go_simp
            first | done | with_reducible rfl | rfl | (rw [if_neg (by omega)])
          (try simp only [Act.put, List.setIfInBounds_toArray, List.set_cons_zero, List.set_cons_succ])
          refine wpAnyH_take (i := 58) (oi := { dst := some 100, op := Op.binOp BinOp.add 9 (Operand.tmp 99) (Operand.const (Value.string { data := #[10] })) 9, type := 9, pos := "ostler.go:440", after := #[{ on := 57, ground := Ground.data }], guard := none }) (v := ?v63x58) rfl (by kernel_rfl) (by kernel_rfl) (by kernel_rfl) (fun _ _ _ h => h) (Or.inl ⟨by rfl, ?h63x58⟩) (by assumption) ?r63x58
          case h63x58 =>
            intro w' hSw
            (try dsimp only at hSw)
            go_simp
            first | done | with_reducible rfl | rfl | (rw [if_neg (by omega)])
          (try simp only [Act.put, List.setIfInBounds_toArray, List.set_cons_zero, List.set_cons_succ])
          refine wpAnyH_take (i := 59) (oi := { dst := some 3, op := Op.assign (Operand.tmp 100), type := 9, pos := "ostler.go:440", after := #[{ on := 58, ground := Ground.data }, { on := 56, ground := Ground.chain }, { on := 0, ground := Ground.phase }, { on := 1, ground := Ground.phase }, { on := 2, ground := Ground.phase }, { on := 3, ground := Ground.phase }, { on := 4, ground := Ground.phase }, { on := 5, ground := Ground.phase }, { on := 6, ground := Ground.phase }, { on := 7, ground := Ground.phase }, { on := 8, ground := Ground.phase }, { on := 9, ground := Ground.phase }, { on := 10, ground := Ground.phase }, { on := 11, ground := Ground.phase }, { on := 12, ground := Ground.phase }, { on := 13, ground := Ground.phase }, { on := 14, ground := Ground.phase }, { on := 15, ground := Ground.phase }, { on := 16, ground := Ground.phase }, { on := 17, ground := Ground.phase }, { on := 18, ground := Ground.phase }, { on := 19, ground := Ground.phase }, { on := 20, ground := Ground.phase }, { on := 21, ground := Ground.phase }, { on := 22, ground := Ground.phase }, { on := 23, ground := Ground.phase }, { on := 24, ground := Ground.phase }, { on := 25, ground := Ground.phase }, { on := 26, ground := Ground.phase }, { on := 27, ground := Ground.phase }, { on := 28, ground := Ground.phase }, { on := 29, ground := Ground.phase }, { on := 30, ground := Ground.phase }, { on := 31, ground := Ground.phase }, { on := 32, ground := Ground.phase }, { on := 33, ground := Ground.phase }, { on := 34, ground := Ground.phase }, { on := 35, ground := Ground.phase }, { on := 36, ground := Ground.phase }, { on := 37, ground := Ground.phase }, { on := 38, ground := Ground.phase }, { on := 39, ground := Ground.phase }, { on := 40, ground := Ground.phase }, { on := 41, ground := Ground.phase }, { on := 42, ground := Ground.phase }, { on := 43, ground := Ground.phase }, { on := 44, ground := Ground.phase }, { on := 45, ground := Ground.phase }, { on := 46, ground := Ground.phase }, { on := 47, ground := Ground.phase }, { on := 48, ground := Ground.phase }, { on := 49, ground := Ground.phase }, { on := 50, ground := Ground.phase }, { on := 51, ground := Ground.phase }, { on := 52, ground := Ground.phase }, { on := 53, ground := Ground.phase }, { on := 54, ground := Ground.phase }, { on := 55, ground := Ground.phase }, { on := 56, ground := Ground.phase }, { on := 57, ground := Ground.phase }, { on := 58, ground := Ground.phase }], guard := none }) (v := ?v64x59) rfl (by kernel_rfl) (by kernel_rfl) (by kernel_rfl) (fun _ _ _ h => h) (Or.inl ⟨by rfl, ?h64x59⟩) (by assumption) ?r64x59
          case h64x59 =>
            intro w' hSw
            (try dsimp only at hSw)
            go_simp
            first | done | with_reducible rfl | rfl | (rw [if_neg (by omega)])
          (try simp only [Act.put, List.setIfInBounds_toArray, List.set_cons_zero, List.set_cons_succ])
          refine wpAnyH_done (by kernel_rfl) ?_ _
          clear hHeld
          rw [contBytes, ← HCNj.out]
          go_wp2_with fail
          go_roundw
          case rel => exact ⟨j + 1, by omega, by go_num, by rw [HY2.out], HBv.out.trans ((HPA.out.trans (HXX7.out.mono HPA.out.size)).mono HBv.out.size)⟩
          case measure => simp [intOf]; omega
        · have hje : j = xc.length := by omega
          subst hje
          rw [← HY1.out]
          go_wp2_with fail
          go_roundw
          case rel => exact ⟨k + 1, by omega, by go_num, by rw [HYE.out], HB1.out.trans (HBv.out.mono HB1.out.size)⟩
          case measure => simp [intOf]; omega
    · have hke : k = hs.length := by omega
      subst hke
      have HE : Hid (heldTxt hs = bodyTo hs hs.length ++ sumTxt (bodyTo hs hs.length)) := rfl
      generalize bodyTo hs hs.length = Y at *
      go_wp2_with fail
      refine (summed_any Y wr (by omega)).mono ?_
      rintro e w2 ⟨rfl, hb2⟩
      have HB2 := hideIt (HB.out.trans (hb2.mono HB.out.size))
      clear hb2
      go_wp2_with fail
      go_ret
      exact ⟨by rw [HE.out]; rfl, HB2.out⟩
end Go.Proofs.YtlljniaobbbjgaaGreatDoor

