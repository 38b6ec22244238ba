/- How many processors a container has for itself: the contract of qos.Own. -/
import Derived.Test.YthekalhceamcoaaQW4
import Derived.Test.YthekalhceamcoaaQW5
namespace Go.Proofs.Ythekalhceamcoaa
open Go.RowKit
open Qos (Nd Ct Pd nd0 ct0 pd0 nd ct pd silent certain classOf quiet sure sumM sumB Mild ownOf)
/-- A pod lies boxed. -/
def PBoxAt (W : World) (B : Nat) (p : Pd) (cv : Value) : Prop := B < W.heap.size ∧ W.cell? ⟨B, 0, none⟩ = some (.string p.nm) ∧ W.cell? ⟨B, 1, none⟩ = some (.int .i64 p.pr) ∧ W.cell? ⟨B, 2, none⟩ = some cv
theorem PBoxAt.made (w : World) (p : Pd) (cv : Value) : PBoxAt (w.alloc (.cells #[.string p.nm, .int .i64 p.pr, cv] 60)) w.heap.size p cv := ⟨by simp, by simp, by simp, by simp⟩
theorem PBoxAt.below {W W' : World} {B : Nat} {p : Pd} {cv : Value} (h : PBoxAt W B p cv) (hb : Below W.heap.size W W') : PBoxAt W' B p cv := by
  obtain ⟨h0, h1, h2, h3⟩ := h
  exact ⟨Nat.lt_of_lt_of_le h0 hb.size, (hb.cell (p := ⟨B, 0, none⟩) h0).trans h1, (hb.cell (p := ⟨B, 1, none⟩) h0).trans h2, (hb.cell (p := ⟨B, 2, none⟩) h0).trans h3⟩
theorem PBoxAt.alloc {W : World} {B : Nat} {p : Pd} {cv : Value} (h : PBoxAt W B p cv) (o : Obj) : PBoxAt (W.alloc o) B p cv := h.below ((Below.refl _ W).alloc (Nat.le_refl _) o)
theorem PBoxAt.kept {W W' : World} {B : Nat} {p : Pd} {cv : Value} {g : Option Nat} (h : PBoxAt W B p cv) (hg : W.grownBy W' g) (hne : some B ≠ g) : PBoxAt W' B p cv :=
  ⟨Nat.lt_of_lt_of_le h.1 hg.size, (hg.cell_far ⟨B, 0, none⟩ h.1 hne).trans h.2.1, (hg.cell_far ⟨B, 1, none⟩ h.1 hne).trans h.2.2.1, (hg.cell_far ⟨B, 2, none⟩ h.1 hne).trans h.2.2.2⟩
theorem ConsAt.slice {w : World} {v : Value} {cs : List Ct} (h : ConsAt w v cs) : ∃ a n c, v = .slice a n c := by
  obtain ⟨a, c, h, _⟩ := h
  exact ⟨a, _, c, h⟩
set_option maxRecDepth 100000 in
set_option maxHeartbeats 2000000 in
theorem own_any (p : Pd) (cv : Value) (x : Ct) (da : Option Addr) (dn dc : Nat) (w : World) (h : ConsAt w cv p.cs) (h0 : 0 ≤ x.am) (h1 : x.am ≤ 1000000) :
    Calls Try.prog 51 #[podV p cv, .agg #[.string x.nm, .int .i64 x.am, .int .i64 x.ab, .int .i64 x.cm, .int .i64 x.cb, .slice da dn dc]] w fun e w' => e = .returned (.int .i64 (ownOf p.cs x.am)) ∧ Below w.heap.size w w' := by
  have hs := h.slice
  unfold podV
  have HB0 := hideIt (((Below.refl w.heap.size w).alloc (Nat.le_refl _) (.cells #[.string p.nm, .int .i64 p.pr, cv] 60)).alloc (by simp) (.cells #[.string x.nm, .int .i64 x.am, .int .i64 x.ab, .int .i64 x.cm, .int .i64 x.cb, .slice da dn dc] 94))
  have HX := BoxAt.made (w.alloc (.cells #[.string p.nm, .int .i64 p.pr, cv] 60)) x (.slice da dn dc)
  rw [show (w.alloc (.cells #[.string p.nm, .int .i64 p.pr, cv] 60)).heap.size = w.heap.size + 1 by simp] at HX
  have HX := hideIt HX
  have HC := hideIt (class_any p cv _ (h.below HB0.out))
  have e1 : x.am.tmod 1000 = x.am % 1000 := Int.tmod_eq_emod_of_nonneg h0
  have e2 : x.am.tdiv 1000 = x.am / 1000 := Int.tdiv_eq_ediv_of_nonneg h0
  have HO : Hid (ownOf p.cs x.am = if classOf p.cs = 3 ∧ x.am % 1000 = 0 then x.am / 1000 else 0) := rfl
  unfold podV at HC
  obtain ⟨pa, pn, pc, rfl⟩ := hs
  generalize classOf p.cs = K at *
  generalize ownOf p.cs x.am = R at *
  clear h
  by_cases hk : K = 3
  · subst hk
    by_cases hm : x.am % 1000 = 0
    · have hm' : x.am.tmod 1000 = 0 := by rw [e1]; exact hm
      have HO' := hideIt (HO.out.trans (if_pos ⟨rfl, hm⟩))
      clear HO
      go_enter Try.func51, Try.ntmps51
      go_wp2_with fail
      refine HC.out.mono ?_
      rintro e w1 ⟨rfl, hb1⟩
      obtain ⟨l0, b0, b1, _⟩ := HX.out.below hb1
      have HB1 := hideIt (HB0.out.trans (hb1.mono HB0.out.size))
      clear hb1 HX HB0
      go_wp2_with fail
      go_ret
      exact ⟨by rw [HO'.out]; rfl, HB1.out⟩
    · have hm' : (x.am % 1000 != 0) = true := by simp [hm]
      have HO' := hideIt (HO.out.trans (if_neg (fun h => hm h.2)))
      clear HO
      go_enter Try.func51, Try.ntmps51
      go_wp2_with fail
      refine HC.out.mono ?_
      rintro e w1 ⟨rfl, hb1⟩
      obtain ⟨l0, b0, b1, _⟩ := HX.out.below hb1
      have HB1 := hideIt (HB0.out.trans (hb1.mono HB0.out.size))
      clear hb1 HX HB0
      go_wp2_with fail
      go_ret
      exact ⟨by rw [HO'.out]; rfl, HB1.out⟩
  · have HO' := hideIt (HO.out.trans (if_neg (fun h => hk h.1)))
    clear HO
    go_enter Try.func51, Try.ntmps51
    go_wp2_with fail
    refine HC.out.mono ?_
    rintro e w1 ⟨rfl, hb1⟩
    obtain ⟨l0, b0, b1, _⟩ := HX.out.below hb1
    have HB1 := hideIt (HB0.out.trans (hb1.mono HB0.out.size))
    clear hb1 HX HB0
    go_wp2_with fail
    go_ret
    exact ⟨by rw [HO'.out]; rfl, HB1.out⟩
end Go.Proofs.Ythekalhceamcoaa
