/- What is wrong with a container, and with a pod: contracts of package qos. -/
import Derived.Test.YthekalhceamcoaaQW1
import Derived.Shelf.SlicesQ.IndexFunc
import Derived.Ground.SlgfProg
import Derived.Shelf.Lay
namespace Go.Proofs
open Go.Shelf
def Try.contL_ren : Go.Shelf.Ren := ⟨fun | 8 => 136 | 6 => 173 | n => n, fun | 22 => 58 | 23 => 94 | 25 => 216 | 4 => 4 | 3 => 3 | 0 => 0 | n => n, fun | n => n⟩
theorem Try.contL : Go.Proofs.SlLaysH0.n8 Try.prog Try.contL_ren := {
  mixed := by kernel_rfl
  f6 := ⟨Try.f173.name, by decide, Try.func173.trans (congrArg some (by kernel_rfl))⟩
  f8 := ⟨Try.f136.name, by decide, Try.func136.trans (congrArg some (by kernel_rfl))⟩
  t0 := Try.underlying0
  a0 := Try.isAgg0
  z0 := Try.sizeOf0
  v0 := Try.zeroValue0
  t3 := Try.underlying3
  a3 := Try.isAgg3
  z3 := Try.sizeOf3
  v3 := Try.zeroValue3
  t4 := Try.underlying4
  a4 := Try.isAgg4
  z4 := Try.sizeOf4
  v4 := Try.zeroValue4
  t22 := Try.underlying58
  a22 := Try.isAgg58
  z22 := Try.sizeOf58
  v22 := Try.zeroValue58
  t25 := Try.underlying216
  a25 := Try.isAgg216
  z25 := Try.sizeOf216
  v25 := Try.zeroValue216 }
end Go.Proofs
namespace Go.Proofs.Ythekalhceamcoaa
open Go.RowKit
open Qos (Nd Ct Pd nd0 ct0 pd0 nd ct pd needF contF podF amtOk over twice leS)
open Dvs (nameMay first)
instance : Inhabited (Ct × Value) := ⟨⟨ct0, .nilIface⟩⟩
theorem eq_str (a b : ByteArray) : (a.toList == b.toList) = decide (a = b) := by
  rw [Bool.eq_iff_iff, beq_iff_eq, decide_eq_true_iff, ByteArray.toList_eq, ByteArray.toList_eq]
  exact ⟨fun h => ByteArray.ext (Array.toList_inj.mp h), fun h => by rw [h]⟩
set_option maxHeartbeats 400000 in
theorem sameName_pred (nm : ByteArray) (B : Nat) (w : World) (hB : B < w.heap.size) (hcell : w.cell? ⟨B, 0, none⟩ = some (.string nm)) :
    PredBelow Try.prog 137 #[.pointer (some ⟨B, 0, none⟩)] (fun x : Ct × Value => .agg (contCells x.1 x.2).toArray) (fun x => decide (x.1.nm = nm)) w := fun W x hb => by
  have hc : W.cell? ⟨B, 0, none⟩ = some (.string nm) := (hb.cell (p := ⟨B, 0, none⟩) hB).trans hcell
  have hBW : B < W.heap.size := Nat.lt_of_lt_of_le hB hb.size
  have hne : B ≠ W.heap.size := by omega
  obtain ⟨x, dv⟩ := x
  have HX := hideIt (eq_str x.nm nm)
  show Calls Try.prog 137 #[.agg #[.string x.nm, .int .i64 x.am, .int .i64 x.ab, .int .i64 x.cm, .int .i64 x.cb, dv], .pointer (some ⟨B, 0, none⟩)] W _
  show Calls Try.prog 137 _ W fun e w' => e = .returned (.bool (decide (x.nm = nm))) ∧ Below w.heap.size w w'
  rw [← HX.out]
  have HB := hideIt (hb.alloc hb.size (.cells #[.string x.nm, .int .i64 x.am, .int .i64 x.ab, .int .i64 x.cm, .int .i64 x.cb, dv] 94))
  clear hb
  go_enter Try.func137, Try.ntmps137
  go_wp2_with fail
  go_ret
  exact ⟨rfl, HB.out⟩
theorem any_fst (cs : List Ct) (dv : Nat → Value) (k : Nat) (q : Ct → Bool) : ((((List.range cs.length).map fun j => (ct cs j, dv j)).take k).any fun x => q x.1) = (cs.take k).any q := by
  have e : ((List.range cs.length).map fun j => (ct cs j, dv j)).map Prod.fst = cs := by
    rw [List.map_map]
    apply List.ext_getElem
    · simp
    · intro i h1 h2
      simp [ct, h2]
  have h : (cs.take k) = (((List.range cs.length).map fun j => (ct cs j, dv j)).take k).map Prod.fst := by rw [List.map_take, e]
  rw [h, List.any_map]
  rfl
theorem has_twice (b o c B k : Nat) (cs : List Ct) (dv : Nat → Value) (w : World) (h : ConsIn w b o cs dv) (hk : k < cs.length) (hl : cs.length ≤ maxLen) (hB : B < w.heap.size) (hcell : w.cell? ⟨B, 0, none⟩ = some (.string (ct cs k).nm)) :
    Calls Try.prog 136 #[.slice (some ⟨b, o, none⟩) k c, .func (.func 137) #[] #[.pointer (some ⟨B, 0, none⟩)]] w fun e w' => e = .returned (.bool (twice cs k)) ∧ Below w.heap.size w w' := by
  have eg : ∀ args w, (callFunc 137 args).run Try.prog w = .ok (.enter 137 args) w := enters_of Try.func137 (by kernel_rfl) rfl
  have hcon := AnyQ.slices_ContainsFunc Try.contL 6 Try.isAgg94 Try.sizeOf94 (fun x : Ct × Value => contCells x.1 x.2) (fun _ => rfl) (fun x => decide (x.1.nm = (ct cs k).nm)) 137 #[.pointer (some ⟨B, 0, none⟩)] eg b o k c ((List.range cs.length).map fun j => (ct cs j, dv j)) w
    (sameName_pred (ct cs k).nm B w hB hcell) (by simp; omega) (by unfold maxLen at hl; omega) h.1 (fun j hj i v hi => by
      have hj' : j < cs.length := by simpa using hj
      have e : ((List.range cs.length).map fun j => (ct cs j, dv j))[j]! = (ct cs j, dv j) := by simp [hj']
      rw [e] at hi
      have h6 : i < 6 := by
        have := (List.getElem?_eq_some_iff.1 hi).1
        simpa [contCells] using this
      rw [(h.2 j hj').1 i h6]
      exact hi)
  change Calls Try.prog 136 _ _ _ at hcon
  rw [any_fst cs dv k (fun x => decide (x.nm = (ct cs k).nm))] at hcon
  exact hcon
theorem contF_1 {cs : List Ct} {k : Nat} (h : nameMay (ct cs k).nm = false) : contF cs k = 3 := by unfold contF; rw [if_pos h]
theorem contF_2 {cs : List Ct} {k : Nat} (h : nameMay (ct cs k).nm = true) (h2 : twice cs k = true) : contF cs k = 5 := by unfold contF; rw [if_neg (by rw [h]; decide), if_pos h2]
theorem contF_3 {cs : List Ct} {k : Nat} (h : nameMay (ct cs k).nm = true) (h2 : twice cs k = false) (h3 : amtOk (ct cs k).am (ct cs k).ab = false ∨ amtOk (ct cs k).cm (ct cs k).cb = false) : contF cs k = 1 := by
  unfold contF; rw [if_neg (by rw [h]; decide), if_neg (by rw [h2]; decide), if_pos h3]
theorem contF_4 {cs : List Ct} {k : Nat} (h : nameMay (ct cs k).nm = true) (h2 : twice cs k = false) (h3 : amtOk (ct cs k).am (ct cs k).ab = true) (h3' : amtOk (ct cs k).cm (ct cs k).cb = true) (h4 : over (ct cs k).am (ct cs k).cm = true ∨ over (ct cs k).ab (ct cs k).cb = true) : contF cs k = 3 := by
  unfold contF; rw [if_neg (by rw [h]; decide), if_neg (by rw [h2]; decide), if_neg (by rw [h3, h3']; decide), if_pos h4]
theorem contF_5 {cs : List Ct} {k : Nat} (h : nameMay (ct cs k).nm = true) (h2 : twice cs k = false) (h3 : amtOk (ct cs k).am (ct cs k).ab = true) (h3' : amtOk (ct cs k).cm (ct cs k).cb = true) (h4 : over (ct cs k).am (ct cs k).cm = false) (h4' : over (ct cs k).ab (ct cs k).cb = false) : contF cs k = (if 3 < (ct cs k).ds.length then (2 : Nat) else first (needF (ct cs k).ds) (ct cs k).ds.length : Nat) := by
  unfold contF; rw [if_neg (by rw [h]; decide), if_neg (by rw [h2]; decide), if_neg (by rw [h3, h3']; decide), if_neg (by rw [h4, h4']; decide)]
/-- A container's cells, boxed. -/
theorem boxed (w : World) (x : Ct) (d : Value) : (w.alloc (.cells #[.string x.nm, .int .i64 x.am, .int .i64 x.ab, .int .i64 x.cm, .int .i64 x.cb, d] 94)).cell? ⟨w.heap.size, 0, none⟩ = some (.string x.nm) := by simp
/-- A container lies boxed. -/
def BoxAt (W : World) (B : Nat) (x : Ct) (d : Value) : Prop := B < W.heap.size ∧ W.cell? ⟨B, 0, none⟩ = some (.string x.nm) ∧ W.cell? ⟨B, 1, none⟩ = some (.int .i64 x.am) ∧ W.cell? ⟨B, 2, none⟩ = some (.int .i64 x.ab) ∧ W.cell? ⟨B, 3, none⟩ = some (.int .i64 x.cm) ∧ W.cell? ⟨B, 4, none⟩ = some (.int .i64 x.cb) ∧ W.cell? ⟨B, 5, none⟩ = some d
theorem BoxAt.made (w : World) (x : Ct) (d : Value) : BoxAt (w.alloc (.cells #[.string x.nm, .int .i64 x.am, .int .i64 x.ab, .int .i64 x.cm, .int .i64 x.cb, d] 94)) w.heap.size x d := by
  refine ⟨by simp, by simp, by simp, by simp, by simp, by simp, by simp⟩
theorem BoxAt.below {W W' : World} {B : Nat} {x : Ct} {d : Value} (h : BoxAt W B x d) (hb : Below W.heap.size W W') : BoxAt W' B x d := by
  obtain ⟨h0, h1, h2, h3, h4, h5, h6⟩ := h
  exact ⟨Nat.lt_of_lt_of_le h0 hb.size, (hb.cell (p := ⟨B, 0, none⟩) h0).trans h1, (hb.cell (p := ⟨B, 1, none⟩) h0).trans h2, (hb.cell (p := ⟨B, 2, none⟩) h0).trans h3, (hb.cell (p := ⟨B, 3, none⟩) h0).trans h4, (hb.cell (p := ⟨B, 4, none⟩) h0).trans h5, (hb.cell (p := ⟨B, 5, none⟩) h0).trans h6⟩
set_option maxRecDepth 100000 in
set_option maxHeartbeats 2000000 in
theorem checkCont_any (b o c k : Nat) (cs : List Ct) (dv : Nat → Value) (w : World) (h : ConsIn w b o cs dv) (hk : k < cs.length) (hl : cs.length ≤ maxLen) :
    Calls Try.prog 102 #[.agg #[.string (ct cs k).nm, .int .i64 (ct cs k).am, .int .i64 (ct cs k).ab, .int .i64 (ct cs k).cm, .int .i64 (ct cs k).cb, dv k], .slice (some ⟨b, o, none⟩) k c] w fun e w' => e = .returned (errV (contF cs k : Nat)) ∧ Below w.heap.size w w' := by
  have hB0 := (Below.refl w.heap.size w).alloc (Nat.le_refl _) (.cells #[.string (ct cs k).nm, .int .i64 (ct cs k).am, .int .i64 (ct cs k).ab, .int .i64 (ct cs k).cm, .int .i64 (ct cs k).cb, dv k] 94)
  have HT := hideIt (has_twice b o c w.heap.size k cs dv _ (h.below hB0) hk hl (by simp) (boxed w (ct cs k) (dv k)))
  have HN := hideIt (h.2 k hk).2
  have HB0 := hideIt hB0
  have H1 := hideIt (@contF_1 cs k)
  have H2 := hideIt (@contF_2 cs k)
  have H3 := hideIt (@contF_3 cs k)
  have H4 := hideIt (@contF_4 cs k)
  have H5 := hideIt (@contF_5 cs k)
  clear h hk hl hB0
  generalize contF cs k = F at *
  generalize twice cs k = T at *
  generalize ct cs k = x at *
  generalize dv k = d at *
  rcases two (nameMay x.nm) with hn | hn
  · rcases two T with ht | ht
    · have he := H2.out hn ht
      subst ht
      go_enter Try.func102, Try.ntmps102
      go_wp2_with fail
      refine (name_any _ _).mono ?_
      rintro e w1 ⟨rfl, rfl⟩
      rw [hn]
      go_wp2_with fail
      refine HT.out.mono ?_
      rintro e w1 ⟨rfl, hb1⟩
      go_wp2_with fail
      go_ret
      exact ⟨by rw [he]; rfl, HB0.out.trans (hb1.mono HB0.out.size)⟩
    · subst ht
      have K3 := hideIt (H3.out hn rfl)
      have K4 := hideIt (H4.out hn rfl)
      have K5 := hideIt (H5.out hn rfl)
      clear H1 H2 H3 H4 H5
      go_enter Try.func102, Try.ntmps102
      go_wp2_with fail
      refine (name_any _ _).mono ?_
      rintro e w1 ⟨rfl, rfl⟩
      rw [hn]
      go_wp2_with fail
      refine HT.out.mono ?_
      rintro e w1 ⟨rfl, hb1⟩
      have HX1 := hideIt ((BoxAt.made w x d).below hb1)
      have HB1 := hideIt (HB0.out.trans (hb1.mono HB0.out.size))
      clear hb1 HT HB0
      generalize w.heap.size = B at HX1
      obtain ⟨l0, b0, b1, b2, b3, b4, b5⟩ := HX1.out
      go_wp2_with fail
      refine (bounded_anyQ _ _ _).mono ?_
      rintro e w2 ⟨rfl, hb2⟩
      have HX2 := hideIt (HX1.out.below hb2)
      have HB2 := hideIt (HB1.out.trans (hb2.mono HB1.out.size))
      clear hb2 HX1 HB1 l0 b0 b1 b2 b3 b4 b5
      rcases two (amtOk x.am x.ab) with ha | ha
      · have K4 := hideIt (K4.out ha)
        have K5 := hideIt (K5.out ha)
        rw [ha]
        obtain ⟨l0, b0, b1, b2, b3, b4, b5⟩ := HX2.out
        go_wp2_with fail
        refine (bounded_anyQ _ _ _).mono ?_
        rintro e w3 ⟨rfl, hb3⟩
        have HX3 := hideIt (HX2.out.below hb3)
        have HN3 := hideIt (HN.out.below (HB2.out.trans (hb3.mono HB2.out.size)))
        have HB3 := hideIt (HB2.out.trans (hb3.mono HB2.out.size))
        clear hb3 HX2 HB2 l0 b0 b1 b2 b3 b4 b5
        rcases two (amtOk x.cm x.cb) with hc | hc
        · have K4 := hideIt (K4.out hc)
          have K5 := hideIt (K5.out hc)
          rw [hc]
          obtain ⟨l0, b0, b1, b2, b3, b4, b5⟩ := HX3.out
          go_wp2_with fail
          refine (beyond_any _ _ _).mono ?_
          rintro e w4 ⟨rfl, rfl⟩
          rcases two (over x.am x.cm) with h1 | h1
          · have he := K4.out (.inl h1)
            rw [h1]
            go_wp2_with fail
            go_ret
            exact ⟨by rw [he]; rfl, HB3.out⟩
          · have K5 := hideIt (K5.out h1)
            rw [h1]
            go_wp2_with fail
            refine (beyond_any _ _ _).mono ?_
            rintro e w4 ⟨rfl, rfl⟩
            rcases two (over x.ab x.cb) with h2 | h2
            · have he := K4.out (.inr h2)
              rw [h2]
              go_wp2_with fail
              go_ret
              exact ⟨by rw [he]; rfl, HB3.out⟩
            · have HE := hideIt (K5.out h2)
              rw [h2]
              go_wp2_with fail
              refine (checkNeeds_any d x.ds _ HN3.out).mono ?_
              rintro e w5 ⟨rfl, hb5⟩
              rw [← HE.out]
              have HB5 := hideIt (HB3.out.trans (hb5.mono HB3.out.size))
              clear hb5
              go_wp2_with fail
              go_ret
              exact ⟨rfl, HB5.out⟩
        · have he := K3.out (.inr hc)
          rw [hc]
          go_wp2_with fail
          go_ret
          exact ⟨by rw [he]; rfl, HB3.out⟩
      · have he := K3.out (.inl ha)
        rw [ha]
        go_wp2_with fail
        go_ret
        exact ⟨by rw [he]; rfl, HB2.out⟩
  · have he := H1.out hn
    go_enter Try.func102, Try.ntmps102
    go_wp2_with fail
    refine (name_any _ _).mono ?_
    rintro e w1 ⟨rfl, rfl⟩
    rw [hn]
    go_wp2_with fail
    go_ret
    exact ⟨by rw [he]; rfl, HB0.out⟩
end Go.Proofs.Ythekalhceamcoaa
