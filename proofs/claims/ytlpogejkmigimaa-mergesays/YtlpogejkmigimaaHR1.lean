/- What the reference's For answers: contract. -/
import Derived.Test.YtlpogejkmigimaaHFor2
import Derived.Test.YtlpogejkmigimaaHRMath
import Derived.Deep.AppendLies
namespace Go.Proofs.Ytlpogejkmigimaa
open Go.RowKit
open Ost (N4 sumOn Sm pop8 isSub narrower rgTo rGood refTo)
/-- What lies ready in the reference's For. -/
structure RRow (u : World) (N : Nat) (free all : N4) (v : Value) (l : List (Nat × Bool)) : Prop where
  f : Four u N free.a free.b free.c free.d
  a : Four u (N + 1) all.a all.b all.c all.d
  r0 : u.cell? ⟨N + 2, 0, none⟩ = some (.bool false)
  r1 : u.cell? ⟨N + 2, 1, none⟩ = some (.slice none 0 0)
  z0 : u.frozen? ⟨N + 2, 0, none⟩ = false
  z1 : u.frozen? ⟨N + 2, 1, none⟩ = false
  w0 : u.cell? ⟨N + 3, 0, none⟩ = some (.bool false)
  w1 : u.cell? ⟨N + 3, 1, none⟩ = some v
  y1 : u.frozen? ⟨N + 3, 1, none⟩ = false
  row : u.ownsRow (N + 4) 60 2 v l.length (hintCells l)
theorem RRow.lt {u : World} {N : Nat} {free all : N4} {v : Value} {l : List (Nat × Bool)} (h : RRow u N free all v l) : N + 4 ≤ u.heap.size := World.block_lt_of_cell? u _ h.w0
theorem RRow.below {u u' : World} {N : Nat} {free all : N4} {v : Value} {l : List (Nat × Bool)} (h : RRow u N free all v l) (hb : Below u.heap.size u u') : RRow u' N free all v l :=
  have hl := h.lt
  ⟨h.f.below hb (by omega), h.a.below hb (by omega), (hb.cell (p := ⟨N + 2, 0, none⟩) (by show N + 2 < u.heap.size; omega)).trans h.r0, (hb.cell (p := ⟨N + 2, 1, none⟩) (by show N + 2 < u.heap.size; omega)).trans h.r1, (hb.frozen (p := ⟨N + 2, 0, none⟩) (by show N + 2 < u.heap.size; omega)).trans h.z0, (hb.frozen (p := ⟨N + 2, 1, none⟩) (by show N + 2 < u.heap.size; omega)).trans h.z1,
    (hb.cell (p := ⟨N + 3, 0, none⟩) (by show N + 3 < u.heap.size; omega)).trans h.w0, (hb.cell (p := ⟨N + 3, 1, none⟩) (by show N + 3 < u.heap.size; omega)).trans h.w1, (hb.frozen (p := ⟨N + 3, 1, none⟩) (by show N + 3 < u.heap.size; omega)).trans h.y1, row_below h.row hb⟩
theorem RRow.step {u w4 : World} {N g' cap' m : Nat} {b : Bool} {free all : N4} {v : Value} {l : List (Nat × Bool)} (h : RRow u N free all v l) (hb : Below (N + 4) u w4) (hown : w4.ownsRow (N + 4) 60 2 (.slice (some ⟨g', 0, none⟩) (l.length + 1) cap') (l.length + 1) (hintCells l ++ [.int .u8 (m : Nat), .bool b])) :
    RRow (w4.setCell ⟨N + 3, 1, none⟩ (.slice (some ⟨g', 0, none⟩) (l.length + 1) cap')) N free all (.slice (some ⟨g', 0, none⟩) (l.length + 1) cap') (l ++ [(m, b)]) := by
  have e0 := (hb.cell (p := ⟨N + 3, 0, none⟩) (by show N + 3 < N + 4; omega)).trans h.w0
  have e1 := (hb.cell (p := ⟨N + 3, 1, none⟩) (by show N + 3 < N + 4; omega)).trans h.w1
  have e2 := (hb.frozen (p := ⟨N + 3, 1, none⟩) (by show N + 3 < N + 4; omega)).trans h.y1
  have h5 : Below (N + 3) u (w4.setCell ⟨N + 3, 1, none⟩ (.slice (some ⟨g', 0, none⟩) (l.length + 1) cap')) := (hb.mono (Nat.le_succ _)).setCell (Nat.le_refl _) _
  refine ⟨h.f.below h5 (by omega), h.a.below h5 (by omega), (h5.cell (p := ⟨N + 2, 0, none⟩) (by show N + 2 < N + 3; omega)).trans h.r0, (h5.cell (p := ⟨N + 2, 1, none⟩) (by show N + 2 < N + 3; omega)).trans h.r1, (h5.frozen (p := ⟨N + 2, 0, none⟩) (by show N + 2 < N + 3; omega)).trans h.z0, (h5.frozen (p := ⟨N + 2, 1, none⟩) (by show N + 2 < N + 3; omega)).trans h.z1, ?_, ?_, ?_, ?_⟩
  · clear h5 hb h hown; go_simp
  · clear h5 hb h hown; go_simp
  · clear h5 hb h hown; go_simp
  · rw [hintCells_snoc, List.length_append]
    exact ownsRow_setCell_below hown (Nat.lt_succ_self _) _
abbrev refWorld (w : World) (free all : N4) : World := (((w.alloc (.cells #[.int .i64 free.a, .int .i64 free.b, .int .i64 free.c, .int .i64 free.d] 45)).alloc (.cells #[.int .i64 all.a, .int .i64 all.b, .int .i64 all.c, .int .i64 all.d] 45)).alloc (.cells #[.bool false, .slice none 0 0] 53)).alloc (.cells #[.bool false, .slice none 0 0] 53)
theorem RRow.made (w : World) (free all : N4) : RRow (refWorld w free all) w.heap.size free all (.slice none 0 0) [] := by
  refine ⟨(((Four.made w _ _ _ _ _).alloc _).alloc _).alloc _, ?_, ?_, ?_, ?_, ?_, ?_, ?_, ?_, World.ownsRow_nil _ _ _ _⟩
  · have := ((Four.made (w.alloc (.cells #[.int .i64 free.a, .int .i64 free.b, .int .i64 free.c, .int .i64 free.d] 45)) 45 all.a all.b all.c all.d).alloc (.cells #[.bool false, .slice none 0 0] 53)).alloc (.cells #[.bool false, .slice none 0 0] 53)
    simpa using this
  all_goals go_simp
theorem refBelow (w : World) (free all : N4) : Below w.heap.size w (refWorld w free all) :=
  ((((Below.refl _ _).alloc (Nat.le_refl _) _).alloc (by simp) _).alloc (by simp; omega) _).alloc (by simp; omega) _
theorem and8s (a b : Nat) (ha : a < 256) (hb : b < 256) : bits BinOp.and IntKind.u8 (a : Int) (b : Int) = ((a &&& b : Nat) : Int) := by
  have hx : a &&& b < 2 ^ 8 := Nat.and_lt_two_pow _ (by omega)
  have h1 : (BitVec.ofInt 8 (a : Int)).toNat = a := by
    rw [BitVec.ofInt_natCast, BitVec.toNat_ofNat]; exact Nat.mod_eq_of_lt (by omega)
  have h2 : (BitVec.ofInt 8 (b : Int)).toNat = b := by
    rw [BitVec.ofInt_natCast, BitVec.toNat_ofNat]; exact Nat.mod_eq_of_lt (by omega)
  show IntKind.u8.wrap ((BitVec.ofInt 8 (a : Int) &&& BitVec.ofInt 8 (b : Int)).toNat : Int) = _
  rw [BitVec.toNat_and, h1, h2]
  show ((a &&& b : Nat) : Int) % 256 = _
  omega
theorem and8s_no (a b : Nat) (ha : a < 256) (hb : b < 256) (h : ¬ a &&& b = a) : (bits BinOp.and IntKind.u8 (a : Int) (b : Int) == (a : Int)) = false := by
  rw [and8s a b ha hb, beq_eq_false_iff_ne]; omega
/-- A slice of hints elsewhere is as it was. -/
theorem HintsAt.set2 {w : World} {v : Value} {l : List (Nat × Bool)} {B : Nat} (h : HintsAt w v l) (hfr : ∀ b o n c, v = .slice (some ⟨b, o, none⟩) n c → B + 1 ≤ b) (x y : Value) : HintsAt ((w.setCell ⟨B, 0, none⟩ x).setCell ⟨B, 1, none⟩ y) v l := by
  rcases h with h | ⟨b, o, c', hv, hlt, hc⟩
  · exact .inl h
  · have hb := hfr b o _ _ hv
    refine .inr ⟨b, o, c', hv, by simpa using hlt, fun k hk => ?_⟩
    have e1 : ((w.setCell ⟨B, 0, none⟩ x).setCell ⟨B, 1, none⟩ y).heap[b]? = w.heap[b]? := by
      rw [Below.heap_setCell _ _ _ _ (by show b ≠ B; omega), Below.heap_setCell _ _ _ _ (by show b ≠ B; omega)]
    exact ⟨(World.cell?_of_block (w := w) (a := ⟨b, o + k * 2, none⟩) e1).trans (hc k hk).1, (World.cell?_of_block (w := w) (a := ⟨b, o + k * 2 + 1, none⟩) e1).trans (hc k hk).2⟩
set_option maxRecDepth 100000 in
set_option maxHeartbeats 4000000 in
theorem refFor_some (free all : N4) (nodes : Nat) (many : Int) (w : World) (h4 : 0 < many) (hn : nodes ≤ 15) (hf : Sm free) (ha : Sm all) :
    Calls Try.prog 29 #[v4 free, v4 all, .int .u8 nodes, .int .i64 many] w fun e w' => ForRes w (Ost.hints free all nodes many) e w' := by
  have HR := hideIt (RRow.made w free all)
  have HB := hideIt (refBelow w free all)
  have HSf := hideIt hf
  have HSa := hideIt ha
  rw [← Ost.refTo_all free all nodes many hn]
  clear hf ha
  obtain ⟨i0, hi, hz0, hz1, hz2⟩ := info_parts infoHint
  unfold refWorld v4 at *
  go_enter Try.func29, Try.ntmps29
  go_wp2_with fail
  go_loopw [10] (fun i wr => ∃ (k : Nat) (v : Value), 1 ≤ k ∧ k ≤ 256 ∧ i = .int .i64 k ∧ Hid (RRow wr w.heap.size free all v (refTo free all nodes many k)) ∧ Hid (Below w.heap.size w wr)) (fun i _ => 256 - (intOf i).toNat)
  case atStart => exact ⟨1, .slice none 0 0, by omega, by omega, rfl, HR.out, HB.out⟩
  case round =>
    obtain ⟨k, v, hk1, hk, rfl, HRr, HBr⟩ := hrel
    clear HR HB
    by_cases hlt : k < 256
    · have hconv : IntKind.u8.wrap (k : Int) = k := by show (k : Int) % 256 = k; omega
      have hlen := Ost.refTo_len free all nodes many k
      by_cases hA : k &&& nodes = k
      · have hand := and8s k nodes hlt (by omega)
        rw [hA] at hand
        have hsub : Hid (isSub nodes k = true) := by unfold Hid isSub; rw [decide_eq_true hk1, decide_eq_true hA]; rfl
        have f0 := HRr.out.f.c0
        have f1 := HRr.out.f.c1
        have f2 := HRr.out.f.c2
        have f3 := HRr.out.f.c3
        have HOf := hideIt (refOnN_any free k wr hlt HSf.out)
        unfold v4 at HOf
        clear hA
        go_wp2_with fail
        refine HOf.out.mono ?_
        rintro e w2 ⟨rfl, hb2⟩
        have HR2 := hideIt (HRr.out.below hb2)
        have HB2 := hideIt (HBr.out.trans (hb2.mono HBr.out.size))
        clear hb2 HOf HRr HBr f0 f1 f2 f3
        by_cases hfr : many ≤ sumOn free k
        · have HYes := hideIt (Ost.refTo_yes (free := free) (all := all) hsub.out hfr)
          generalize sumOn free k = S1 at *
          go_wp2_with fail
          go_loopw [12, 13] (fun t i wq => ∃ j : Nat, 1 ≤ j ∧ j ≤ 256 ∧ i = .int .i64 j ∧ t = .bool (rgTo all nodes many k j) ∧ Hid (RRow wq w.heap.size free all v (refTo free all nodes many k)) ∧ Hid (Below w.heap.size w wq)) (fun _ i _ => 256 - (intOf i).toNat)
          case atStart => exact ⟨1, by omega, by omega, rfl, rfl, HR2.out, HB2.out⟩
          case round =>
            obtain ⟨j, hj1, hj, rfl, rfl, HRq, HBq⟩ := hrel
            clear HR2 HB2
            by_cases hjt : j < 256
            · have hcj : IntKind.u8.wrap (j : Int) = j := by show (j : Int) % 256 = j; omega
              have HN1 := hideIt (fun h => Ost.rgTo_yes (all := all) (nodes := nodes) (many := many) (m := k) hj1 h)
              have HN2 := hideIt (fun h => Ost.rgTo_no (all := all) (nodes := nodes) (many := many) (m := k) hj1 h)
              have hNr : Hid (narrower all nodes many k j = (decide (j &&& nodes = j) && (decide (many ≤ sumOn all j) && decide (pop8 j < pop8 k)))) := rfl
              generalize rgTo all nodes many k j = G at *
              by_cases hA : j &&& nodes = j
              · have hanj := and8s j nodes hjt (by omega)
                rw [hA] at hanj
                rw [decide_eq_true hA, Bool.true_and] at hNr
                have e0 := HRq.out.a.c0
                have e1 := HRq.out.a.c1
                have e2 := HRq.out.a.c2
                have e3 := HRq.out.a.c3
                have HOa := hideIt fun W => refOnN_any all j W hjt HSa.out
                unfold v4 at HOa
                clear hA
                go_wp2_with fail
                refine (HOa.out _).mono ?_
                rintro e w5 ⟨rfl, hb5⟩
                have HR5 := hideIt (HRq.out.below hb5)
                have HB5 := hideIt (HBq.out.trans (hb5.mono HBq.out.size))
                clear hb5 HOa HRq HBq e0 e1 e2 e3
                by_cases hB : many ≤ sumOn all j
                · rw [decide_eq_true hB, Bool.true_and] at hNr
                  have hp8 := Ost.pop8_le j
                  have hq8 := Ost.pop8_le k
                  have HPj := hideIt fun W => refNodesOf_any j W hjt
                  have HPk := hideIt fun W => refNodesOf_any k W hlt
                  generalize sumOn all j = S2 at *
                  generalize pop8 j = pj at *
                  generalize pop8 k = pk at *
                  go_wp2_with fail
                  refine (HPj.out _).mono ?_
                  rintro e w6 ⟨rfl, hw6⟩
                  subst w6
                  go_wp2_with fail
                  refine (HPk.out _).mono ?_
                  rintro e w6 ⟨rfl, hw6⟩
                  subst w6
                  by_cases hC : pj < pk
                  · rw [decide_eq_true hC] at hNr
                    have HG := hideIt (HN1.out hNr.out)
                    clear HN1 HN2 hNr
                    go_wp2_with fail
                    go_roundw
                    case rel => exact ⟨j + 1, by omega, by omega, by go_num, by rw [HG.out], HR5.out, HB5.out⟩
                    case measure => simp [intOf]; omega
                  · rw [decide_eq_false hC] at hNr
                    have HG := hideIt (HN2.out hNr.out)
                    clear HN1 HN2 hNr
                    go_wp2_with fail
                    go_roundw
                    case rel => exact ⟨j + 1, by omega, by omega, by go_num, by rw [HG.out], HR5.out, HB5.out⟩
                    case measure => simp [intOf]; omega
                · rw [decide_eq_false hB, Bool.false_and] at hNr
                  have HG := hideIt (HN2.out hNr.out)
                  have hB' := Int.lt_of_not_ge hB
                  clear HN1 HN2 hNr
                  generalize sumOn all j = S2 at *
                  go_wp2_with fail
                  go_roundw
                  case rel => exact ⟨j + 1, by omega, by omega, by go_num, by rw [HG.out], HR5.out, HB5.out⟩
                  case measure => simp [intOf]; omega
              · have hanj := and8s j nodes hjt (by omega)
                rw [decide_eq_false hA, Bool.false_and] at hNr
                have HG := hideIt (HN2.out hNr.out)
                have hA2 : (((j &&& nodes : Nat) : Int) == (j : Int)) = false := by rw [beq_eq_false_iff_ne]; omega
                clear HN1 HN2 hNr
                generalize j &&& nodes = jj at *
                go_wp2_with fail
                go_roundw
                case rel => exact ⟨j + 1, by omega, by omega, by go_num, by rw [HG.out], HRq.out, HBq.out⟩
                case measure => simp [intOf]; omega
            · have hj256 : j = 256 := by omega
              subst hj256
              have hGd : Hid (rGood all nodes many k = (rgTo all nodes many k 256 && decide (many ≤ sumOn all k))) := rfl
              have e0 := HRq.out.a.c0
              have e1 := HRq.out.a.c1
              have e2 := HRq.out.a.c2
              have e3 := HRq.out.a.c3
              have HOa := hideIt fun W => refOnN_any all k W hlt HSa.out
              unfold v4 at HOa
              generalize rgTo all nodes many k 256 = G at *
              generalize rGood all nodes many k = GG at *
              go_wp2_with fail
              refine (HOa.out _).mono ?_
              rintro e w5 ⟨rfl, hb5⟩
              have HR5 := hideIt (HRq.out.below hb5)
              have HB5 := hideIt (HBq.out.trans (hb5.mono HBq.out.size))
              clear hb5 HOa HRq HBq e0 e1 e2 e3
              obtain ⟨an, cn, rfl⟩ := row_slice HR5.out.row
              have hsz5 := HR5.out.lt
              have t1 := HR5.out.w1
              have t2 := HR5.out.y1
              by_cases hB : many ≤ sumOn all k
              · have hGG : GG = G := by rw [hGd.out, decide_eq_true hB, Bool.and_true]
                subst hGG
                generalize sumOn all k = S2 at *
                have HYs := hideIt HYes.out
                have u1 := cell_alloc t1 (.cells #[.int .u8 (k : Nat), .bool GG] 60)
                have u2 := frozen_alloc t1 t2 (.cells #[.int .u8 (k : Nat), .bool GG] 60)
                generalize refTo free all nodes many k = l at *
                go_wp2_with (at_builtin; refine wpList_append_lies _ rfl _ _ 51 rfl (w.heap.size + 4) 60 i0 (.agg #[.int .u8 0, .bool false]) 2 2 Try.underlying51 hi hz0 hz1 hz2 rfl (by decide) _ _ _ rfl (HR5.out.row.alloc _) ⟨_, 0, none⟩ 1 1 [.int .u8 k, .bool GG] rfl rfl (by intro j u hj; match j, hj with | 0, hj => (simp at hj; subst hj; simp [Addr.add]) | 1, hj => (simp at hj; subst hj; simp [Addr.add])) (by intro u hu; simp at hu; rcases hu with rfl | rfl <;> rfl) (by decide) (by unfold maxLen; omega) (by omega) (by simp; omega) _ rfl ?_; intro g' cap' w6 hown6 hgrow6 hat6 hlt6; have hb6 := Below.grown (((Below.refl (w.heap.size + 4) w5).alloc hsz5 _)) hgrow6 (by simp; omega) (fun q hq => (HR5.out.row.lt q hq).1); have v1 := (Below.grown (Below.refl (w.heap.size + 4) _) hgrow6 (by simp; omega) (fun q hq => (HR5.out.row.lt q hq).1)); have t1' := (v1.cell (p := ⟨w.heap.size + 3, 1, none⟩) (by show w.heap.size + 3 < w.heap.size + 4; omega)).trans u1; have t2' := (v1.frozen (p := ⟨w.heap.size + 3, 1, none⟩) (by show w.heap.size + 3 < w.heap.size + 4; omega)).trans u2)
                have HR6 := hideIt (HR5.out.step hb6 hown6)
                have HB6 := hideIt ((HB5.out.trans (hb6.mono (by omega))).setCell (p := ⟨w.heap.size + 3, 1, none⟩) (by show w.heap.size ≤ w.heap.size + 3; omega) (.slice (some ⟨g', 0, none⟩) (l.length + 1) cap'))
                clear hgrow6 hat6 hlt6 hb6 v1
                go_roundw
                case rel => exact ⟨k + 1, _, by omega, by omega, by go_num, by rw [HYs.out]; exact HR6.out, HB6.out⟩
                case measure => simp [intOf]; omega
              · have hB' := Int.lt_of_not_ge hB
                have hGG : GG = false := by rw [hGd.out, decide_eq_false hB, Bool.and_false]
                subst hGG
                generalize sumOn all k = S2 at *
                have HYs := hideIt HYes.out
                have u1 := cell_alloc t1 (.cells #[.int .u8 (k : Nat), .bool false] 60)
                have u2 := frozen_alloc t1 t2 (.cells #[.int .u8 (k : Nat), .bool false] 60)
                generalize refTo free all nodes many k = l at *
                go_wp2_with (at_builtin; refine wpList_append_lies _ rfl _ _ 51 rfl (w.heap.size + 4) 60 i0 (.agg #[.int .u8 0, .bool false]) 2 2 Try.underlying51 hi hz0 hz1 hz2 rfl (by decide) _ _ _ rfl (HR5.out.row.alloc _) ⟨_, 0, none⟩ 1 1 [.int .u8 k, .bool false] rfl rfl (by intro j u hj; match j, hj with | 0, hj => (simp at hj; subst hj; simp [Addr.add]) | 1, hj => (simp at hj; subst hj; simp [Addr.add])) (by intro u hu; simp at hu; rcases hu with rfl | rfl <;> rfl) (by decide) (by unfold maxLen; omega) (by omega) (by simp; omega) _ rfl ?_; intro g' cap' w6 hown6 hgrow6 hat6 hlt6; have hb6 := Below.grown (((Below.refl (w.heap.size + 4) w5).alloc hsz5 _)) hgrow6 (by simp; omega) (fun q hq => (HR5.out.row.lt q hq).1); have v1 := (Below.grown (Below.refl (w.heap.size + 4) _) hgrow6 (by simp; omega) (fun q hq => (HR5.out.row.lt q hq).1)); have t1' := (v1.cell (p := ⟨w.heap.size + 3, 1, none⟩) (by show w.heap.size + 3 < w.heap.size + 4; omega)).trans u1; have t2' := (v1.frozen (p := ⟨w.heap.size + 3, 1, none⟩) (by show w.heap.size + 3 < w.heap.size + 4; omega)).trans u2)
                have HR6 := hideIt (HR5.out.step hb6 hown6)
                have HB6 := hideIt ((HB5.out.trans (hb6.mono (by omega))).setCell (p := ⟨w.heap.size + 3, 1, none⟩) (by show w.heap.size ≤ w.heap.size + 3; omega) (.slice (some ⟨g', 0, none⟩) (l.length + 1) cap'))
                clear hgrow6 hat6 hlt6 hb6 v1
                go_roundw
                case rel => exact ⟨k + 1, _, by omega, by omega, by go_num, by rw [HYs.out]; exact HR6.out, HB6.out⟩
                case measure => simp [intOf]; omega
        · have HNo := hideIt (Ost.refTo_few (free := free) (all := all) (nodes := nodes) (many := many) (k := k) (Int.lt_of_not_ge hfr))
          have hfr' := Int.lt_of_not_ge hfr
          generalize sumOn free k = S1 at *
          go_wp2_with fail
          go_roundw
          case rel => exact ⟨k + 1, v, by omega, by omega, by go_num, by rw [HNo.out]; exact HR2.out, HB2.out⟩
          case measure => simp [intOf]; omega
      · have hand := and8s k nodes hlt (by omega)
        have HNo : Hid (refTo free all nodes many (k + 1) = refTo free all nodes many k) := Ost.refTo_no (by unfold isSub; rw [decide_eq_false hA]; simp)
        have hA2 : (((k &&& nodes : Nat) : Int) == (k : Int)) = false := by rw [beq_eq_false_iff_ne]; omega
        generalize k &&& nodes = kk at *
        go_wp2_with fail
        go_roundw
        case rel => exact ⟨k + 1, v, by omega, by omega, by go_num, by rw [HNo.out]; exact HRr.out, HBr.out⟩
        case measure => simp [intOf]; omega
    · have hk256 : k = 256 := by omega
      subst hk256
      have hH := hideIt (HintsAt.of_row HRr.out.row)
      have hFr := hideIt (fresh_row HRr.out.row (show w.heap.size ≤ w.heap.size + 4 by omega))
      have c0 := HRr.out.w0
      have c1 := HRr.out.w1
      have r0 := HRr.out.r0
      have r1 := HRr.out.r1
      have z0 := HRr.out.z0
      have z1 := HRr.out.z1
      have hFr3 := hideIt (fresh_row HRr.out.row (show w.heap.size + 3 ≤ w.heap.size + 4 by omega))
      obtain ⟨ao, cv, rfl⟩ := row_slice HRr.out.row
      generalize hEq : refTo free all nodes many 256 = l at *
      have hEq := hideIt hEq
      have HHs := hideIt (hH.out.set2 (B := w.heap.size + 1 + 1) (fun b o n c h => by have := hFr3.out b o n c h; omega) (.bool false) (.slice ao l.length cv))
      have HBE := hideIt ((HBr.out.setCell (p := ⟨w.heap.size + 1 + 1, 0, none⟩) (by show w.heap.size ≤ w.heap.size + 1 + 1; omega) (.bool false)).setCell (p := ⟨w.heap.size + 1 + 1, 1, none⟩) (by show w.heap.size ≤ w.heap.size + 1 + 1; omega) (.slice ao l.length cv))
      go_wp2_with fail
      (try simp only [Exit.inBlock, Exit.then])
      refine bodyPost_ret (v := .agg #[.bool false, .slice ao l.length cv]) ?_ rfl ⟨_, rfl, by rw [hEq.out]; exact HHs.out, hFr.out, HBE.out⟩
      rw [results_cell rfl]
      go_simp
set_option maxRecDepth 100000 in
set_option maxHeartbeats 1000000 in
theorem refFor_none (free all : N4) (nodes : Nat) (many : Int) (w : World) (hmany : many ≤ 0) :
    Calls Try.prog 29 #[v4 free, v4 all, .int .u8 nodes, .int .i64 many] w fun e w' => e = .returned (.agg #[.bool true, .slice none 0 0]) ∧ Below w.heap.size w w' := by
  unfold v4
  go_enter Try.func29, Try.ntmps29
  go_wp2_with fail
  (try simp only [Exit.inBlock, Exit.then])
  refine bodyPost_ret (v := .agg #[.bool true, .slice none 0 0]) ?_ rfl ⟨rfl, ?_⟩
  · rw [results_cell rfl]
    go_simp
  · exact (((Below.refl _ _).alloc (Nat.le_refl _) _).alloc (by simp) _).alloc (by simp; omega) _
end Go.Proofs.Ytlpogejkmigimaa
