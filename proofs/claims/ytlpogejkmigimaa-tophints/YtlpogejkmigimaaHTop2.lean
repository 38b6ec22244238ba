/- What 'TopHints' answers: true: the long way. -/
import Derived.Test.YtlpogejkmigimaaHTop1
import Derived.Test.YtlpogejkmigimaaMEnv
import Derived.Deep.RegionHeld3
namespace Go.Proofs.Ytlpogejkmigimaa
open Go.RowKit
open Ost (N4 sumOn Sm pop8 isSub thereTo)
theorem and8 (a b : Nat) (ha : a < 16) (hb : b < 16) : bits BinOp.and IntKind.u8 (a : Int) (b : Int) = ((a &&& b : Nat) : Int) := by
  have key : ∀ (x y : Fin 16), bits BinOp.and IntKind.u8 ((x.val : Nat) : Int) ((y.val : Nat) : Int) = ((x.val &&& y.val : Nat) : Int) := by decide +kernel
  exact key ⟨a, ha⟩ ⟨b, hb⟩
theorem and8_eq (a b : Nat) (ha : a < 16) (hb : b < 16) : (bits BinOp.and IntKind.u8 (a : Int) (b : Int) == (a : Int)) = decide (a &&& b = a) := by
  rw [and8 a b ha hb, Bool.eq_iff_iff, beq_iff_eq, decide_eq_true_eq]; omega
/-- Sixteen cells of truths, all its own. -/
def TAt (u : World) (T : Nat) (f : Nat → Bool) : Prop := ∀ j, j < 16 → u.cell? ⟨T, j, none⟩ = some (.bool (f j)) ∧ u.frozen? ⟨T, j, none⟩ = false
theorem TAt.below {u u' : World} {T K : Nat} {f : Nat → Bool} (h : TAt u T f) (hb : Below K u u') (hK : T < K) : TAt u' T f := fun j hj =>
  ⟨(hb.cell (p := ⟨T, j, none⟩) hK).trans (h j hj).1, (hb.frozen (p := ⟨T, j, none⟩) hK).trans (h j hj).2⟩
theorem TAt.lt {u : World} {T : Nat} {f : Nat → Bool} (h : TAt u T f) : T < u.heap.size := World.block_lt_of_cell? u _ (h 0 (by decide)).1
abbrev falses : Array Value := #[.bool false, .bool false, .bool false, .bool false, .bool false, .bool false, .bool false, .bool false, .bool false, .bool false, .bool false, .bool false, .bool false, .bool false, .bool false, .bool false]
theorem TAt.made (u : World) (t : TypeId) : TAt (u.alloc (.cells falses t)) u.heap.size (fun _ => false) := by
  intro j hj
  have : j = 0 ∨ j = 1 ∨ j = 2 ∨ j = 3 ∨ j = 4 ∨ j = 5 ∨ j = 6 ∨ j = 7 ∨ j = 8 ∨ j = 9 ∨ j = 10 ∨ j = 11 ∨ j = 12 ∨ j = 13 ∨ j = 14 ∨ j = 15 := by omega
  rcases this with rfl | rfl | rfl | rfl | rfl | rfl | rfl | rfl | rfl | rfl | rfl | rfl | rfl | rfl | rfl | rfl <;> exact ⟨by simp, by simp⟩
theorem TAt.set {u : World} {T : Nat} {f g : Nat → Bool} (h : TAt u T f) {m : Nat} (hm : m < 16) (hg : ∀ j, j < 16 → g j = (f j || decide (j = m))) : TAt (u.setCell ⟨T, m, none⟩ (.bool true)) T g := by
  intro j hj
  obtain ⟨c, z⟩ := h j hj
  obtain ⟨cm, _⟩ := h m hm
  refine ⟨?_, (World.frozen?_setCell ..).trans z⟩
  rw [hg j hj]
  by_cases e : j = m
  · subst e
    simp
    clear c hg
    go_simp
  · rw [decide_eq_false e, Bool.or_false]
    have hne : (⟨T, m, none⟩ : Addr) ≠ ⟨T, j, none⟩ := by intro h; cases h; exact e rfl
    rw [World.cell?_setCell_other (h := hne)]
    exact c
/-- The answer of hints.For, laid where the first one lay. -/
theorem stored {w4 w5 : World} {N Bw : Nat} {free all : N4} {v0 : Value} {ao : Option Addr} {n c : Nat} {l : List (Nat × Bool)} (hE : HEnv w5 N Bw free all false v0) (hH : HintsAt w5 (.slice ao n c) l) (hfr : ∀ b o n' c', Value.slice ao n c = .slice (some ⟨b, o, none⟩) n' c' → w4.heap.size ≤ b) (hBw : Bw < w4.heap.size) :
    HEnv ((w5.setCell ⟨Bw, 0, none⟩ (.bool false)).setCell ⟨Bw, 1, none⟩ (.slice ao n c)) N Bw free all false (.slice ao n c) ∧ HintsAt ((w5.setCell ⟨Bw, 0, none⟩ (.bool false)).setCell ⟨Bw, 1, none⟩ (.slice ao n c)) (.slice ao n c) l := by
  obtain ⟨f, a, c0, c1, z0, z1, lt⟩ := hE
  refine ⟨⟨(f.set_other (by show N ≠ Bw; omega) _).set_other (by show N ≠ Bw; omega) _, (a.set_other (by show N + 1 ≠ Bw; omega) _).set_other (by show N + 1 ≠ Bw; omega) _, ?_, ?_, (World.frozen?_setCell ..).trans ((World.frozen?_setCell ..).trans z0), (World.frozen?_setCell ..).trans ((World.frozen?_setCell ..).trans z1), lt⟩, ?_⟩
  · clear f a hH hfr
    go_simp
  · clear f a hH hfr
    go_simp
  · rcases hH with h | ⟨b, o, c', hv, hlt, hc⟩
    · exact .inl h
    · have hb := hfr b o _ _ hv
      refine .inr ⟨b, o, c', hv, by simpa using hlt, fun k hk => ?_⟩
      have e1 : ((w5.setCell ⟨Bw, 0, none⟩ (.bool false)).setCell ⟨Bw, 1, none⟩ (.slice ao n c)).heap[b]? = w5.heap[b]? := by
        rw [Below.heap_setCell _ _ _ _ (by show b ≠ Bw; omega), Below.heap_setCell _ _ _ _ (by show b ≠ Bw; omega)]
      exact ⟨(World.cell?_of_block (w := w5) (a := ⟨b, o + k * 2, none⟩) e1).trans (hc k hk).1, (World.cell?_of_block (w := w5) (a := ⟨b, o + k * 2 + 1, none⟩) e1).trans (hc k hk).2⟩
set_option maxRecDepth 100000 in
set_option maxHeartbeats 4000000 in
theorem topHints_e (free all : N4) (nodes : Nat) (many : Int) (w : World) (h1 : allR 0 free 4 = true) (h2 : allR 0 all 4 = true) (h3 : nodes ≤ 15) (h4 : 0 < many) :
    Calls Try.prog 7 #[v4 free, v4 all, .int .u8 nodes, .int .i64 many] w fun e w' => e = .returned (.bool true) ∧ Below w.heap.size w w' := by
  have HSf := hideIt (allR_Sm (by decide) h1)
  have HSa := hideIt (allR_Sm (by decide) h2)
  have HF := hideIt (topFour w free all)
  have HB := hideIt (topBelow w free all)
  have HFo := hideIt (for_any one4 one4 1 1 (topWorld w free all) (by decide) (by decide) one4_sm one4_sm)
  unfold topWorld v4 at *
  go_enter Try.func7, Try.ntmps7
  go_wp2_with fail
  refine HFo.out.mono ?_
  rintro e w1 ⟨v, rfl, hH, _, hb1⟩
  rw [one4_hints] at hH
  rcases hH with ⟨h, _⟩ | ⟨b0, o0, c0, rfl, hlt0, hcs0⟩
  · cases h
  have hB1 := HB.out.trans (hb1.mono HB.out.size)
  have hsz1 : w.heap.size + 2 ≤ w1.heap.size := Nat.le_trans (by simp) hb1.size
  have hg0 := (hcs0 0 (by decide)).2
  have HE1 : Hid (HEnv (w1.alloc (.cells #[.bool false, .slice (some ⟨b0, o0, none⟩) 1 c0] 53)) w.heap.size w1.heap.size free all false (.slice (some ⟨b0, o0, none⟩) 1 c0)) :=
    ⟨(HF.out.1.below hb1 (by simp; omega)).alloc _, (HF.out.2.below hb1 (by simp)).alloc _, by simp, by simp, by simp, by simp, by omega⟩
  have hB2 := hideIt (hB1.alloc (by omega) (.cells #[.bool false, .slice (some ⟨b0, o0, none⟩) 1 c0] 53))
  have hg1 := cell_alloc hg0 (.cells #[.bool false, .slice (some ⟨b0, o0, none⟩) 1 c0] 53)
  have hgx : (w1.alloc (.cells #[.bool false, .slice (some ⟨b0, o0, none⟩) 1 c0] 53)).cell? ⟨b0, o0 + 1, none⟩ = some (.bool true) := hg1
  obtain ⟨Bw, hBw⟩ : ∃ Bw, Bw = w1.heap.size := ⟨_, rfl⟩
  have e0 := HE1.out.f.c0
  have e1 := HE1.out.f.c1
  have e2 := HE1.out.f.c2
  have e3 := HE1.out.f.c3
  clear HF HB HFo hb1 hlt0 hcs0 hg0 hg1
  go_wp2_with fail
  refine (smallT_any free _).mono ?_
  rintro e w3 ⟨rfl, hb3⟩
  have HE3 := hideIt (HE1.out.below hb3 HE1.out.blt)
  have hB3 := hideIt (hB2.out.trans (hb3.mono hB2.out.size))
  clear hb3 HE1 hB2 hgx e0 e1 e2 e3 hB1
  rw [h1]
  have e0 := HE3.out.a.c0
  have e1 := HE3.out.a.c1
  have e2 := HE3.out.a.c2
  have e3 := HE3.out.a.c3
  go_wp2_with fail
  refine (smallT_any all _).mono ?_
  rintro e w4 ⟨rfl, hb4⟩
  have HE4 := hideIt (HE3.out.below hb4 HE3.out.blt)
  have hB4 := hideIt (hB3.out.trans (hb4.mono hB3.out.size))
  clear hb4 HE3 hB3 e0 e1 e2 e3
  rw [h2]
  have f0 := HE4.out.f.c0
  have f1 := HE4.out.f.c1
  have f2 := HE4.out.f.c2
  have f3 := HE4.out.f.c3
  have e0 := HE4.out.a.c0
  have e1 := HE4.out.a.c1
  have e2 := HE4.out.a.c2
  have e3 := HE4.out.a.c3
  have HN := hideIt (for_any free all nodes many w4 h4 (by omega) HSf.out HSa.out)
  obtain ⟨H, hH0⟩ : ∃ H, H = Ost.hints free all nodes many := ⟨_, rfl⟩
  rw [← hH0] at HN
  have HHe := hideIt hH0
  clear hH0
  go_wp2_with fail
  refine HN.out.mono ?_
  rintro e w5 ⟨v, rfl, hH, hfr, hb5⟩
  obtain ⟨ao, cv, rfl⟩ : ∃ ao cv, v = .slice ao H.length cv := by
    rcases hH with ⟨rfl, ao, c, rfl⟩ | ⟨b, o, c, rfl, _⟩
    · exact ⟨ao, c, rfl⟩
    · exact ⟨_, c, rfl⟩
  have HE5 := hideIt (HE4.out.below hb5 HE4.out.blt)
  have hB5 := hB4.out.trans (hb5.mono hB4.out.size)
  have hBl : Hid (w.heap.size + 1 < w1.heap.size) := HE5.out.lt
  have HS := hideIt (stored HE5.out hH hfr HE4.out.blt)
  have hB6 := hideIt ((hB5.setCell (p := ⟨w1.heap.size, 0, none⟩) (by have := hBl.out; show w.heap.size ≤ w1.heap.size; omega) (.bool false)).setCell (p := ⟨w1.heap.size, 1, none⟩) (by have := hBl.out; show w.heap.size ≤ w1.heap.size; omega) (.slice ao H.length cv))
  have g0 := HE5.out.c0
  have g1 := HE5.out.c1
  have z0 := HE5.out.z0
  have z1 := HE5.out.z1
  clear hb5 HE4 hB4 f0 f1 f2 f3 e0 e1 e2 e3 HN hH hfr HE5 hB5
  go_wp2_with fail
  clear g0 g1 z0 z1
  obtain ⟨w6, hw6⟩ : ∃ w6, w6 = (w5.setCell ⟨w1.heap.size, 0, none⟩ (.bool false)).setCell ⟨w1.heap.size, 1, none⟩ (.slice ao H.length cv) := ⟨_, rfl⟩
  rw [← hw6] at HS hB6 ⊢
  have hHl : H.length ≤ 16 := by rw [HHe.out]; exact Ost.hints_len ..
  have hT6 : w6.heap.size = w5.heap.size := by rw [hw6]; simp
  have HT0 := TAt.made w6 69
  have HBt := (Below.refl w6.heap.size w6).alloc (Nat.le_refl _) (.cells falses 69)
  unfold falses at HT0 HBt
  rw [hT6] at HT0 HBt
  clear hw6
  generalize w5.heap.size = T at *
  generalize w1.heap.size = Bq at *
  have HT0' := hideIt HT0
  have HBt' := hideIt HBt
  clear HT0 HBt
  have hTB : Hid (Bq < T) := by have := HS.out.1.blt; unfold Hid; omega
  have hNT : Hid (w.heap.size ≤ T) := by have := hTB.out; have := hBl.out; unfold Hid; omega
  go_loopw [11] (fun i wr => ∃ k : Nat, k ≤ H.length ∧ i = .int .i64 k ∧ Hid (TAt wr T (thereTo H k)) ∧ Hid (Below T w6 wr)) (fun i _ => H.length - (intOf i).toNat)
  case atStart => exact ⟨0, by omega, rfl, HT0'.out, HBt'.out⟩
  case round =>
    obtain ⟨k, hk, rfl, HTr, HBr⟩ := hrel
    clear HT0' HBt'
    have hE := HS.out.1.below HBr.out (by have := hTB.out; omega)
    have g0 := hE.c0
    have g1 := hE.c1
    by_cases hlt : k < H.length
    · have f0 := hE.f.c0
      have f1 := hE.f.c1
      have f2 := hE.f.c2
      have f3 := hE.f.c3
      obtain ⟨ao', c', hv, hcs⟩ := (HS.out.2.below (by rw [hT6]; exact HBr.out)).form
      obtain ⟨rfl, rfl⟩ : ao = ao' ∧ cv = c' := by simpa using hv
      obtain ⟨b, o, rfl, hbl, hcs⟩ := hcs (by omega)
      obtain ⟨c0, c1⟩ := hcs k hlt
      have hx := Ost.hints_mem (h := H.getD k (0, false)) (by rw [← HHe.out]; exact Ost.getD_mem H _ k hlt)
      have HNw := hideIt (Ost.thereTo_new (H := H) (by rw [HHe.out]; exact Ost.hints_nodup ..) hlt)
      have HSt := hideIt (Ost.thereTo_step hlt)
      clear hcs hv hE
      generalize H.getD k (0, false) = x at *
      obtain ⟨m, gd⟩ := x
      simp only at c0 c1 hx HNw HSt
      obtain ⟨hm1, hm16, hmn, hov, hgd⟩ := hx
      have HGd := hideIt hgd
      have HMn := hideIt hmn
      have hand := and8 m nodes hm16 (by omega)
      rw [hmn] at hand
      have HW := hideIt ((Below.refl wr.heap.size wr).alloc (Nat.le_refl _) (.cells #[.int .u8 (m : Nat), .bool gd] 60))
      have HTa := hideIt (HTr.out.below HW.out HTr.out.lt)
      have HBa := hideIt (HBr.out.trans (HW.out.mono (Nat.le_of_lt HTr.out.lt)))
      have hTw : T < wr.heap.size := HTr.out.lt
      have hL := hideIt (show (wr.alloc (.cells #[.int .u8 (m : Nat), .bool gd] 60)).cell? ⟨wr.heap.size, 0, none⟩ = some (.int .u8 (m : Nat)) ∧ (wr.alloc (.cells #[.int .u8 (m : Nat), .bool gd] 60)).cell? ⟨wr.heap.size, 1, none⟩ = some (.bool gd) by simp)
      replace f0 := cell_alloc f0 (.cells #[.int .u8 (m : Nat), .bool gd] 60)
      replace f1 := cell_alloc f1 (.cells #[.int .u8 (m : Nat), .bool gd] 60)
      replace f2 := cell_alloc f2 (.cells #[.int .u8 (m : Nat), .bool gd] 60)
      replace f3 := cell_alloc f3 (.cells #[.int .u8 (m : Nat), .bool gd] 60)
      have HOv := hideIt (fun w => over_any free m w (by omega) HSf.out)
      generalize sumOn free m = S at *
      clear hgd hmn
      unfold v4 at HOv
      go_wp2_with fail
      refine (HOv.out _).mono ?_
      rintro e w7 ⟨rfl, hb7⟩
      have HT7 := hideIt (HTa.out.below hb7 HTa.out.lt)
      have HB7 := hideIt (HBa.out.trans (hb7.mono (Nat.le_of_lt HTa.out.lt)))
      have l0 := (hb7.cell (p := ⟨wr.heap.size, 0, none⟩) (by simp)).trans hL.out.1
      have l1 := (hb7.cell (p := ⟨wr.heap.size, 1, none⟩) (by simp)).trans hL.out.2
      obtain ⟨t0, t1⟩ := HT7.out m hm16
      rw [HNw.out] at t0
      clear hb7 hL HTa HBa HTr HBr HW f0 f1 f2 f3 HOv g0 g1 c0 c1
      go_wp2_with fail
      have HT8 := hideIt (HT7.out.set hm16 (g := thereTo H (k + 1)) fun j _ => HSt.out j)
      have HB8 := hideIt (HB7.out.setCell (p := ⟨T, m, none⟩) (Nat.le_refl T) (.bool true))
      have l0' := (World.cell?_setCell_other (w := w7) (a := ⟨T, m, none⟩) (v := .bool true) (b := ⟨wr.heap.size, 0, none⟩) (h := by intro h; cases h; omega)).trans l0
      have l1' := (World.cell?_setCell_other (w := w7) (a := ⟨T, m, none⟩) (v := .bool true) (b := ⟨wr.heap.size, 1, none⟩) (h := by intro h; cases h; omega)).trans l1
      clear l0 l1 t0 t1 HT7 HB7 HNw HSt hand hbl hov
      generalize w7.setCell ⟨T, m, none⟩ (.bool true) = w8 at *
      generalize wr.heap.size = L at *
      go_loopw [13] (fun i wq => ∃ j : Nat, 1 ≤ j ∧ j ≤ 16 ∧ i = .int .i64 j ∧ Hid (TAt wq T (thereTo H (k + 1))) ∧ Hid (Below T w6 wq) ∧ wq.cell? ⟨L, 0, none⟩ = some (.int .u8 (m : Nat)) ∧ wq.cell? ⟨L, 1, none⟩ = some (.bool gd)) (fun i _ => 16 - (intOf i).toNat)
      case atStart => exact ⟨1, by omega, by omega, rfl, HT8.out, HB8.out, l0', l1'⟩
      case round =>
        obtain ⟨j, hj1, hj, rfl, HTq, HBq, l0, l1⟩ := hrel
        clear HT8 HB8 l0' l1'
        by_cases hj16 : j < 16
        · rcases two gd with hgd | hgd
          · have hE := HS.out.1.below HBq.out (by have := hTB.out; omega)
            have e0 := hE.a.c0
            have e1 := hE.a.c1
            have e2 := hE.a.c2
            have e3 := hE.a.c3
            clear hE
            have hLq := World.block_lt_of_cell? _ _ l0
            have hNq := World.block_lt_of_cell? _ _ e0
            have HG2 : Hid (pop8 m = Ost.few all nodes many) := by
              have := HGd.out
              rw [hgd] at this
              unfold Ost.goodH at this
              have := this.symm
              rw [Bool.and_eq_true, decide_eq_true_eq, decide_eq_true_eq] at this
              exact this.2
            subst hgd
            have hconv : IntKind.u8.wrap (j : Int) = j := by show (j : Int) % 256 = j; omega
            rcases two (decide (j &&& nodes = j)) with hA | hA
            · have hand := and8 j nodes hj16 (by omega)
              rw [of_decide_eq_true hA] at hand
              have HOv := hideIt (fun w => over_any all j w (by omega) HSa.out)
              unfold v4 at HOv
              rcases two (decide (many ≤ sumOn all j)) with hB | hB
              · have HF := Ost.few_min (all := all) (nodes := nodes) (many := many) hj16 (by unfold isSub; rw [hA, decide_eq_true hj1]; rfl) (of_decide_eq_true hB)
                rw [← HG2.out] at HF
                have HPj := hideIt (fun w => nodesH_any j w (by omega))
                have HPm := hideIt (fun w => nodesH_any m w (by omega))
                have hp8 := Ost.pop8_le m
                have hq8 := Ost.pop8_le j
                have hov := of_decide_eq_true hB
                clear hB hA HG2
                generalize sumOn all j = S2 at *
                generalize pop8 j = pj at *
                generalize pop8 m = pm at *
                go_wp2_with fail
                go_region_held3 (fun w' => w'.cell? ⟨w.heap.size + 1, 0, none⟩ = some (.int .i64 all.a) ∧ w'.cell? ⟨w.heap.size + 1, 1, none⟩ = some (.int .i64 all.b) ∧ w'.cell? ⟨w.heap.size + 1, 2, none⟩ = some (.int .i64 all.c) ∧ w'.cell? ⟨w.heap.size + 1, 3, none⟩ = some (.int .i64 all.d) ∧ w'.cell? ⟨L, 0, none⟩ = some (.int .u8 (m : Nat))) (go_keep) (first | (go_at_call 37; refine (HOv.out _).mono ?_; rintro e w9 ⟨rfl, hb9⟩; have x0 := (hb9.cell (p := ⟨w.heap.size + 1, 0, none⟩) hNq).trans e0; have x1 := (hb9.cell (p := ⟨w.heap.size + 1, 1, none⟩) hNq).trans e1; have x2 := (hb9.cell (p := ⟨w.heap.size + 1, 2, none⟩) hNq).trans e2; have x3 := (hb9.cell (p := ⟨w.heap.size + 1, 3, none⟩) hNq).trans e3; have x4 := (hb9.cell (p := ⟨L, 0, none⟩) hLq).trans l0; have x5 := (hb9.cell (p := ⟨L, 1, none⟩) hLq).trans l1) | (go_at_call_of 30 j; refine (HPj.out _).mono ?_; rintro e w5 ⟨rfl, hw5⟩; subst w5) | (go_at_call_of 30 m; refine (HPm.out _).mono ?_; rintro e w5 ⟨rfl, hw5⟩; subst w5))
                all_goals
                  have HT9 := hideIt (TAt.below (u := World.drew _) (f := thereTo H (k + 1)) HTq.out hb9 HTq.out.lt)
                  have HB9 := hideIt (HBq.out.drew.trans (hb9.mono (Nat.le_of_lt HTq.out.lt)))
                  clear hb9 HTq HBq e0 e1 e2 e3 x0 x1 x2 x3
                  go_wp2_with fail
                  go_roundw
                  case rel => exact ⟨j + 1, by omega, by omega, by go_num, HT9.out, HB9.out, x4, x5⟩
                  case measure => simp [intOf]; omega
              · have hov := Int.lt_of_not_ge (of_decide_eq_false hB)
                clear hA HG2
                generalize sumOn all j = S2 at *
                go_wp2_with fail
                refine wp_region_held_drew (S := (fun w' => w'.cell? ⟨w.heap.size + 1, 0, none⟩ = some (.int .i64 all.a) ∧ w'.cell? ⟨w.heap.size + 1, 1, none⟩ = some (.int .i64 all.b) ∧ w'.cell? ⟨w.heap.size + 1, 2, none⟩ = some (.int .i64 all.c) ∧ w'.cell? ⟨w.heap.size + 1, 3, none⟩ = some (.int .i64 all.d) ∧ w'.cell? ⟨L, 0, none⟩ = some (.int .u8 (m : Nat)))) (by kernel_rfl) ⟨e0, e1, e2, e3, l0⟩ (fun hHeld => ?_)
                refine wpAnyH_take (i := 0) (oi := { dst := some 119, op := Op.move (Operand.tmp 14), type := 23, pos := "parts.go:163", after := #[], guard := none }) (v := ?v0) rfl (by kernel_rfl) (by kernel_rfl) (by kernel_rfl) (fun _ _ _ h => h) (Or.inl ⟨by rfl, ?h0⟩) (by assumption) ?r0
                case h0 =>
                  intro w' hSw
                  (try dsimp only at hSw)
                  go_simp
                  first | done | with_reducible rfl | rfl
                (try simp only [Act.put, List.setIfInBounds_toArray, List.set_cons_zero, List.set_cons_succ])
                refine wpAnyH_take (i := 1) (oi := { dst := some 120, op := Op.move (Operand.tmp 2), type := 23, pos := "parts.go:163", after := #[], guard := none }) (v := ?v1) rfl (by kernel_rfl) (by kernel_rfl) (by kernel_rfl) (fun _ _ _ h => h) (Or.inl ⟨by rfl, ?h1⟩) (by assumption) ?r1
                case h1 =>
                  intro w' hSw
                  (try dsimp only at hSw)
                  go_simp
                  first | done | with_reducible rfl | rfl
                (try simp only [Act.put, List.setIfInBounds_toArray, List.set_cons_zero, List.set_cons_succ])
                refine wpAnyH_take (i := 2) (oi := { dst := some 121, op := Op.binOp BinOp.and 23 (Operand.tmp 119) (Operand.tmp 120) 23, type := 23, pos := "parts.go:163", after := #[{ on := 0, ground := Ground.data }, { on := 1, ground := Ground.data }], guard := none }) (v := ?v2) rfl (by kernel_rfl) (by kernel_rfl) (by kernel_rfl) (fun _ _ _ h => h) (Or.inl ⟨by rfl, ?h2⟩) (by assumption) ?r2
                case h2 =>
                  intro w' hSw
                  (try dsimp only at hSw)
                  go_simp
                  first | done | with_reducible rfl | rfl
                (try simp only [Act.put, List.setIfInBounds_toArray, List.set_cons_zero, List.set_cons_succ])
                refine wpAnyH_take (i := 3) (oi := { dst := some 122, op := Op.move (Operand.tmp 14), type := 23, pos := "parts.go:163", after := #[], guard := none }) (v := ?v3) rfl (by kernel_rfl) (by kernel_rfl) (by kernel_rfl) (fun _ _ _ h => h) (Or.inl ⟨by rfl, ?h3⟩) (by assumption) ?r3
                case h3 =>
                  intro w' hSw
                  (try dsimp only at hSw)
                  go_simp
                  first | done | with_reducible rfl | rfl
                (try simp only [Act.put, List.setIfInBounds_toArray, List.set_cons_zero, List.set_cons_succ])
                refine wpAnyH_take (i := 4) (oi := { dst := some 123, op := Op.binOp BinOp.eql 23 (Operand.tmp 121) (Operand.tmp 122) 23, type := 4, pos := "parts.go:163", after := #[{ on := 2, ground := Ground.data }, { on := 3, ground := Ground.data }], guard := none }) (v := ?v4) rfl (by kernel_rfl) (by kernel_rfl) (by kernel_rfl) (fun _ _ _ h => h) (Or.inl ⟨by rfl, ?h4⟩) (by assumption) ?r4
                case h4 =>
                  intro w' hSw
                  (try dsimp only at hSw)
                  go_simp
                  first | done | with_reducible rfl | rfl
                (try simp only [Act.put, List.setIfInBounds_toArray, List.set_cons_zero, List.set_cons_succ])
                refine wpAnyH_take (i := 5) (oi := { dst := some 124, op := Op.move (Operand.tmp 123), type := 4, pos := "parts.go:163", after := #[{ on := 4, ground := Ground.data }], guard := none }) (v := ?v5) rfl (by kernel_rfl) (by kernel_rfl) (by kernel_rfl) (fun _ _ _ h => h) (Or.inl ⟨by rfl, ?h5⟩) (by assumption) ?r5
                case h5 =>
                  intro w' hSw
                  (try dsimp only at hSw)
                  go_simp
                  first | done | with_reducible rfl | rfl
                (try simp only [Act.put, List.setIfInBounds_toArray, List.set_cons_zero, List.set_cons_succ])
                refine wpAnyH_take (i := 6) (oi := { dst := some 125, op := Op.move (Operand.tmp 14), type := 23, pos := "parts.go:163", after := #[{ on := 5, ground := Ground.guard }], guard := some (5, true) }) (v := ?v6) rfl (by kernel_rfl) (by kernel_rfl) (by kernel_rfl) (fun _ _ _ h => h) (Or.inl ⟨by rfl, ?h6⟩) (by assumption) ?r6
                case h6 =>
                  intro w' hSw
                  (try dsimp only at hSw)
                  go_simp
                  first | done | with_reducible rfl | rfl
                (try simp only [Act.put, List.setIfInBounds_toArray, List.set_cons_zero, List.set_cons_succ])
                refine wpAnyH_take (i := 7) (oi := { dst := some 126, op := Op.load 45 (Operand.tmp 5), type := 45, pos := "parts.go:163", after := #[{ on := 5, ground := Ground.guard }], guard := some (5, true) }) (v := ?v7) rfl (by kernel_rfl) (by kernel_rfl) (by kernel_rfl) (fun _ _ _ h => h) (Or.inl ⟨by rfl, ?h7⟩) (by assumption) ?r7
                case h7 =>
                  intro w' hSw
                  (try dsimp only at hSw)
                  go_simp
                  first | done | with_reducible rfl | rfl
                (try simp only [Act.put, List.setIfInBounds_toArray, List.set_cons_zero, List.set_cons_succ])
                refine wpAnyH_take (i := 9) (oi := { dst := some 128, op := Op.move (Operand.tmp 3), type := 3, pos := "parts.go:163", after := #[{ on := 5, ground := Ground.guard }], guard := some (5, true) }) (v := ?v9) rfl (by kernel_rfl) (by kernel_rfl) (by kernel_rfl) (fun _ _ _ h => h) (Or.inl ⟨by rfl, ?h9⟩) (by assumption) ?r9
                case h9 =>
                  intro w' hSw
                  (try dsimp only at hSw)
                  go_simp
                  first | done | with_reducible rfl | rfl
                (try simp only [Act.put, List.setIfInBounds_toArray, List.set_cons_zero, List.set_cons_succ])
                refine wpAnyH_ready (rs := [8]) (by kernel_rfl) (by simp) (AllReadyH.cons rfl (fun K hK => ?_) AllReadyH.nil)
                go_simp
                go_wp2_with fail
                refine (HOv.out _).mono ?_
                rintro e w9 ⟨rfl, hb9⟩
                have x0 := (hb9.cell (p := ⟨w.heap.size + 1, 0, none⟩) hNq).trans e0
                have x1 := (hb9.cell (p := ⟨w.heap.size + 1, 1, none⟩) hNq).trans e1
                have x2 := (hb9.cell (p := ⟨w.heap.size + 1, 2, none⟩) hNq).trans e2
                have x3 := (hb9.cell (p := ⟨w.heap.size + 1, 3, none⟩) hNq).trans e3
                have x4 := (hb9.cell (p := ⟨L, 0, none⟩) hLq).trans l0
                have x5 := (hb9.cell (p := ⟨L, 1, none⟩) hLq).trans l1
                go_wp2_with fail
                refine hK.out _ _ ⟨x0, x1, x2, x3, x4⟩ (fun hHeld => ?_)
                clear hK K
                refine wpAnyH_take (i := 10) (oi := { dst := some 129, op := Op.binOp BinOp.geq 3 (Operand.tmp 127) (Operand.tmp 128) 3, type := 4, pos := "parts.go:163", after := #[{ on := 8, ground := Ground.data }, { on := 9, ground := Ground.data }, { on := 5, ground := Ground.guard }], guard := some (5, true) }) (v := ?v10) rfl (by kernel_rfl) (by kernel_rfl) (by kernel_rfl) (fun _ _ _ h => h) (Or.inl ⟨by rfl, ?h10⟩) (by assumption) ?r10
                case h10 =>
                  intro w' hSw
                  (try dsimp only at hSw)
                  go_simp
                  first | done | with_reducible rfl | rfl
                (try simp only [Act.put, List.setIfInBounds_toArray, List.set_cons_zero, List.set_cons_succ])
                refine wpAnyH_take (i := 11) (oi := { dst := some 130, op := Op.pick (Operand.tmp 124) (Operand.tmp 129) (Operand.const (Value.bool false)), type := 4, pos := "parts.go:163", after := #[{ on := 5, ground := Ground.data }, { on := 10, ground := Ground.data }], guard := none }) (v := ?v11) rfl (by kernel_rfl) (by kernel_rfl) (by kernel_rfl) (fun _ _ _ h => h) (Or.inl ⟨by rfl, ?h11⟩) (by assumption) ?r11
                case h11 =>
                  intro w' hSw
                  (try dsimp only at hSw)
                  go_simp
                  first | done | with_reducible rfl | rfl
                (try simp only [Act.put, List.setIfInBounds_toArray, List.set_cons_zero, List.set_cons_succ])
                refine wpAnyH_take (i := 12) (oi := { dst := some 131, op := Op.move (Operand.tmp 130), type := 4, pos := "parts.go:163", after := #[{ on := 11, ground := Ground.data }, { on := 8, ground := Ground.chain }], guard := none }) (v := ?v12) rfl (by kernel_rfl) (by kernel_rfl) (by kernel_rfl) (fun _ _ _ h => h) (Or.inl ⟨by rfl, ?h12⟩) (by assumption) ?r12
                case h12 =>
                  intro w' hSw
                  (try dsimp only at hSw)
                  go_simp
                  first | done | with_reducible rfl | rfl
                (try simp only [Act.put, List.setIfInBounds_toArray, List.set_cons_zero, List.set_cons_succ])
                refine wpAnyH_take (i := 13) (oi := { dst := some 132, op := Op.move (Operand.tmp 14), type := 23, pos := "parts.go:163", after := #[{ on := 12, ground := Ground.guard }], guard := some (12, true) }) (v := undef) rfl (by kernel_rfl) (by kernel_rfl) (by kernel_rfl) (fun _ _ _ h => h) (Or.inr ⟨by rfl, rfl⟩) (by assumption) ?_
                (try simp only [Act.put, List.setIfInBounds_toArray, List.set_cons_zero, List.set_cons_succ])
                refine wpAnyH_take (i := 14) (oi := { dst := some 133, op := Op.call { callee := Callee.value (Operand.func 30), args := #[Operand.tmp 132], argTypes := #[23] }, type := 3, pos := "parts.go:163", after := #[{ on := 13, ground := Ground.data }, { on := 12, ground := Ground.chain }, { on := 12, ground := Ground.guard }], guard := some (12, true) }) (v := undef) rfl (by kernel_rfl) (by kernel_rfl) (by kernel_rfl) (fun _ _ _ h => h) (Or.inr ⟨by rfl, rfl⟩) (by assumption) ?_
                (try simp only [Act.put, List.setIfInBounds_toArray, List.set_cons_zero, List.set_cons_succ])
                refine wpAnyH_take (i := 15) (oi := { dst := some 134, op := Op.fieldAddr 60 (Operand.tmp 12) 0, type := 0, pos := "parts.go:163", after := #[{ on := 12, ground := Ground.guard }], guard := some (12, true) }) (v := undef) rfl (by kernel_rfl) (by kernel_rfl) (by kernel_rfl) (fun _ _ _ h => h) (Or.inr ⟨by rfl, rfl⟩) (by assumption) ?_
                (try simp only [Act.put, List.setIfInBounds_toArray, List.set_cons_zero, List.set_cons_succ])
                refine wpAnyH_take (i := 16) (oi := { dst := some 135, op := Op.load 23 (Operand.tmp 134), type := 23, pos := "parts.go:163", after := #[{ on := 15, ground := Ground.data }, { on := 12, ground := Ground.guard }], guard := some (12, true) }) (v := undef) rfl (by kernel_rfl) (by kernel_rfl) (by kernel_rfl) (fun _ _ _ h => h) (Or.inr ⟨by rfl, rfl⟩) (by assumption) ?_
                (try simp only [Act.put, List.setIfInBounds_toArray, List.set_cons_zero, List.set_cons_succ])
                refine wpAnyH_take (i := 17) (oi := { dst := some 136, op := Op.call { callee := Callee.value (Operand.func 30), args := #[Operand.tmp 135], argTypes := #[23] }, type := 3, pos := "parts.go:163", after := #[{ on := 16, ground := Ground.data }, { on := 14, ground := Ground.chain }, { on := 12, ground := Ground.guard }], guard := some (12, true) }) (v := undef) rfl (by kernel_rfl) (by kernel_rfl) (by kernel_rfl) (fun _ _ _ h => h) (Or.inr ⟨by rfl, rfl⟩) (by assumption) ?_
                (try simp only [Act.put, List.setIfInBounds_toArray, List.set_cons_zero, List.set_cons_succ])
                refine wpAnyH_take (i := 18) (oi := { dst := some 137, op := Op.binOp BinOp.lss 3 (Operand.tmp 133) (Operand.tmp 136) 3, type := 4, pos := "parts.go:163", after := #[{ on := 14, ground := Ground.data }, { on := 17, ground := Ground.data }, { on := 12, ground := Ground.guard }], guard := some (12, true) }) (v := undef) rfl (by kernel_rfl) (by kernel_rfl) (by kernel_rfl) (fun _ _ _ h => h) (Or.inr ⟨by rfl, rfl⟩) (by assumption) ?_
                (try simp only [Act.put, List.setIfInBounds_toArray, List.set_cons_zero, List.set_cons_succ])
                refine wpAnyH_take (i := 19) (oi := { dst := some 138, op := Op.pick (Operand.tmp 131) (Operand.tmp 137) (Operand.const (Value.bool false)), type := 4, pos := "parts.go:163", after := #[{ on := 12, ground := Ground.data }, { on := 18, ground := Ground.data }], guard := none }) (v := ?v19) rfl (by kernel_rfl) (by kernel_rfl) (by kernel_rfl) (fun _ _ _ h => h) (Or.inl ⟨by rfl, ?h19⟩) (by assumption) ?r19
                case h19 =>
                  intro w' hSw
                  (try dsimp only at hSw)
                  go_simp
                  first | done | with_reducible rfl | rfl
                (try simp only [Act.put, List.setIfInBounds_toArray, List.set_cons_zero, List.set_cons_succ])
                refine wpAnyH_done (by kernel_rfl) ?_ _
                have HT9 := hideIt (TAt.below (u := World.drew _) (f := thereTo H (k + 1)) HTq.out hb9 HTq.out.lt)
                have HB9 := hideIt (HBq.out.drew.trans (hb9.mono (Nat.le_of_lt HTq.out.lt)))
                clear hb9 HTq HBq e0 e1 e2 e3 x0 x1 x2 x3
                go_wp2_with fail
                go_roundw
                case rel => exact ⟨j + 1, by omega, by omega, by go_num, HT9.out, HB9.out, x4, x5⟩
                case measure => simp [intOf]; omega
            · have hand := and8_eq j nodes hj16 (by omega)
              rw [hA] at hand
              clear hA HG2
              go_wp2_with fail
              go_quiet (fail)
              go_wp2_with fail
              go_roundw
              case rel => exact ⟨j + 1, by omega, by omega, by go_num, (fun q hq => HTq.out q hq), below_drewN HBq.out _, l0, l1⟩
              case measure => simp [intOf]; omega
          · subst hgd
            go_wp2_with fail
            go_roundw
            case rel => exact ⟨k + 1, by omega, by go_num, HTq.out, HBq.out⟩
            case measure => simp [intOf]; omega
        · have hj16 : j = 16 := by omega
          subst hj16
          go_wp2_with fail
          go_roundw
          case rel => exact ⟨k + 1, by omega, by go_num, HTq.out, HBq.out⟩
          case measure => simp [intOf]; omega
    · have hkl : k = H.length := by omega
      subst hkl
      have HEnd := hideIt (fun j (hj : j < 16) (h1 : 1 ≤ j) (hs : j &&& nodes = j) => Ost.thereTo_end (free := free) (all := all) (nodes := nodes) (many := many) hj h1 hs)
      rw [← HHe.out] at HEnd
      clear hE
      go_wp2_with fail
      go_loopw [15] (fun i wq => ∃ j : Nat, 1 ≤ j ∧ j ≤ 16 ∧ i = .int .i64 j ∧ Hid (TAt wq T (thereTo H H.length)) ∧ Hid (Below T w6 wq)) (fun i _ => 16 - (intOf i).toNat)
      case atStart => exact ⟨1, by omega, by omega, rfl, HTr.out, HBr.out⟩
      case round =>
        obtain ⟨j, hj1, hj, rfl, HTq, HBq⟩ := hrel
        clear HTr HBr g0 g1
        have hE := HS.out.1.below HBq.out (by have := hTB.out; omega)
        by_cases hj16 : j < 16
        · have e0 := hE.f.c0
          have e1 := hE.f.c1
          have e2 := hE.f.c2
          have e3 := hE.f.c3
          have t0 := (HTq.out j hj16).1
          have hNq := World.block_lt_of_cell? _ _ e0
          have hLq := World.block_lt_of_cell? _ _ t0
          have hconv : IntKind.u8.wrap (j : Int) = j := by show (j : Int) % 256 = j; omega
          clear hE
          rcases two (decide (j &&& nodes = j)) with hA | hA
          · have hand := and8 j nodes hj16 (by omega)
            rw [of_decide_eq_true hA] at hand
            rw [HEnd.out j hj16 hj1 (of_decide_eq_true hA)] at t0
            have HOv := hideIt (fun w => over_any free j w (by omega) HSf.out)
            unfold v4 at HOv
            rcases two (decide (many ≤ sumOn free j)) with hB | hB
            · rw [hB] at t0
              have hov := of_decide_eq_true hB
              clear hA
              generalize sumOn free j = S2 at *
              go_wp2_with fail
              go_region_held3 (fun w' => w'.cell? ⟨w.heap.size, 0, none⟩ = some (.int .i64 free.a) ∧ w'.cell? ⟨w.heap.size, 1, none⟩ = some (.int .i64 free.b) ∧ w'.cell? ⟨w.heap.size, 2, none⟩ = some (.int .i64 free.c) ∧ w'.cell? ⟨w.heap.size, 3, none⟩ = some (.int .i64 free.d) ∧ w'.cell? ⟨T, j, none⟩ = some (.bool true)) (go_keep) (first | (go_at_call 37; refine (HOv.out _).mono ?_; rintro e w9 ⟨rfl, hb9⟩; have x0 := (hb9.cell (p := ⟨w.heap.size, 0, none⟩) hNq).trans e0; have x1 := (hb9.cell (p := ⟨w.heap.size, 1, none⟩) hNq).trans e1; have x2 := (hb9.cell (p := ⟨w.heap.size, 2, none⟩) hNq).trans e2; have x3 := (hb9.cell (p := ⟨w.heap.size, 3, none⟩) hNq).trans e3; have x4 := (hb9.cell (p := ⟨T, j, none⟩) hLq).trans t0))
              all_goals
                have HT9 := hideIt (TAt.below (u := World.drew _) (f := thereTo H H.length) HTq.out hb9 HTq.out.lt)
                have HB9 := hideIt (HBq.out.drew.trans (hb9.mono (Nat.le_of_lt HTq.out.lt)))
                clear hb9 HTq HBq e0 e1 e2 e3 x0 x1 x2 x3 x4
                go_wp2_with fail
                go_roundw
                case rel => exact ⟨j + 1, by omega, by omega, by go_num, HT9.out, HB9.out⟩
                case measure => simp [intOf]; omega
            · rw [hB] at t0
              have hov := Int.lt_of_not_ge (of_decide_eq_false hB)
              clear hA
              generalize sumOn free j = S2 at *
              go_wp2_with fail
              go_region_held3 (fun w' => w'.cell? ⟨w.heap.size, 0, none⟩ = some (.int .i64 free.a) ∧ w'.cell? ⟨w.heap.size, 1, none⟩ = some (.int .i64 free.b) ∧ w'.cell? ⟨w.heap.size, 2, none⟩ = some (.int .i64 free.c) ∧ w'.cell? ⟨w.heap.size, 3, none⟩ = some (.int .i64 free.d) ∧ w'.cell? ⟨T, j, none⟩ = some (.bool false)) (go_keep) (first | (go_at_call 37; refine (HOv.out _).mono ?_; rintro e w9 ⟨rfl, hb9⟩; have x0 := (hb9.cell (p := ⟨w.heap.size, 0, none⟩) hNq).trans e0; have x1 := (hb9.cell (p := ⟨w.heap.size, 1, none⟩) hNq).trans e1; have x2 := (hb9.cell (p := ⟨w.heap.size, 2, none⟩) hNq).trans e2; have x3 := (hb9.cell (p := ⟨w.heap.size, 3, none⟩) hNq).trans e3; have x4 := (hb9.cell (p := ⟨T, j, none⟩) hLq).trans t0))
              all_goals
                have HT9 := hideIt (TAt.below (u := World.drew _) (f := thereTo H H.length) HTq.out hb9 HTq.out.lt)
                have HB9 := hideIt (HBq.out.drew.trans (hb9.mono (Nat.le_of_lt HTq.out.lt)))
                clear hb9 HTq HBq e0 e1 e2 e3 x0 x1 x2 x3 x4
                go_wp2_with fail
                go_roundw
                case rel => exact ⟨j + 1, by omega, by omega, by go_num, HT9.out, HB9.out⟩
                case measure => simp [intOf]; omega
          · have hand := and8_eq j nodes hj16 (by omega)
            rw [hA] at hand
            clear hA
            go_wp2_with fail
            go_quiet (fail)
            go_wp2_with fail
            go_roundw
            case rel => exact ⟨j + 1, by omega, by omega, by go_num, (fun q hq => HTq.out q hq), below_drewN HBq.out _⟩
            case measure => simp [intOf]; omega
        · have hj16 : j = 16 := by omega
          subst hj16
          have g0 := hE.c0
          clear hE
          have HBe := hideIt (hB6.out.trans (HBq.out.mono hNT.out))
          go_wp2_with fail
          go_ret
          exact ⟨rfl, HBe.out⟩
end Go.Proofs.Ytlpogejkmigimaa
