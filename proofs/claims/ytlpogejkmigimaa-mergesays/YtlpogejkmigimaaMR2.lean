/- What the reference's Merge answers: contract, the main way. -/
import Derived.Test.YtlpogejkmigimaaMR1
import Derived.Test.YtlpogejkmigimaaMRMath
import Derived.Test.YtlpogejkmigimaaMW4
import Derived.Deep.RegionHeld3
namespace Go.Proofs.Ytlpogejkmigimaa
open Go.RowKit
open Ost (Hi Wi wi0 Low bet pop8 cho okH Outs told best bestTo inTo outTo soTo com)
/-- The result's cells. -/
structure RC (u : World) (N : Nat) : Prop where
  c0 : u.cell? ⟨N, 0, none⟩ = some (.int .u8 0)
  c1 : u.cell? ⟨N, 1, none⟩ = some (.bool false)
  f0 : u.frozen? ⟨N, 0, none⟩ = false
  f1 : u.frozen? ⟨N, 1, none⟩ = false
theorem RC.lt {u : World} {N : Nat} (h : RC u N) : N < u.heap.size := World.block_lt_of_cell? u _ h.c0
theorem RC.below {u u' : World} {N K : Nat} (h : RC u N) (hb : Below K u u') (hK : N < K) : RC u' N :=
  ⟨(hb.cell (p := ⟨N, 0, none⟩) hK).trans h.c0, (hb.cell (p := ⟨N, 1, none⟩) hK).trans h.c1, (hb.frozen (p := ⟨N, 0, none⟩) hK).trans h.f0, (hb.frozen (p := ⟨N, 1, none⟩) hK).trans h.f1⟩
/-- Two hundred and fifty-six truths, none of them yet. -/
def fal : Array Value := Array.replicate 256 (.bool false)
theorem zero256 (w : World) : Sem.run Try.prog (zeroValue 91) w = .ok (.agg fal) w := by kernel_rfl
def TT (u : World) (T : Nat) (f : Nat → Bool) : Prop := ∀ j, j < 256 → u.cell? ⟨T, j, none⟩ = some (.bool (f j)) ∧ u.frozen? ⟨T, j, none⟩ = false
theorem TT.below {u u' : World} {T K : Nat} {f : Nat → Bool} (h : TT u T f) (hb : Below K u u') (hK : T < K) : TT u' T f := fun j hj =>
  ⟨(hb.cell (p := ⟨T, j, none⟩) hK).trans (h j hj).1, (hb.frozen (p := ⟨T, j, none⟩) hK).trans (h j hj).2⟩
theorem TT.lt {u : World} {T : Nat} {f : Nat → Bool} (h : TT u T f) : T < u.heap.size := World.block_lt_of_cell? u _ (h 0 (by decide)).1
theorem TT.made (u : World) (t : TypeId) : TT (u.alloc (.cells fal t)) u.heap.size (fun _ => false) := by
  intro j hj
  refine ⟨?_, by simp⟩
  have e : (u.alloc (.cells fal t)).heap[u.heap.size]? = some (.cells fal t (0, 0)) := heap_alloc_new u _
  rw [cell_of_row _ _ j fal t (0, 0) e]
  simp [fal, hj]
theorem TT.ext {u : World} {T : Nat} {f g : Nat → Bool} (h : TT u T f) (hg : ∀ j, j < 256 → g j = f j) : TT u T g := fun j hj => by rw [hg j hj]; exact h j hj
theorem TT.set {u : World} {T : Nat} {f g : Nat → Bool} (h : TT u T f) {m : Nat} (hm : m < 256) (hg : ∀ j, j < 256 → g j = (f j || decide (j = m))) : TT (u.setCell ⟨T, m, none⟩ (.bool true)) T g := by
  intro j hj
  obtain ⟨c, z⟩ := h j hj
  obtain ⟨cm, _⟩ := h m hm
  refine ⟨?_, (World.frozen?_setCell ..).trans z⟩
  rw [hg j hj]
  by_cases e : j = m
  · subst e
    simp
    clear c hg
    go_simp
  · rw [decide_eq_false e, Bool.or_false]
    have hne : (⟨T, m, none⟩ : Addr) ≠ ⟨T, j, none⟩ := by intro h; cases h; exact e rfl
    rw [World.cell?_setCell_other (h := hne)]
    exact c
theorem TT.other {u : World} {T B : Nat} {f : Nat → Bool} (h : TT u T f) (m : Nat) (hB : B ≠ T) : TT (u.setCell ⟨B, m, none⟩ (.bool true)) T f := by
  intro j hj
  obtain ⟨c, z⟩ := h j hj
  refine ⟨?_, (World.frozen?_setCell ..).trans z⟩
  have hne : (⟨B, m, none⟩ : Addr) ≠ ⟨T, j, none⟩ := by intro h; cases h; exact hB rfl
  rw [World.cell?_setCell_other (h := hne)]
  exact c
theorem in_yes (a : Hi) (C : List Hi) (j q : Nat) (s : Bool) (h : com a (C.getD j (0, false)) = (q, s)) (x : Bool) (m : Nat) : (x || inTo a C s (j + 1) m) = ((x || inTo a C s j m) || decide (m = q)) := by
  rw [inTo, h, Bool.or_assoc]
  congr 2
  rw [decide_eq_decide]
  constructor
  · intro h; cases h; rfl
  · intro h; rw [h]
theorem in_no (a : Hi) (C : List Hi) (j q : Nat) (s t : Bool) (h : com a (C.getD j (0, false)) = (q, s)) (ht : t ≠ s) (m : Nat) : inTo a C t (j + 1) m = inTo a C t j m := by
  rw [inTo, h, decide_eq_false (by intro h; cases h; exact ht rfl), Bool.or_false]
set_option maxRecDepth 100000 in
set_option maxHeartbeats 8000000 in
theorem refMerge_main (pol : Int) (nodes : Nat) (v : Value) (ws : List Wi) (w : World) (hv : WishesAt w v ws) (hw : Light ws) (hl : ws.length ≤ 4) (hn : 1 ≤ nodes ∧ nodes ≤ 15) (hp : 1 ≤ pol ∧ pol ≤ 3) :
    Calls Try.prog 34 #[.int .i64 pol, .int .u8 nodes, v] w fun e w' => e = .returned (.tuple #[vH (told pol nodes ws), .bool ((told pol nodes ws).2 || decide (pol = 1)), .int .i64 0]) ∧ Below w.heap.size w w' := by
  have HV := hideIt hv
  have HLi := hideIt hw
  obtain ⟨ao, c, rfl, _⟩ := hv.form
  clear hv hw
  have HX : Hid (Below w.heap.size w ((w.alloc (.cells #[.int .u8 0, .bool false] 60)).alloc (.cells #[.int .u8 (nodes : Nat), .bool true] 60))) := ((Below.refl _ _).alloc (Nat.le_refl _) _).alloc (by simp) _
  have HO := oneHint (w.alloc (.cells #[.int .u8 0, .bool false] 60)) nodes true 60
  simp only [World.size_alloc] at HO
  have HO := hideIt HO
  have HRC : Hid (RC ((w.alloc (.cells #[.int .u8 0, .bool false] 60)).alloc (.cells #[.int .u8 (nodes : Nat), .bool true] 60)) w.heap.size) := by
    refine ⟨?_, ?_, ?_, ?_⟩ <;> go_simp
  have HTo := hideIt fun L => Ost.told_outs (pol := pol) (nodes := nodes) (ws := ws) (L := L) (by omega)
  have hn1 : ¬ ((nodes : Int) < 1) := by omega
  obtain ⟨hp1, hp2⟩ := hp
  have hp0 : 0 ≤ pol := by omega
  have hp3 : (pol == 0) = false := by rw [beq_eq_false_iff_ne]; omega
  generalize told pol nodes ws = T at *
  have hz256 := zero256
  obtain ⟨i0, hi, hz0, hz1, hz2⟩ := info_parts infoHint
  unfold vH
  go_enter Try.func34, Try.ntmps34
  go_wp2_with fail
  go_loopw [9, 10] (fun vS i wr => ∃ (k : Nat) (L : List Hi), k ≤ ws.length ∧ i = .int .i64 k ∧ Hid (HintsAt wr vS L) ∧ Hid (Outs pol nodes ws k L) ∧ L.length ≤ 512 ∧ Hid (RC wr w.heap.size) ∧ Hid (Below w.heap.size w wr)) (fun _ i _ => ws.length - (intOf i).toNat)
  case atStart => exact ⟨0, [(nodes, true)], by omega, rfl, HO.out, (fun x => by simp [Ost.reach]), by simp, HRC.out, HX.out⟩
  case round =>
    obtain ⟨k, L, hk, rfl, HL, HOu, hLl, HRr, HB⟩ := hrel
    clear HO HRC HX
    by_cases hlt : k < ws.length
    · obtain ⟨ao', c', hv', hcs⟩ := (HV.out.below HB.out).form
      obtain ⟨rfl, rfl⟩ : ao = ao' ∧ c = c' := by simpa using hv'
      obtain ⟨b, o, rfl, hbl, hcs⟩ := hcs (by omega)
      obtain ⟨c0, u, c1, hu⟩ := hcs k hlt
      have hy := HLi.out _ (Ost.getD_mem ws wi0 k hlt)
      have HNx := hideIt (Ost.outs_step (by omega) HOu.out)
      have HLw := hideIt (Ost.Outs.low HOu.out (by omega))
      clear hcs hv'
      generalize ws.getD k wi0 = y at *
      obtain ⟨any, hs⟩ := y
      simp only at c0 c1 hu hy
      have hCl := Ost.cho_len pol nodes ⟨any, hs⟩ hy.2
      have HLc := hideIt (Ost.cho_low pol nodes ⟨any, hs⟩ (by omega) hy.1)
      have HCh := hideIt (refChoices_any pol nodes any u hs wr hu hy.1 hy.2 ⟨hp0, hp2⟩)
      obtain ⟨ao2, c2, rfl, _⟩ := hu.form
      obtain ⟨aw, cw, rfl, _⟩ := HintsAt.form HL.out
      clear hu hy
      go_wp2_with fail
      refine HCh.out.mono ?_
      rintro e w2 ⟨vC, rfl, hC, hb2⟩
      have HL2 := hideIt (HL.out.below hb2)
      have HB2 := hideIt (HB.out.trans (hb2.mono HB.out.size))
      have HR2 := hideIt (HRr.out.below hb2 HRr.out.lt)
      have HC := hideIt hC
      generalize cho pol nodes ⟨any, hs⟩ = C at *
      obtain ⟨ac, cc, rfl, _⟩ := hC.form
      clear hC hb2 HL HB HRr HCh c0 c1
      have HTg0 := hideIt ((TT.made w2 91).below ((Below.refl (w2.heap.size + 1) _).alloc (by simp) (.cells fal 91)) (by omega))
      have HTb0 := TT.made (w2.alloc (.cells fal 91)) 91
      simp only [World.size_alloc] at HTb0
      have HTb0 := hideIt HTb0
      have HBx0 := hideIt (((Below.refl w2.heap.size w2).alloc (Nat.le_refl _) (.cells fal 91)).alloc (by simp) (.cells fal 91))
      go_wp2_with fail
      generalize hBB : w2.heap.size = B at *
      go_loopw [14] (fun t wq => ∃ i : Nat, i ≤ L.length ∧ t = .int .i64 i ∧ Hid (TT wq B (outTo L C true i)) ∧ Hid (TT wq (B + 1) (outTo L C false i)) ∧ Hid (Below B w2 wq)) (fun t _ => L.length - (intOf t).toNat)
      case atStart => exact ⟨0, by omega, rfl, HTg0.out, HTb0.out, HBx0.out⟩
      case round =>
        obtain ⟨i, hiL, rfl, HTg1, HTb1, HBq⟩ := hrel
        clear HTg0 HTb0 HBx0
        by_cases hit : i < L.length
        · have hSt : Hid (∀ s m, outTo L C s (i + 1) m = (outTo L C s i m || inTo (L.getD i (0, false)) C s C.length m)) := fun s m => rfl
          obtain ⟨aw', cw', hv', hcs⟩ := HL2.out.form
          obtain ⟨rfl, rfl⟩ : aw = aw' ∧ cw = cw' := by simpa using hv'
          obtain ⟨b4, o4, rfl, hbl4, hcs⟩ := hcs (by omega)
          obtain ⟨l0, l1⟩ := hcs i hit
          have hl0 := hideIt l0
          have hl1 := hideIt l1
          have hpp := HLw.out _ (Ost.getD_mem L (0, false) i hit)
          clear hcs hv' l0 l1
          generalize L.getD i (0, false) = z at *
          obtain ⟨p, f⟩ := z
          simp only at hl0 hl1 hpp
          go_wp2_with fail
          go_loopw [15] (fun t wx => ∃ j : Nat, j ≤ C.length ∧ t = .int .i64 j ∧ Hid (TT wx B (fun q => outTo L C true i q || inTo (p, f) C true j q)) ∧ Hid (TT wx (B + 1) (fun q => outTo L C false i q || inTo (p, f) C false j q)) ∧ Hid (Below B w2 wx)) (fun t _ => C.length - (intOf t).toNat)
          case atStart => exact ⟨0, by omega, rfl, HTg1.out.ext (fun q _ => by simp [inTo]), HTb1.out.ext (fun q _ => by simp [inTo]), HBq.out⟩
          case round =>
            obtain ⟨j, hjC, rfl, HTg, HTb, HBx⟩ := hrel
            clear HTg1 HTb1 HBq
            by_cases hjt : j < C.length
            · obtain ⟨ac', cc', hv', hcs⟩ := HC.out.form
              obtain ⟨rfl, rfl⟩ : ac = ac' ∧ cc = cc' := by simpa using hv'
              obtain ⟨b5, o5, rfl, hbl5, hcs⟩ := hcs (by omega)
              obtain ⟨d0, d1⟩ := hcs j hjt
              replace d0 := (HBx.out.cell (p := ⟨b5, o5 + j * 2, none⟩) (by show b5 < B; omega)).trans d0
              replace d1 := (HBx.out.cell (p := ⟨b5, o5 + j * 2 + 1, none⟩) (by show b5 < B; omega)).trans d1
              have l0 := (HBx.out.cell (p := ⟨b4, o4 + i * 2, none⟩) (by show b4 < B; omega)).trans hl0.out
              have l1 := (HBx.out.cell (p := ⟨b4, o4 + i * 2 + 1, none⟩) (by show b4 < B; omega)).trans hl1.out
              have hqq := HLc.out _ (Ost.getD_mem C (0, false) j hjt)
              clear hcs hv'
              generalize hzc : C.getD j (0, false) = z at *
              obtain ⟨m, g⟩ := z
              have hzc := hideIt hzc
              simp only at d0 d1 hqq
              have hand := and8' p m hpp hqq
              have hpm : p &&& m < 256 := Nat.lt_of_le_of_lt Nat.and_le_left hpp
              rcases two f with hf | hf
              · subst hf
                rcases two g with hg | hg
                · subst hg
                  have HCo : Ost.com (p, true) (C.getD j (0, false)) = (p &&& m, true) := by rw [hzc.out]; rfl
                  have HT1 := hideIt (HTg.out.set hpm (g := fun q => outTo L C true i q || inTo (p, true) C true (j + 1) q) fun q _ => in_yes _ C j _ true HCo _ q)
                  have HT2 := hideIt ((HTb.out.other (B := B) (p &&& m) (by omega)).ext (g := fun q => outTo L C false i q || inTo (p, true) C false (j + 1) q) fun q _ => by rw [in_no _ C j _ true false HCo (by decide)])
                  have HB1 := hideIt fun n => (below_drewN HBx.out n).setCell (p := ⟨B, p &&& m, none⟩) (by show B ≤ B; omega) (.bool true)
                  obtain ⟨t0, t1⟩ := HTg.out (p &&& m) hpm
                  clear HCo HTg HTb HBx
                  generalize p &&& m = pm at *
                  go_wp2_with fail
                  go_quiet (fail)
                  go_wp2_with fail
                  go_roundw
                  case rel => exact ⟨j + 1, by omega, by go_num, HT1.out, HT2.out, HB1.out _⟩
                  case measure => simp [intOf]; omega
                · subst hg
                  have HCo : Ost.com (p, true) (C.getD j (0, false)) = (p &&& m, false) := by rw [hzc.out]; rfl
                  have HT1 := hideIt (HTb.out.set hpm (g := fun q => outTo L C false i q || inTo (p, true) C false (j + 1) q) fun q _ => in_yes _ C j _ false HCo _ q)
                  have HT2 := hideIt ((HTg.out.other (B := (B + 1)) (p &&& m) (by omega)).ext (g := fun q => outTo L C true i q || inTo (p, true) C true (j + 1) q) fun q _ => by rw [in_no _ C j _ false true HCo (by decide)])
                  have HB1 := hideIt fun n => (below_drewN HBx.out n).setCell (p := ⟨(B + 1), p &&& m, none⟩) (by show B ≤ (B + 1); omega) (.bool true)
                  obtain ⟨t0, t1⟩ := HTb.out (p &&& m) hpm
                  clear HCo HTb HTg HBx
                  generalize p &&& m = pm at *
                  go_wp2_with fail
                  go_quiet (fail)
                  go_wp2_with fail
                  go_roundw
                  case rel => exact ⟨j + 1, by omega, by go_num, HT2.out, HT1.out, HB1.out _⟩
                  case measure => simp [intOf]; omega
              · subst hf
                have HCo : Ost.com (p, false) (C.getD j (0, false)) = (p &&& m, false) := by rw [hzc.out]; rfl
                have HT1 := hideIt (HTb.out.set hpm (g := fun q => outTo L C false i q || inTo (p, false) C false (j + 1) q) fun q _ => in_yes _ C j _ false HCo _ q)
                have HT2 := hideIt ((HTg.out.other (B := (B + 1)) (p &&& m) (by omega)).ext (g := fun q => outTo L C true i q || inTo (p, false) C true (j + 1) q) fun q _ => by rw [in_no _ C j _ false true HCo (by decide)])
                have HB1 := hideIt fun n => (below_drewN HBx.out n).setCell (p := ⟨(B + 1), p &&& m, none⟩) (by show B ≤ (B + 1); omega) (.bool true)
                obtain ⟨t0, t1⟩ := HTb.out (p &&& m) hpm
                clear HCo HTb HTg HBx
                generalize p &&& m = pm at *
                go_wp2_with fail
                go_quiet (fail)
                go_wp2_with fail
                go_roundw
                case rel => exact ⟨j + 1, by omega, by go_num, HT2.out, HT1.out, HB1.out _⟩
                case measure => simp [intOf]; omega
            · have hjl : j = C.length := by omega
              subst hjl
              go_wp2_with fail
              go_roundw
              case rel => exact ⟨i + 1, by omega, by go_num, HTg.out.ext (fun q _ => hSt.out _ q), HTb.out.ext (fun q _ => hSt.out _ q), HBx.out⟩
              case measure => simp [intOf]; omega
        · have hil : i = L.length := by omega
          subst hil
          generalize outTo L C true L.length = G at *
          generalize outTo L C false L.length = Bd at *
          have hszw := HTb1.out.lt
          go_wp2_with fail
          generalize hB3 : wr.heap.size = B3 at *
          go_loopw [9, 17] (fun vS t wz => ∃ (q : Nat) (vv : Value), 1 ≤ q ∧ q ≤ 256 ∧ t = .int .i64 q ∧ vS = vv ∧ Hid (wz.ownsRow B3 60 2 vv (soTo G Bd q).length (hintCells (soTo G Bd q))) ∧ Hid (Below B3 wr wz)) (fun _ t _ => 256 - (intOf t).toNat)
          case atStart => exact ⟨1, .slice none 0 0, by omega, by omega, rfl, rfl, World.ownsRow_nil _ _ _ _, Below.refl _ _⟩
          case round =>
            rename World => wz
            obtain ⟨q, vv, hq1, hq, rfl, rfl, HRo, HBz⟩ := hrel
            have hszz : B3 ≤ wz.heap.size := Nat.le_trans (Nat.le_of_eq hB3.symm) HBz.out.size
            have hlen := Ost.soTo_len G Bd q
            by_cases hqt : q < 256
            · have hconv : IntKind.u8.wrap (q : Int) = q := by show (q : Int) % 256 = q; omega
              have hStp := Ost.soTo_step G Bd q hq1
              have g0 := (HBz.out.cell (p := ⟨B, q, none⟩) (by show B < B3; omega)).trans (HTg1.out q hqt).1
              have b0 := (HBz.out.cell (p := ⟨B + 1, q, none⟩) hszw).trans (HTb1.out q hqt).1
              obtain ⟨an, cn, rfl⟩ := row_slice HRo.out
              generalize soTo G Bd q = S0 at *
              rcases two (G q) with hg | hg
              · rw [hg] at g0 hStp
                rcases two (Bd q) with hb | hb
                · rw [hb] at b0 hStp
                  have hStp := hideIt hStp
                  go_wp2_with (at_builtin; first | (refine wpList_append_lies _ rfl _ _ 51 rfl B3 60 i0 (.agg #[.int .u8 0, .bool false]) 2 2 Try.underlying51 hi hz0 hz1 hz2 rfl (by decide) _ _ _ rfl (hown6.alloc _) ⟨_, 0, none⟩ 1 1 [.int .u8 q, .bool false] rfl rfl (by intro j u hj; match j, hj with | 0, hj => (simp at hj; subst hj; simp [Addr.add]) | 1, hj => (simp at hj; subst hj; simp [Addr.add])) (by intro u hu; simp at hu; rcases hu with rfl | rfl <;> rfl) (by decide) (by unfold maxLen; omega) (by omega) (by simp; omega) _ rfl ?_; intro g7 cap7 w7 hown7 hgrow7 hat7 hlt7; have hb7 := Below.grown ((Below.refl B3 w6).alloc hsz6 _) hgrow7 (by simp; omega) (fun z hz => (hown6.lt z hz).1)) | (refine wpList_append_lies _ rfl _ _ 51 rfl B3 60 i0 (.agg #[.int .u8 0, .bool false]) 2 2 Try.underlying51 hi hz0 hz1 hz2 rfl (by decide) _ _ _ rfl (HRo.out.alloc _) ⟨_, 0, none⟩ 1 1 [.int .u8 q, .bool true] rfl rfl (by intro j u hj; match j, hj with | 0, hj => (simp at hj; subst hj; simp [Addr.add]) | 1, hj => (simp at hj; subst hj; simp [Addr.add])) (by intro u hu; simp at hu; rcases hu with rfl | rfl <;> rfl) (by decide) (by unfold maxLen; omega) (by omega) (by simp; omega) _ rfl ?_; intro g' cap' w6 hown6 hgrow6 hat6 hlt6; have hb6 := Below.grown ((Below.refl B3 wz).alloc hszz _) hgrow6 (by simp; omega) (fun z hz => (HRo.out.lt z hz).1); have hsz6 : B3 ≤ w6.heap.size := Nat.le_trans hszz hb6.size; have b6 := (hb6.cell (p := ⟨B + 1, q, none⟩) hszw).trans b0))
                  have HB7 := hideIt ((HBz.out.trans hb6).trans hb7)
                  have HR7 := hideIt hown7
                  clear hown6 hgrow6 hat6 hlt6 hb6 hown7 hgrow7 hat7 hlt7 hb7
                  go_roundw
                  case rel => exact ⟨q + 1, _, by omega, by omega, by go_num, rfl, by rw [hStp.out, if_pos rfl, if_pos rfl, hintCells_snoc, hintCells_snoc, List.length_append, List.length_append]; exact HR7.out, HB7.out⟩
                  case measure => simp [intOf]; omega
                · rw [hb] at b0 hStp
                  have hStp := hideIt hStp
                  go_wp2_with (at_builtin; refine wpList_append_lies _ rfl _ _ 51 rfl B3 60 i0 (.agg #[.int .u8 0, .bool false]) 2 2 Try.underlying51 hi hz0 hz1 hz2 rfl (by decide) _ _ _ rfl (HRo.out.alloc _) ⟨_, 0, none⟩ 1 1 [.int .u8 q, .bool true] rfl rfl (by intro j u hj; match j, hj with | 0, hj => (simp at hj; subst hj; simp [Addr.add]) | 1, hj => (simp at hj; subst hj; simp [Addr.add])) (by intro u hu; simp at hu; rcases hu with rfl | rfl <;> rfl) (by decide) (by unfold maxLen; omega) (by omega) (by simp; omega) _ rfl ?_; intro g' cap' w6 hown6 hgrow6 hat6 hlt6; have hb6 := Below.grown ((Below.refl B3 wz).alloc hszz _) hgrow6 (by simp; omega) (fun z hz => (HRo.out.lt z hz).1); have b6 := (hb6.cell (p := ⟨B + 1, q, none⟩) hszw).trans b0)
                  have HB6 := hideIt (HBz.out.trans hb6)
                  have HR6 := hideIt hown6
                  clear hown6 hgrow6 hat6 hlt6 hb6
                  go_roundw
                  case rel => exact ⟨q + 1, _, by omega, by omega, by go_num, rfl, by rw [hStp.out, if_pos rfl, if_neg (by decide), List.append_nil, hintCells_snoc, List.length_append]; exact HR6.out, HB6.out⟩
                  case measure => simp [intOf]; omega
              · rw [hg] at g0 hStp
                rcases two (Bd q) with hb | hb
                · rw [hb] at b0 hStp
                  have hStp := hideIt hStp
                  go_wp2_with (at_builtin; refine wpList_append_lies _ rfl _ _ 51 rfl B3 60 i0 (.agg #[.int .u8 0, .bool false]) 2 2 Try.underlying51 hi hz0 hz1 hz2 rfl (by decide) _ _ _ rfl (HRo.out.alloc _) ⟨_, 0, none⟩ 1 1 [.int .u8 q, .bool false] rfl rfl (by intro j u hj; match j, hj with | 0, hj => (simp at hj; subst hj; simp [Addr.add]) | 1, hj => (simp at hj; subst hj; simp [Addr.add])) (by intro u hu; simp at hu; rcases hu with rfl | rfl <;> rfl) (by decide) (by unfold maxLen; omega) (by omega) (by simp; omega) _ rfl ?_; intro g' cap' w6 hown6 hgrow6 hat6 hlt6; have hb6 := Below.grown ((Below.refl B3 wz).alloc hszz _) hgrow6 (by simp; omega) (fun z hz => (HRo.out.lt z hz).1); have b6 := (hb6.cell (p := ⟨B + 1, q, none⟩) hszw).trans b0)
                  have HB6 := hideIt (HBz.out.trans hb6)
                  have HR6 := hideIt hown6
                  clear hown6 hgrow6 hat6 hlt6 hb6
                  go_roundw
                  case rel => exact ⟨q + 1, _, by omega, by omega, by go_num, rfl, by rw [hStp.out, if_neg (by decide), List.append_nil, if_pos rfl, hintCells_snoc, List.length_append]; exact HR6.out, HB6.out⟩
                  case measure => simp [intOf]; omega
                · rw [hb] at b0 hStp
                  have hStp := hideIt hStp
                  go_wp2_with fail
                  go_roundw
                  case rel => exact ⟨q + 1, _, by omega, by omega, by go_num, rfl, by rw [hStp.out, if_neg (by decide), List.append_nil, if_neg (by decide), List.append_nil]; exact HRo.out, HBz.out⟩
                  case measure => simp [intOf]; omega
            · have hq256 : q = 256 := by omega
              subst hq256
              have HHs := hideIt (HintsAt.of_row HRo.out)
              have hB2B : w.heap.size ≤ B := by rw [← hBB]; exact HB2.out.size
              have HBf := hideIt ((HB2.out.trans (HBq.out.mono hB2B)).trans (HBz.out.mono (by omega)))
              have HRf := hideIt ((HR2.out.below HBq.out (by rw [← hBB]; exact HR2.out.lt)).below HBz.out (by have := HR2.out.lt; omega))
              go_wp2_with fail
              go_roundw
              case rel => exact ⟨k + 1, soTo G Bd 256, by omega, by go_num, HHs.out, HNx.out, by have := Ost.soTo_len G Bd 256; omega, HRf.out, HBf.out⟩
              case measure => simp [intOf]; omega
    · have hkl : k = ws.length := by omega
      subst hkl
      have HTold : Hid (bestTo L (nodes, false) L.length = T) := HTo.out L HOu.out
      have HLw := hideIt (Ost.Outs.low HOu.out (show nodes < 256 by omega))
      obtain ⟨aw, cw, rfl, _⟩ := HintsAt.form HL.out
      have HB0 := hideIt ((Below.refl wr.heap.size wr).alloc (Nat.le_refl _) (.cells #[.int .u8 (nodes : Nat), .bool false] 60))
      have hy0 : (wr.alloc (.cells #[.int .u8 (nodes : Nat), .bool false] 60)).cell? ⟨wr.heap.size, 0, none⟩ = some (.int .u8 (nodes : Nat)) := by simp
      have hy1 : (wr.alloc (.cells #[.int .u8 (nodes : Nat), .bool false] 60)).cell? ⟨wr.heap.size, 1, none⟩ = some (.bool false) := by simp
      have hy2 : (wr.alloc (.cells #[.int .u8 (nodes : Nat), .bool false] 60)).frozen? ⟨wr.heap.size, 0, none⟩ = false := by simp
      have hy3 : (wr.alloc (.cells #[.int .u8 (nodes : Nat), .bool false] 60)).frozen? ⟨wr.heap.size, 1, none⟩ = false := by simp
      have HY := hideIt (And.intro hy0 (And.intro hy1 (And.intro hy2 hy3)))
      clear hy0 hy1 hy2 hy3
      go_wp2_with fail
      generalize hBs : wr.heap.size = Bs at *
      go_loopw [19] (fun t wz => ∃ q : Nat, q ≤ L.length ∧ t = .int .i64 q ∧ wz.cell? ⟨Bs, 0, none⟩ = some (.int .u8 ((bestTo L (nodes, false) q).1 : Nat)) ∧ wz.cell? ⟨Bs, 1, none⟩ = some (.bool (bestTo L (nodes, false) q).2) ∧ wz.frozen? ⟨Bs, 0, none⟩ = false ∧ wz.frozen? ⟨Bs, 1, none⟩ = false ∧ Hid (Below Bs wr wz)) (fun t _ => L.length - (intOf t).toNat)
      case atStart => exact ⟨0, by omega, rfl, HY.out.1, HY.out.2.1, HY.out.2.2.1, HY.out.2.2.2, HB0.out⟩
      case round =>
        rename World => wz
        obtain ⟨q, hq, rfl, y0, y1, y2, y3, HBz⟩ := hrel
        clear HY HB0
        have hb256 := Ost.best_lt HLw.out (show ((nodes, false) : Hi).1 < 256 by show nodes < 256; omega) q hq
        have hBz : Bs < wz.heap.size := World.block_lt_of_cell? _ _ y0
        by_cases hqt : q < L.length
        · obtain ⟨aw', cw', hv', hcs⟩ := HL.out.form
          obtain ⟨rfl, rfl⟩ : aw = aw' ∧ cw = cw' := by simpa using hv'
          obtain ⟨b4, o4, rfl, hbl4, hcs⟩ := hcs (by omega)
          obtain ⟨l0, l1⟩ := hcs q hqt
          replace l0 := (HBz.out.cell (p := ⟨b4, o4 + q * 2, none⟩) (by show b4 < Bs; omega)).trans l0
          replace l1 := (HBz.out.cell (p := ⟨b4, o4 + q * 2 + 1, none⟩) (by show b4 < Bs; omega)).trans l1
          have hpp := HLw.out _ (Ost.getD_mem L (0, false) q hqt)
          have HSt : bestTo L (nodes, false) (q + 1) = if bet (L.getD q (0, false)) (bestTo L (nodes, false) q) then L.getD q (0, false) else bestTo L (nodes, false) q := rfl
          clear hcs hv'
          generalize L.getD q (0, false) = x at *
          generalize bestTo L (nodes, false) q = y at *
          obtain ⟨m, g⟩ := x
          obtain ⟨p, f⟩ := y
          simp only at l0 l1 y0 y1 hpp hb256
          have HBt := hideIt fun W => refBetter_any (m, g) (p, f) W hpp hb256
          unfold vH at HBt
          go_wp2_with fail
          refine wp_region_held_drew (S := (fun w' => w'.cell? ⟨b4, o4 + q * 2, none⟩ = some (.int .u8 (m : Nat)) ∧ w'.cell? ⟨b4, o4 + q * 2 + 1, none⟩ = some (.bool g) ∧ w'.cell? ⟨Bs, 0, none⟩ = some (.int .u8 (p : Nat)) ∧ w'.cell? ⟨Bs, 1, none⟩ = some (.bool f))) (by kernel_rfl) ⟨l0, l1, y0, y1⟩ (fun hHeld => ?_)
          refine wpAnyH_take (i := 0) (oi := { dst := some 129, op := Op.move (Operand.tmp 9), type := 51, pos := "parts.go:485", after := #[], guard := none }) (v := ?v1x0) rfl (by kernel_rfl) (by kernel_rfl) (by kernel_rfl) (fun _ _ _ h => h) (Or.inl ⟨by rfl, ?h1x0⟩) (by assumption) ?r1x0
          case h1x0 =>
            intro w' hSw
            (try dsimp only at hSw)
            go_simp
            first | done | with_reducible rfl | rfl
          (try simp only [Act.put, List.setIfInBounds_toArray, List.set_cons_zero, List.set_cons_succ])
          refine wpAnyH_take (i := 1) (oi := { dst := some 130, op := Op.move (Operand.tmp 19), type := 3, pos := "parts.go:485", after := #[], guard := none }) (v := ?v2x1) rfl (by kernel_rfl) (by kernel_rfl) (by kernel_rfl) (fun _ _ _ h => h) (Or.inl ⟨by rfl, ?h2x1⟩) (by assumption) ?r2x1
          case h2x1 =>
            intro w' hSw
            (try dsimp only at hSw)
            go_simp
            first | done | with_reducible rfl | rfl
          (try simp only [Act.put, List.setIfInBounds_toArray, List.set_cons_zero, List.set_cons_succ])
          refine wpAnyH_take (i := 2) (oi := { dst := some 131, op := Op.indexAddr 51 (Operand.tmp 129) (Operand.tmp 130), type := 0, pos := "parts.go:485", after := #[{ on := 0, ground := Ground.data }, { on := 1, ground := Ground.data }], guard := none }) (v := ?v3x2) rfl (by kernel_rfl) (by kernel_rfl) (by kernel_rfl) (fun _ _ _ h => h) (Or.inl ⟨by rfl, ?h3x2⟩) (by assumption) ?r3x2
          case h3x2 =>
            intro w' hSw
            (try dsimp only at hSw)
            go_simp
            first | done | with_reducible rfl | rfl
          (try simp only [Act.put, List.setIfInBounds_toArray, List.set_cons_zero, List.set_cons_succ])
          refine wpAnyH_take (i := 3) (oi := { dst := some 132, op := Op.load 60 (Operand.tmp 131), type := 60, pos := "parts.go:485", after := #[{ on := 2, ground := Ground.data }], guard := none }) (v := ?v4x3) rfl (by kernel_rfl) (by kernel_rfl) (by kernel_rfl) (fun _ _ _ h => h) (Or.inl ⟨by rfl, ?h4x3⟩) (by assumption) ?r4x3
          case h4x3 =>
            intro w' hSw
            (try dsimp only at hSw)
            go_simp
            first | done | with_reducible rfl | rfl
          (try simp only [Act.put, List.setIfInBounds_toArray, List.set_cons_zero, List.set_cons_succ])
          refine wpAnyH_take (i := 4) (oi := { dst := some 133, op := Op.load 60 (Operand.tmp 18), type := 60, pos := "parts.go:485", after := #[], guard := none }) (v := ?v5x4) rfl (by kernel_rfl) (by kernel_rfl) (by kernel_rfl) (fun _ _ _ h => h) (Or.inl ⟨by rfl, ?h5x4⟩) (by assumption) ?r5x4
          case h5x4 =>
            intro w' hSw
            (try dsimp only at hSw)
            go_simp
            first | done | with_reducible rfl | rfl
          (try simp only [Act.put, List.setIfInBounds_toArray, List.set_cons_zero, List.set_cons_succ])
          refine wpAnyH_ready (rs := [5]) (by kernel_rfl) (by simp) (AllReadyH.cons rfl (fun K hK => ?_) AllReadyH.nil)
          go_simp
          go_wp2_with fail
          refine (HBt.out _).mono ?_
          rintro e w9 ⟨rfl, hb9⟩
          have x0 := (hb9.cell (p := ⟨b4, o4 + q * 2, none⟩) (World.block_lt_of_cell? _ _ l0)).trans l0
          have x1 := (hb9.cell (p := ⟨b4, o4 + q * 2 + 1, none⟩) (World.block_lt_of_cell? _ _ l1)).trans l1
          have x2 := (hb9.cell (p := ⟨Bs, 0, none⟩) hBz).trans y0
          have x3 := (hb9.cell (p := ⟨Bs, 1, none⟩) hBz).trans y1
          have x4 := (hb9.frozen (p := ⟨Bs, 0, none⟩) hBz).trans y2
          have x5 := (hb9.frozen (p := ⟨Bs, 1, none⟩) hBz).trans y3
          clear l0 l1 y0 y1 y2 y3
          go_wp2_with fail
          refine hK.out _ _ ⟨x0, x1, x2, x3⟩ (fun hHeld => ?_)
          clear hK K
          refine wpAnyH_take (i := 6) (oi := { dst := some 20, op := Op.assign (Operand.tmp 134), type := 4, pos := "parts.go:485", after := #[{ on := 5, ground := Ground.data }, { on := 5, ground := Ground.chain }, { on := 0, ground := Ground.phase }, { on := 1, ground := Ground.phase }, { on := 2, ground := Ground.phase }, { on := 3, ground := Ground.phase }, { on := 4, ground := Ground.phase }, { on := 5, ground := Ground.phase }], guard := none }) (v := ?v6x6) rfl (by kernel_rfl) (by kernel_rfl) (by kernel_rfl) (fun _ _ _ h => h) (Or.inl ⟨by rfl, ?h6x6⟩) (by assumption) ?r6x6
          case h6x6 =>
            intro w' hSw
            (try dsimp only at hSw)
            go_simp
            first | done | with_reducible rfl | rfl
          (try simp only [Act.put, List.setIfInBounds_toArray, List.set_cons_zero, List.set_cons_succ])
          refine wpAnyH_done (by kernel_rfl) ?_ _
          have HBn := hideIt (HBz.out.drew.trans (hb9.mono (Nat.le_of_lt hBz)))
          clear hb9 hHeld HBt
          rcases two (bet (m, g) (p, f)) with hbt | hbt
          · rw [hbt] at HSt ⊢
            rw [if_pos rfl] at HSt
            have HSt := hideIt HSt
            have HBS := hideIt ((HBn.out.setCell (p := ⟨Bs, 0, none⟩) (Nat.le_refl _) (.int .u8 (m : Nat))).setCell (p := ⟨Bs, 1, none⟩) (Nat.le_refl _) (.bool g))
            go_wp2_with fail
            go_roundw
            case rel => exact ⟨q + 1, by omega, by go_num, by rw [HSt.out]; go_simp, by rw [HSt.out]; go_simp, by go_simp, by go_simp, HBS.out⟩
            case measure => simp [intOf]; omega
          · rw [hbt] at HSt ⊢
            rw [if_neg (by decide)] at HSt
            have HSt := hideIt HSt
            go_wp2_with fail
            go_roundw
            case rel => exact ⟨q + 1, by omega, by go_num, by rw [HSt.out]; exact x2, by rw [HSt.out]; exact x3, x4, x5, HBn.out⟩
            case measure => simp [intOf]; omega
        · have hql : q = L.length := by omega
          subst hql
          rw [HTold.out] at y0 y1 hb256
          obtain ⟨p, f⟩ := T
          simp only at y0 y1
          have hRz := HRr.out.below HBz.out (by have := HRr.out.lt; omega)
          have d0 := hRz.c0
          have d1 := hRz.c1
          have f0 := hRz.f0
          have f1 := hRz.f1
          have HBE := hideIt (((HB.out.trans (HBz.out.mono (by have := HB.out.size; omega))).setCell (p := ⟨w.heap.size, 0, none⟩) (Nat.le_refl _) (.int .u8 (p : Nat))).setCell (p := ⟨w.heap.size, 1, none⟩) (Nat.le_refl _) (.bool f))
          have hNB : w.heap.size < Bs := by have := HRr.out.lt; omega
          clear hRz
          rcases two f with hf | hf
          · subst hf
            go_wp2_with fail
            (try simp only [Exit.inBlock, Exit.then])
            refine bodyPost_ret (v := .tuple #[.agg #[.int .u8 (p : Nat), .bool true], .bool true, .int .i64 0]) ?_ rfl ⟨rfl, HBE.out⟩
            rw [results_cell_tmp2 rfl]
            go_simp
          · subst hf
            by_cases hq : pol = 1
            · have hd : Hid (decide (pol = 1) = true) := decide_eq_true hq
              have hq2 : (pol == 1) = true := by rw [beq_iff_eq]; exact hq
              clear hq
              go_wp2_with fail
              (try simp only [Exit.inBlock, Exit.then])
              refine bodyPost_ret (v := .tuple #[.agg #[.int .u8 (p : Nat), .bool false], .bool true, .int .i64 0]) ?_ rfl ⟨by rw [hd.out], HBE.out⟩
              rw [results_cell_tmp2 rfl]
              go_simp
            · have hd : Hid (decide (pol = 1) = false) := decide_eq_false hq
              have hq2 : (pol == 1) = false := by rw [beq_eq_false_iff_ne]; exact hq
              clear hq
              go_wp2_with fail
              (try simp only [Exit.inBlock, Exit.then])
              refine bodyPost_ret (v := .tuple #[.agg #[.int .u8 (p : Nat), .bool false], .bool false, .int .i64 0]) ?_ rfl ⟨by rw [hd.out], HBE.out⟩
              rw [results_cell_tmp2 rfl]
              go_simp
end Go.Proofs.Ytlpogejkmigimaa
