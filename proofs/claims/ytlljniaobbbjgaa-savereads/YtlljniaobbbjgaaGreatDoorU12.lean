/- VT3 -/
import Derived.Test.YtlljniaobbbjgaaGreatDoorU7
import Derived.Shelf.Strings.BuilderK
namespace Go.Proofs.YtlljniaobbbjgaaGreatDoor
open Go.RowKit
open Qos (Nd Ct Pd nd ct pd)
open Sv (Gv Hd gv hd needTxt needsTxt devsTxt setTxt contWs givenWs podWs lineTxt contLine podLine contsTo podTxt bodyTo body heldTxt sumTxt OkN OkC OkG OkH OkL OkP)
open S1 (Tab strs strs_snoc strs_oneCell ownsRow_cells infoStr itoa_any)
/-- A builder of the call's own, with what was written. -/
def BuiltAt (B b : Nat) (l : List UInt8) (w : World) : Prop := Lib.IsBuilderF 73 5 B b (Lib.byteCells l) w
theorem BuiltAt.below {B b : Nat} {l : List UInt8} {w w' : World} (h : BuiltAt B b l w) (hb : Below w.heap.size w w') : BuiltAt B b l w' := by
  have key : ∀ p, Lib.BuilderAtF 73 5 B b p (Lib.byteCells l) w → Lib.BuilderAtF 73 5 B b p (Lib.byteCells l) w' := by
    rintro p ⟨hB, v, hv, hr, hn⟩
    have hlt : b < w.heap.size := (Array.getElem?_eq_some_iff.1 hv).1
    refine ⟨hB, v, by rw [hb.block b hlt]; exact hv, ?_, hn⟩
    exact hr.kept (row := none) ⟨hb.os, hb.tape, hb.output, hb.size, fun j hj _ => hb.block j hj⟩ (by cases hv : v.ownBlock <;> simp)
  rcases h with h | h
  · exact .inl (key _ h)
  · exact .inr (key _ h)
theorem built_new (w : World) : BuiltAt w.heap.size w.heap.size [] (w.alloc (.cells #[.pointer none, .slice none 0 0] 73)) := Lib.IsBuilderF.of (Lib.fresh_isBuilder _ _ w)
theorem write_any (B b : Nat) (l s : List UInt8) (w : World) (h : BuiltAt B b l w) (hl : l.length + s.length ≤ 1000000) (hB : B ≤ w.heap.size) :
    Calls Tryz.prog 27 #[.pointer (some ⟨b, 0, none⟩), .string ⟨s.toArray⟩] w fun e w' => e = .returned (.tuple #[.int .i64 s.length, .nilIface]) ∧ BuiltAt B b (l ++ s) w' ∧ Below B w w' := by
  have hw := Any.Builder_WriteString_k (P := Tryz.prog) (ρ := Tryz.lays156_ren) { Tryz.lays156 with } Tryz.Builder_Extra_156 B b (Lib.byteCells l) ⟨s.toArray⟩ w h (by
    show (Lib.byteCells l).length + s.toArray.size ≤ _
    simp [Lib.byteCells]; omega) hB
  refine hw.mono ?_
  rintro e w' ⟨rfl, h1, h2, _⟩
  refine ⟨rfl, .inr ?_, h2⟩
  have e : Lib.byteCells l ++ Lib.strCells ⟨s.toArray⟩ = Lib.byteCells (l ++ s) := by simp [Lib.byteCells, Lib.strCells]
  rw [e] at h1
  exact h1
theorem string_any (B b : Nat) (l : List UInt8) (w : World) (h : BuiltAt B b l w) (hB : B ≤ w.heap.size) :
    Calls Tryz.prog 31 #[.pointer (some ⟨b, 0, none⟩)] w fun e w' => e = .returned (.string ⟨l.toArray⟩) ∧ Below B w w' := by
  refine (Tryz.Builder_String_any_k B b l w h hB).mono ?_
  rintro e w' ⟨rfl, _, h2, _⟩
  exact ⟨rfl, h2⟩
theorem WordsAt.below {base : Nat} {w w' : World} {v : Value} {ws : List (List UInt8)} (h : WordsAt base w v ws) (hb : Below w.heap.size w w') : WordsAt base w' v ws := row_belowV h hb
theorem WordsAt.mono {base base' : Nat} {w : World} {v : Value} {ws : List (List UInt8)} (h : WordsAt base w v ws) (hb : base' ≤ base) : WordsAt base' w v ws := by
  obtain ⟨h1, h2⟩ := h
  refine ⟨h1, h2.imp id ?_⟩
  rintro ⟨g, cap, cur, hv, hg, r⟩
  exact ⟨g, cap, cur, hv, Nat.le_trans hb hg, r⟩
set_option maxHeartbeats 400000 in
theorem line_any (v : Value) (ws : List (List UInt8)) (base : Nat) (w : World) (h : WordsAt base w v ws) (hn : ws.length ≤ 20) (hw : ∀ x ∈ ws, x.length ≤ 400) :
    Calls Tryz.prog 55 #[v] w fun e w' => e = .returned (.string ⟨(lineTxt ws).toArray⟩) ∧ Below w.heap.size w w' := by
  have hl : (Lib.join ws [32]).length ≤ 8020 := Nat.le_trans (Sv.join_le 32 400 ws hw) (by omega)
  have HJ := hideIt (join_any 32 v ws w base h (by omega) (by omega))
  have eb := strcat (Lib.join ws [32]) [10]
  have HE : Hid (lineTxt ws = Lib.join ws [32] ++ [10]) := rfl
  generalize lineTxt ws = L at *
  generalize Lib.join ws [32] = J at *
  clear h hw
  go_enter Tryz.func55, Tryz.ntmps55
  go_wp2_with fail
  refine HJ.out.mono ?_
  rintro e w1 ⟨rfl, hb1⟩
  go_wp2_with fail
  go_ret
  exact ⟨by rw [HE.out]; exact congrArg (fun x => Ending.returned (Value.string x)) eb, hb1⟩
set_option maxRecDepth 100000 in
set_option maxHeartbeats 2000000 in
theorem contWords_any (c : Ct) (dv : Value) (w : World) (hd : NeedsAt w dv c.ds) (hc : OkC c) (ht : TabUp w) :
    Calls Tryz.prog 57 #[.agg #[.string c.nm, .int .i64 c.am, .int .i64 c.ab, .int .i64 c.cm, .int .i64 c.cb, dv]] w fun e w' => ∃ v, e = .returned v ∧ WordsAt w.heap.size w' v (contWs c) ∧ Below w.heap.size w w' := by
  have HT := hideIt ht
  have HB0 := hideIt (below_drewV ((Below.refl w.heap.size w).alloc (Nat.le_refl _) (.cells #[.string c.nm, .int .i64 c.am, .int .i64 c.ab, .int .i64 c.cm, .int .i64 c.cb, dv] 56)))
  obtain ⟨_, k1, k2, k3, k4, k5, k6⟩ := hc
  have HD := hideIt (fun W (hb : Below w.heap.size w W) => listNeeds_any dv c.ds W (hd.below hb) k6 k5 (HT.out.below hb))
  have HE : Hid (contWs c = [[99, 111, 110, 116], c.nm.data.toList, Sv.dec c.am, Sv.dec c.ab, Sv.dec c.cm, Sv.dec c.cb, needsTxt c.ds]) := rfl
  have HN : Hid (ByteArray.mk c.nm.data.toList.toArray = c.nm) := by unfold Hid; simp
  obtain ⟨da, dc, rfl, _⟩ := hd
  clear ht k6 k5
  generalize needsTxt c.ds = D at *
  generalize c.ds.length = dn at *
  generalize contWs c = CW at *
  generalize c.nm = nm at *
  generalize c.am = am at *
  generalize c.ab = ab at *
  generalize c.cm = cm at *
  generalize c.cb = cb at *
  go_enter Tryz.func57, Tryz.ntmps57
  go_wp2_with fail
  have HS0 := hideIt (show w.heap.size < (w.alloc (.cells #[.string nm, .int .i64 am, .int .i64 ab, .int .i64 cm, .int .i64 cb, .slice da dn dc] 56)).drew.heap.size ∧ (w.alloc (.cells #[.string nm, .int .i64 am, .int .i64 ab, .int .i64 cm, .int .i64 cb, .slice da dn dc] 56)).drew.cell? ⟨w.heap.size, 0, none⟩ = some (.string nm) ∧ (w.alloc (.cells #[.string nm, .int .i64 am, .int .i64 ab, .int .i64 cm, .int .i64 cb, .slice da dn dc] 56)).drew.cell? ⟨w.heap.size, 1, none⟩ = some (.int .i64 am) ∧ (w.alloc (.cells #[.string nm, .int .i64 am, .int .i64 ab, .int .i64 cm, .int .i64 cb, .slice da dn dc] 56)).drew.cell? ⟨w.heap.size, 2, none⟩ = some (.int .i64 ab) ∧ (w.alloc (.cells #[.string nm, .int .i64 am, .int .i64 ab, .int .i64 cm, .int .i64 cb, .slice da dn dc] 56)).drew.cell? ⟨w.heap.size, 3, none⟩ = some (.int .i64 cm) ∧ (w.alloc (.cells #[.string nm, .int .i64 am, .int .i64 ab, .int .i64 cm, .int .i64 cb, .slice da dn dc] 56)).drew.cell? ⟨w.heap.size, 4, none⟩ = some (.int .i64 cb) ∧ (w.alloc (.cells #[.string nm, .int .i64 am, .int .i64 ab, .int .i64 cm, .int .i64 cb, .slice da dn dc] 56)).drew.cell? ⟨w.heap.size, 5, none⟩ = some (.slice da dn dc) from ⟨by simp, by simp, by simp, by simp, by simp, by simp, by simp⟩)
  refine wp_region_held_drew (S := (fun w' => w'.cell? ⟨w.heap.size, 0, none⟩ = some (.string nm) ∧ w'.cell? ⟨w.heap.size, 1, none⟩ = some (.int .i64 am) ∧ w'.cell? ⟨w.heap.size, 2, none⟩ = some (.int .i64 ab) ∧ w'.cell? ⟨w.heap.size, 3, none⟩ = some (.int .i64 cm) ∧ w'.cell? ⟨w.heap.size, 4, none⟩ = some (.int .i64 cb) ∧ w'.cell? ⟨w.heap.size, 5, none⟩ = some (.slice da dn dc))) (by kernel_rfl) HS0.out.2 (fun hHeld => ?_)
  refine wpAnyH_take (i := 0) (oi := { dst := some 3, op := Op.fieldAddr 56 (Operand.tmp 1) 0, type := 0, pos := "text.go:53", after := #[], guard := none }) (v := ?v1x0) rfl (by kernel_rfl) (by kernel_rfl) (by kernel_rfl) (fun _ _ _ h => h) (Or.inl ⟨by rfl, ?h1x0⟩) (by assumption) ?r1x0
  case h1x0 =>
    intro w' hSw
    (try dsimp only at hSw)
    go_simp
    first | done | with_reducible rfl | rfl
  (try simp only [Act.put, List.setIfInBounds_toArray, List.set_cons_zero, List.set_cons_succ])
  refine wpAnyH_take (i := 1) (oi := { dst := some 4, op := Op.load 9 (Operand.tmp 3), type := 9, pos := "text.go:53", after := #[{ on := 0, ground := Ground.data }], guard := none }) (v := ?v2x1) rfl (by kernel_rfl) (by kernel_rfl) (by kernel_rfl) (fun _ _ _ h => h) (Or.inl ⟨by rfl, ?h2x1⟩) (by assumption) ?r2x1
  case h2x1 =>
    intro w' hSw
    (try dsimp only at hSw)
    go_simp
    first | done | with_reducible rfl | rfl
  (try simp only [Act.put, List.setIfInBounds_toArray, List.set_cons_zero, List.set_cons_succ])
  refine wpAnyH_take (i := 2) (oi := { dst := some 5, op := Op.fieldAddr 56 (Operand.tmp 1) 1, type := 0, pos := "text.go:53", after := #[], guard := none }) (v := ?v3x2) rfl (by kernel_rfl) (by kernel_rfl) (by kernel_rfl) (fun _ _ _ h => h) (Or.inl ⟨by rfl, ?h3x2⟩) (by assumption) ?r3x2
  case h3x2 =>
    intro w' hSw
    (try dsimp only at hSw)
    go_simp
    first | done | with_reducible rfl | rfl
  (try simp only [Act.put, List.setIfInBounds_toArray, List.set_cons_zero, List.set_cons_succ])
  refine wpAnyH_take (i := 3) (oi := { dst := some 6, op := Op.fieldAddr 53 (Operand.tmp 5) 0, type := 0, pos := "text.go:53", after := #[{ on := 2, ground := Ground.data }], guard := none }) (v := ?v4x3) rfl (by kernel_rfl) (by kernel_rfl) (by kernel_rfl) (fun _ _ _ h => h) (Or.inl ⟨by rfl, ?h4x3⟩) (by assumption) ?r4x3
  case h4x3 =>
    intro w' hSw
    (try dsimp only at hSw)
    go_simp
    first | done | with_reducible rfl | rfl
  (try simp only [Act.put, List.setIfInBounds_toArray, List.set_cons_zero, List.set_cons_succ])
  refine wpAnyH_take (i := 4) (oi := { dst := some 7, op := Op.load 3 (Operand.tmp 6), type := 3, pos := "text.go:53", after := #[{ on := 3, ground := Ground.data }], guard := none }) (v := ?v5x4) rfl (by kernel_rfl) (by kernel_rfl) (by kernel_rfl) (fun _ _ _ h => h) (Or.inl ⟨by rfl, ?h5x4⟩) (by assumption) ?r5x4
  case h5x4 =>
    intro w' hSw
    (try dsimp only at hSw)
    go_simp
    first | done | with_reducible rfl | rfl
  (try simp only [Act.put, List.setIfInBounds_toArray, List.set_cons_zero, List.set_cons_succ])
  refine wpAnyH_take (i := 6) (oi := { dst := some 9, op := Op.fieldAddr 56 (Operand.tmp 1) 1, type := 0, pos := "text.go:53", after := #[], guard := none }) (v := ?v6x6) rfl (by kernel_rfl) (by kernel_rfl) (by kernel_rfl) (fun _ _ _ h => h) (Or.inl ⟨by rfl, ?h6x6⟩) (by assumption) ?r6x6
  case h6x6 =>
    intro w' hSw
    (try dsimp only at hSw)
    go_simp
    first | done | with_reducible rfl | rfl
  (try simp only [Act.put, List.setIfInBounds_toArray, List.set_cons_zero, List.set_cons_succ])
  refine wpAnyH_take (i := 7) (oi := { dst := some 10, op := Op.fieldAddr 53 (Operand.tmp 9) 1, type := 0, pos := "text.go:53", after := #[{ on := 6, ground := Ground.data }], guard := none }) (v := ?v7x7) rfl (by kernel_rfl) (by kernel_rfl) (by kernel_rfl) (fun _ _ _ h => h) (Or.inl ⟨by rfl, ?h7x7⟩) (by assumption) ?r7x7
  case h7x7 =>
    intro w' hSw
    (try dsimp only at hSw)
    go_simp
    first | done | with_reducible rfl | rfl
  (try simp only [Act.put, List.setIfInBounds_toArray, List.set_cons_zero, List.set_cons_succ])
  refine wpAnyH_take (i := 8) (oi := { dst := some 11, op := Op.load 3 (Operand.tmp 10), type := 3, pos := "text.go:53", after := #[{ on := 7, ground := Ground.data }], guard := none }) (v := ?v8x8) rfl (by kernel_rfl) (by kernel_rfl) (by kernel_rfl) (fun _ _ _ h => h) (Or.inl ⟨by rfl, ?h8x8⟩) (by assumption) ?r8x8
  case h8x8 =>
    intro w' hSw
    (try dsimp only at hSw)
    go_simp
    first | done | with_reducible rfl | rfl
  (try simp only [Act.put, List.setIfInBounds_toArray, List.set_cons_zero, List.set_cons_succ])
  refine wpAnyH_take (i := 10) (oi := { dst := some 13, op := Op.fieldAddr 56 (Operand.tmp 1) 2, type := 0, pos := "text.go:53", after := #[], guard := none }) (v := ?v9x10) rfl (by kernel_rfl) (by kernel_rfl) (by kernel_rfl) (fun _ _ _ h => h) (Or.inl ⟨by rfl, ?h9x10⟩) (by assumption) ?r9x10
  case h9x10 =>
    intro w' hSw
    (try dsimp only at hSw)
    go_simp
    first | done | with_reducible rfl | rfl
  (try simp only [Act.put, List.setIfInBounds_toArray, List.set_cons_zero, List.set_cons_succ])
  refine wpAnyH_take (i := 11) (oi := { dst := some 14, op := Op.fieldAddr 53 (Operand.tmp 13) 0, type := 0, pos := "text.go:53", after := #[{ on := 10, ground := Ground.data }], guard := none }) (v := ?v10x11) rfl (by kernel_rfl) (by kernel_rfl) (by kernel_rfl) (fun _ _ _ h => h) (Or.inl ⟨by rfl, ?h10x11⟩) (by assumption) ?r10x11
  case h10x11 =>
    intro w' hSw
    (try dsimp only at hSw)
    go_simp
    first | done | with_reducible rfl | rfl
  (try simp only [Act.put, List.setIfInBounds_toArray, List.set_cons_zero, List.set_cons_succ])
  refine wpAnyH_take (i := 12) (oi := { dst := some 15, op := Op.load 3 (Operand.tmp 14), type := 3, pos := "text.go:53", after := #[{ on := 11, ground := Ground.data }], guard := none }) (v := ?v11x12) rfl (by kernel_rfl) (by kernel_rfl) (by kernel_rfl) (fun _ _ _ h => h) (Or.inl ⟨by rfl, ?h11x12⟩) (by assumption) ?r11x12
  case h11x12 =>
    intro w' hSw
    (try dsimp only at hSw)
    go_simp
    first | done | with_reducible rfl | rfl
  (try simp only [Act.put, List.setIfInBounds_toArray, List.set_cons_zero, List.set_cons_succ])
  refine wpAnyH_take (i := 14) (oi := { dst := some 17, op := Op.fieldAddr 56 (Operand.tmp 1) 2, type := 0, pos := "text.go:53", after := #[], guard := none }) (v := ?v12x14) rfl (by kernel_rfl) (by kernel_rfl) (by kernel_rfl) (fun _ _ _ h => h) (Or.inl ⟨by rfl, ?h12x14⟩) (by assumption) ?r12x14
  case h12x14 =>
    intro w' hSw
    (try dsimp only at hSw)
    go_simp
    first | done | with_reducible rfl | rfl
  (try simp only [Act.put, List.setIfInBounds_toArray, List.set_cons_zero, List.set_cons_succ])
  refine wpAnyH_take (i := 15) (oi := { dst := some 18, op := Op.fieldAddr 53 (Operand.tmp 17) 1, type := 0, pos := "text.go:53", after := #[{ on := 14, ground := Ground.data }], guard := none }) (v := ?v13x15) rfl (by kernel_rfl) (by kernel_rfl) (by kernel_rfl) (fun _ _ _ h => h) (Or.inl ⟨by rfl, ?h13x15⟩) (by assumption) ?r13x15
  case h13x15 =>
    intro w' hSw
    (try dsimp only at hSw)
    go_simp
    first | done | with_reducible rfl | rfl
  (try simp only [Act.put, List.setIfInBounds_toArray, List.set_cons_zero, List.set_cons_succ])
  refine wpAnyH_take (i := 16) (oi := { dst := some 19, op := Op.load 3 (Operand.tmp 18), type := 3, pos := "text.go:53", after := #[{ on := 15, ground := Ground.data }], guard := none }) (v := ?v14x16) rfl (by kernel_rfl) (by kernel_rfl) (by kernel_rfl) (fun _ _ _ h => h) (Or.inl ⟨by rfl, ?h14x16⟩) (by assumption) ?r14x16
  case h14x16 =>
    intro w' hSw
    (try dsimp only at hSw)
    go_simp
    first | done | with_reducible rfl | rfl
  (try simp only [Act.put, List.setIfInBounds_toArray, List.set_cons_zero, List.set_cons_succ])
  refine wpAnyH_take (i := 18) (oi := { dst := some 21, op := Op.fieldAddr 56 (Operand.tmp 1) 3, type := 0, pos := "text.go:53", after := #[], guard := none }) (v := ?v15x18) rfl (by kernel_rfl) (by kernel_rfl) (by kernel_rfl) (fun _ _ _ h => h) (Or.inl ⟨by rfl, ?h15x18⟩) (by assumption) ?r15x18
  case h15x18 =>
    intro w' hSw
    (try dsimp only at hSw)
    go_simp
    first | done | with_reducible rfl | rfl
  (try simp only [Act.put, List.setIfInBounds_toArray, List.set_cons_zero, List.set_cons_succ])
  refine wpAnyH_take (i := 19) (oi := { dst := some 22, op := Op.load 54 (Operand.tmp 21), type := 54, pos := "text.go:53", after := #[{ on := 18, ground := Ground.data }], guard := none }) (v := ?v16x19) rfl (by kernel_rfl) (by kernel_rfl) (by kernel_rfl) (fun _ _ _ h => h) (Or.inl ⟨by rfl, ?h16x19⟩) (by assumption) ?r16x19
  case h16x19 =>
    intro w' hSw
    (try dsimp only at hSw)
    go_simp
    first | done | with_reducible rfl | rfl
  (try simp only [Act.put, List.setIfInBounds_toArray, List.set_cons_zero, List.set_cons_succ])
  refine wpAnyH_ready (rs := [5]) (by kernel_rfl) (by simp) (AllReadyH.cons rfl (fun K hK => ?_) AllReadyH.nil)
  go_simp
  go_wp2_with fail
  refine (itoaV am _ k1.1 (by omega) (HT.out.below HB0.out)).mono ?_
  rintro e V1 ⟨rfl, hb⟩
  have HBV1 := hideIt (HB0.out.trans (hb.mono HB0.out.size))
  have HSV1 := hideIt (show w.heap.size < V1.heap.size ∧ (fun w' => w'.cell? ⟨w.heap.size, 0, none⟩ = some (.string nm) ∧ w'.cell? ⟨w.heap.size, 1, none⟩ = some (.int .i64 am) ∧ w'.cell? ⟨w.heap.size, 2, none⟩ = some (.int .i64 ab) ∧ w'.cell? ⟨w.heap.size, 3, none⟩ = some (.int .i64 cm) ∧ w'.cell? ⟨w.heap.size, 4, none⟩ = some (.int .i64 cb) ∧ w'.cell? ⟨w.heap.size, 5, none⟩ = some (.slice da dn dc)) V1 from ⟨Nat.lt_of_lt_of_le HS0.out.1 hb.size, (hb.cell (p := ⟨w.heap.size, 0, none⟩) HS0.out.1).trans HS0.out.2.1, (hb.cell (p := ⟨w.heap.size, 1, none⟩) HS0.out.1).trans HS0.out.2.2.1, (hb.cell (p := ⟨w.heap.size, 2, none⟩) HS0.out.1).trans HS0.out.2.2.2.1, (hb.cell (p := ⟨w.heap.size, 3, none⟩) HS0.out.1).trans HS0.out.2.2.2.2.1, (hb.cell (p := ⟨w.heap.size, 4, none⟩) HS0.out.1).trans HS0.out.2.2.2.2.2.1, (hb.cell (p := ⟨w.heap.size, 5, none⟩) HS0.out.1).trans HS0.out.2.2.2.2.2.2⟩)
  
  clear hb
  go_wp2_with fail
  refine hK.out _ _ HSV1.out.2 (fun hHeld => ?_)
  clear hK K
  refine wpAnyH_ready (rs := [9]) (by kernel_rfl) (by simp) (AllReadyH.cons rfl (fun K hK => ?_) AllReadyH.nil)
  go_simp
  go_wp2_with fail
  refine (itoaV ab _ k2.1 (by omega) (HT.out.below HBV1.out)).mono ?_
  rintro e V2 ⟨rfl, hb⟩
  have HBV2 := hideIt (HBV1.out.trans (hb.mono HBV1.out.size))
  have HSV2 := hideIt (show w.heap.size < V2.heap.size ∧ (fun w' => w'.cell? ⟨w.heap.size, 0, none⟩ = some (.string nm) ∧ w'.cell? ⟨w.heap.size, 1, none⟩ = some (.int .i64 am) ∧ w'.cell? ⟨w.heap.size, 2, none⟩ = some (.int .i64 ab) ∧ w'.cell? ⟨w.heap.size, 3, none⟩ = some (.int .i64 cm) ∧ w'.cell? ⟨w.heap.size, 4, none⟩ = some (.int .i64 cb) ∧ w'.cell? ⟨w.heap.size, 5, none⟩ = some (.slice da dn dc)) V2 from ⟨Nat.lt_of_lt_of_le HSV1.out.1 hb.size, (hb.cell (p := ⟨w.heap.size, 0, none⟩) HSV1.out.1).trans HSV1.out.2.1, (hb.cell (p := ⟨w.heap.size, 1, none⟩) HSV1.out.1).trans HSV1.out.2.2.1, (hb.cell (p := ⟨w.heap.size, 2, none⟩) HSV1.out.1).trans HSV1.out.2.2.2.1, (hb.cell (p := ⟨w.heap.size, 3, none⟩) HSV1.out.1).trans HSV1.out.2.2.2.2.1, (hb.cell (p := ⟨w.heap.size, 4, none⟩) HSV1.out.1).trans HSV1.out.2.2.2.2.2.1, (hb.cell (p := ⟨w.heap.size, 5, none⟩) HSV1.out.1).trans HSV1.out.2.2.2.2.2.2⟩)
  
  clear hb
  go_wp2_with fail
  refine hK.out _ _ HSV2.out.2 (fun hHeld => ?_)
  clear hK K
  refine wpAnyH_ready (rs := [13]) (by kernel_rfl) (by simp) (AllReadyH.cons rfl (fun K hK => ?_) AllReadyH.nil)
  go_simp
  go_wp2_with fail
  refine (itoaV cm _ k3.1 (by omega) (HT.out.below HBV2.out)).mono ?_
  rintro e V3 ⟨rfl, hb⟩
  have HBV3 := hideIt (HBV2.out.trans (hb.mono HBV2.out.size))
  have HSV3 := hideIt (show w.heap.size < V3.heap.size ∧ (fun w' => w'.cell? ⟨w.heap.size, 0, none⟩ = some (.string nm) ∧ w'.cell? ⟨w.heap.size, 1, none⟩ = some (.int .i64 am) ∧ w'.cell? ⟨w.heap.size, 2, none⟩ = some (.int .i64 ab) ∧ w'.cell? ⟨w.heap.size, 3, none⟩ = some (.int .i64 cm) ∧ w'.cell? ⟨w.heap.size, 4, none⟩ = some (.int .i64 cb) ∧ w'.cell? ⟨w.heap.size, 5, none⟩ = some (.slice da dn dc)) V3 from ⟨Nat.lt_of_lt_of_le HSV2.out.1 hb.size, (hb.cell (p := ⟨w.heap.size, 0, none⟩) HSV2.out.1).trans HSV2.out.2.1, (hb.cell (p := ⟨w.heap.size, 1, none⟩) HSV2.out.1).trans HSV2.out.2.2.1, (hb.cell (p := ⟨w.heap.size, 2, none⟩) HSV2.out.1).trans HSV2.out.2.2.2.1, (hb.cell (p := ⟨w.heap.size, 3, none⟩) HSV2.out.1).trans HSV2.out.2.2.2.2.1, (hb.cell (p := ⟨w.heap.size, 4, none⟩) HSV2.out.1).trans HSV2.out.2.2.2.2.2.1, (hb.cell (p := ⟨w.heap.size, 5, none⟩) HSV2.out.1).trans HSV2.out.2.2.2.2.2.2⟩)
  
  clear hb
  go_wp2_with fail
  refine hK.out _ _ HSV3.out.2 (fun hHeld => ?_)
  clear hK K
  refine wpAnyH_ready (rs := [17]) (by kernel_rfl) (by simp) (AllReadyH.cons rfl (fun K hK => ?_) AllReadyH.nil)
  go_simp
  go_wp2_with fail
  refine (itoaV cb _ k4.1 (by omega) (HT.out.below HBV3.out)).mono ?_
  rintro e V4 ⟨rfl, hb⟩
  have HBV4 := hideIt (HBV3.out.trans (hb.mono HBV3.out.size))
  have HSV4 := hideIt (show w.heap.size < V4.heap.size ∧ (fun w' => w'.cell? ⟨w.heap.size, 0, none⟩ = some (.string nm) ∧ w'.cell? ⟨w.heap.size, 1, none⟩ = some (.int .i64 am) ∧ w'.cell? ⟨w.heap.size, 2, none⟩ = some (.int .i64 ab) ∧ w'.cell? ⟨w.heap.size, 3, none⟩ = some (.int .i64 cm) ∧ w'.cell? ⟨w.heap.size, 4, none⟩ = some (.int .i64 cb) ∧ w'.cell? ⟨w.heap.size, 5, none⟩ = some (.slice da dn dc)) V4 from ⟨Nat.lt_of_lt_of_le HSV3.out.1 hb.size, (hb.cell (p := ⟨w.heap.size, 0, none⟩) HSV3.out.1).trans HSV3.out.2.1, (hb.cell (p := ⟨w.heap.size, 1, none⟩) HSV3.out.1).trans HSV3.out.2.2.1, (hb.cell (p := ⟨w.heap.size, 2, none⟩) HSV3.out.1).trans HSV3.out.2.2.2.1, (hb.cell (p := ⟨w.heap.size, 3, none⟩) HSV3.out.1).trans HSV3.out.2.2.2.2.1, (hb.cell (p := ⟨w.heap.size, 4, none⟩) HSV3.out.1).trans HSV3.out.2.2.2.2.2.1, (hb.cell (p := ⟨w.heap.size, 5, none⟩) HSV3.out.1).trans HSV3.out.2.2.2.2.2.2⟩)
  
  clear hb
  go_wp2_with fail
  refine hK.out _ _ HSV4.out.2 (fun hHeld => ?_)
  clear hK K
  refine wpAnyH_ready (rs := [20]) (by kernel_rfl) (by simp) (AllReadyH.cons rfl (fun K hK => ?_) AllReadyH.nil)
  go_simp
  go_wp2_with fail
  refine (HD.out _ HBV4.out).mono ?_
  rintro e V5 ⟨rfl, hb⟩
  have HBV5 := hideIt (HBV4.out.trans (hb.mono HBV4.out.size))
  have HSV5 := hideIt (show w.heap.size < V5.heap.size ∧ (fun w' => w'.cell? ⟨w.heap.size, 0, none⟩ = some (.string nm) ∧ w'.cell? ⟨w.heap.size, 1, none⟩ = some (.int .i64 am) ∧ w'.cell? ⟨w.heap.size, 2, none⟩ = some (.int .i64 ab) ∧ w'.cell? ⟨w.heap.size, 3, none⟩ = some (.int .i64 cm) ∧ w'.cell? ⟨w.heap.size, 4, none⟩ = some (.int .i64 cb) ∧ w'.cell? ⟨w.heap.size, 5, none⟩ = some (.slice da dn dc)) V5 from ⟨Nat.lt_of_lt_of_le HSV4.out.1 hb.size, (hb.cell (p := ⟨w.heap.size, 0, none⟩) HSV4.out.1).trans HSV4.out.2.1, (hb.cell (p := ⟨w.heap.size, 1, none⟩) HSV4.out.1).trans HSV4.out.2.2.1, (hb.cell (p := ⟨w.heap.size, 2, none⟩) HSV4.out.1).trans HSV4.out.2.2.2.1, (hb.cell (p := ⟨w.heap.size, 3, none⟩) HSV4.out.1).trans HSV4.out.2.2.2.2.1, (hb.cell (p := ⟨w.heap.size, 4, none⟩) HSV4.out.1).trans HSV4.out.2.2.2.2.2.1, (hb.cell (p := ⟨w.heap.size, 5, none⟩) HSV4.out.1).trans HSV4.out.2.2.2.2.2.2⟩)
  
  clear hb
  go_wp2_with fail
  refine hK.out _ _ HSV5.out.2 (fun hHeld => ?_)
  clear hK K
  refine wpAnyH_ready (rs := [21]) (by kernel_rfl) (by simp) (AllReadyH.cons rfl (fun K hK => ?_) AllReadyH.nil)
  go_simp
  go_wp2_with fail
  have HBV6 := hideIt (HBV5.out.alloc HBV5.out.size (.cells #[.string ⟨#[99, 111, 110, 116]⟩, .string nm, .string ⟨(Sv.dec am).toArray⟩, .string ⟨(Sv.dec ab).toArray⟩, .string ⟨(Sv.dec cm).toArray⟩, .string ⟨(Sv.dec cb).toArray⟩, .string ⟨D.toArray⟩] 9))
  have HSV6 := hideIt (show w.heap.size < (V5.alloc (.cells #[.string ⟨#[99, 111, 110, 116]⟩, .string nm, .string ⟨(Sv.dec am).toArray⟩, .string ⟨(Sv.dec ab).toArray⟩, .string ⟨(Sv.dec cm).toArray⟩, .string ⟨(Sv.dec cb).toArray⟩, .string ⟨D.toArray⟩] 9)).heap.size ∧ (fun w' => w'.cell? ⟨w.heap.size, 0, none⟩ = some (.string nm) ∧ w'.cell? ⟨w.heap.size, 1, none⟩ = some (.int .i64 am) ∧ w'.cell? ⟨w.heap.size, 2, none⟩ = some (.int .i64 ab) ∧ w'.cell? ⟨w.heap.size, 3, none⟩ = some (.int .i64 cm) ∧ w'.cell? ⟨w.heap.size, 4, none⟩ = some (.int .i64 cb) ∧ w'.cell? ⟨w.heap.size, 5, none⟩ = some (.slice da dn dc)) (V5.alloc (.cells #[.string ⟨#[99, 111, 110, 116]⟩, .string nm, .string ⟨(Sv.dec am).toArray⟩, .string ⟨(Sv.dec ab).toArray⟩, .string ⟨(Sv.dec cm).toArray⟩, .string ⟨(Sv.dec cb).toArray⟩, .string ⟨D.toArray⟩] 9)) from ⟨Nat.lt_of_lt_of_le HSV5.out.1 (by simp), cell_allocV HSV5.out.2.1 (.cells #[.string ⟨#[99, 111, 110, 116]⟩, .string nm, .string ⟨(Sv.dec am).toArray⟩, .string ⟨(Sv.dec ab).toArray⟩, .string ⟨(Sv.dec cm).toArray⟩, .string ⟨(Sv.dec cb).toArray⟩, .string ⟨D.toArray⟩] 9), cell_allocV HSV5.out.2.2.1 (.cells #[.string ⟨#[99, 111, 110, 116]⟩, .string nm, .string ⟨(Sv.dec am).toArray⟩, .string ⟨(Sv.dec ab).toArray⟩, .string ⟨(Sv.dec cm).toArray⟩, .string ⟨(Sv.dec cb).toArray⟩, .string ⟨D.toArray⟩] 9), cell_allocV HSV5.out.2.2.2.1 (.cells #[.string ⟨#[99, 111, 110, 116]⟩, .string nm, .string ⟨(Sv.dec am).toArray⟩, .string ⟨(Sv.dec ab).toArray⟩, .string ⟨(Sv.dec cm).toArray⟩, .string ⟨(Sv.dec cb).toArray⟩, .string ⟨D.toArray⟩] 9), cell_allocV HSV5.out.2.2.2.2.1 (.cells #[.string ⟨#[99, 111, 110, 116]⟩, .string nm, .string ⟨(Sv.dec am).toArray⟩, .string ⟨(Sv.dec ab).toArray⟩, .string ⟨(Sv.dec cm).toArray⟩, .string ⟨(Sv.dec cb).toArray⟩, .string ⟨D.toArray⟩] 9), cell_allocV HSV5.out.2.2.2.2.2.1 (.cells #[.string ⟨#[99, 111, 110, 116]⟩, .string nm, .string ⟨(Sv.dec am).toArray⟩, .string ⟨(Sv.dec ab).toArray⟩, .string ⟨(Sv.dec cm).toArray⟩, .string ⟨(Sv.dec cb).toArray⟩, .string ⟨D.toArray⟩] 9), cell_allocV HSV5.out.2.2.2.2.2.2 (.cells #[.string ⟨#[99, 111, 110, 116]⟩, .string nm, .string ⟨(Sv.dec am).toArray⟩, .string ⟨(Sv.dec ab).toArray⟩, .string ⟨(Sv.dec cm).toArray⟩, .string ⟨(Sv.dec cb).toArray⟩, .string ⟨D.toArray⟩] 9)⟩)
  refine hK.out _ _ HSV6.out.2 (fun hHeld => ?_)
  clear hK K
  refine wpAnyH_take (i := 22) (oi := { dst := some 2, op := Op.assign (Operand.tmp 24), type := 41, pos := "text.go:53", after := #[{ on := 21, ground := Ground.data }, { on := 20, ground := Ground.chain }, { on := 0, ground := Ground.phase }, { on := 1, ground := Ground.phase }, { on := 2, ground := Ground.phase }, { on := 3, ground := Ground.phase }, { on := 4, ground := Ground.phase }, { on := 5, ground := Ground.phase }, { on := 6, ground := Ground.phase }, { on := 7, ground := Ground.phase }, { on := 8, ground := Ground.phase }, { on := 9, ground := Ground.phase }, { on := 10, ground := Ground.phase }, { on := 11, ground := Ground.phase }, { on := 12, ground := Ground.phase }, { on := 13, ground := Ground.phase }, { on := 14, ground := Ground.phase }, { on := 15, ground := Ground.phase }, { on := 16, ground := Ground.phase }, { on := 17, ground := Ground.phase }, { on := 18, ground := Ground.phase }, { on := 19, ground := Ground.phase }, { on := 20, ground := Ground.phase }, { on := 21, ground := Ground.phase }], guard := none }) (v := ?v17x22) rfl (by kernel_rfl) (by kernel_rfl) (by kernel_rfl) (fun _ _ _ h => h) (Or.inl ⟨by rfl, ?h17x22⟩) (by assumption) ?r17x22
  case h17x22 =>
    intro w' hSw
    (try dsimp only at hSw)
    go_simp
    first | done | with_reducible rfl | rfl
  (try simp only [Act.put, List.setIfInBounds_toArray, List.set_cons_zero, List.set_cons_succ])
  refine wpAnyH_done (by kernel_rfl) ?_ _
  go_wp2_with fail
  go_ret
  refine ⟨_, rfl, ?_, HBV6.out⟩
  rw [HE.out]
  have := words_made [[99, 111, 110, 116], nm.data.toList, Sv.dec am, Sv.dec ab, Sv.dec cm, Sv.dec cb, D] V5 w.heap.size HBV5.out.size (by simp)
  unfold strs at this
  simp only [List.map_cons, List.map_nil] at this
  exact this
set_option maxRecDepth 100000 in
set_option maxHeartbeats 1000000 in
theorem behind_any (hb k : Nat) (gs : List Gv) (gvv : Value) (w : World) (hc : w.cell? ⟨hb, 3, none⟩ = some gvv) (hg : GivsAt w gvv gs) (hk : k < gs.length) (ho : OkG (gv gs k)) (ht : TabUp w) :
    Calls Tryz.prog 29 #[.int .i64 k, .pointer (some ⟨hb, 0, none⟩)] w fun e w' => ∃ v, e = .returned v ∧ WordsAt w.heap.size w' v (givenWs (gv gs k)) ∧ Below w.heap.size w w' := by
  obtain ⟨ao, c, rfl, hm, hr⟩ := hg
  obtain ⟨b, o, dv, rfl, hin⟩ := hr (by omega)
  obtain ⟨c0, c1⟩ := hin.at hk
  have HW := hideIt (givenWords_any (gv gs k) (dv k) w (hin.2 k hk).2 ho ht)
  obtain ⟨da, dc, hd⟩ := (hin.2 k hk).2.slice
  unfold maxLen at hm
  clear hin ho ht hr
  generalize givenWs (gv gs k) = GW at *
  generalize (gv gs k).cp = cp at *
  generalize (gv gs k).dv.length = dn at *
  generalize dv k = d at *
  subst hd
  go_enter Tryz.func29, Tryz.ntmps29
  go_wp2_with fail
  refine HW.out.mono ?_
  rintro e w1 ⟨v, rfl, hw, hb1⟩
  go_wp2_with fail
  go_ret
  exact ⟨v, rfl, hw, hb1⟩
theorem words_app {base : Nat} {w : World} {v : Value} {a b : List (List UInt8)} (h : w.ownsRow base 9 1 v (a.length + b.length) (strs a ++ strs b)) : WordsAt base w v (a ++ b) := by
  unfold WordsAt
  rw [List.length_append, show strs (a ++ b) = strs a ++ strs b by simp [strs]]
  exact h
theorem cont_len (c : Ct) (g : Gv) : (contWs c ++ givenWs g).length = 9 := rfl
set_option maxRecDepth 100000 in
set_option maxHeartbeats 1000000 in
theorem podText_any (h : Hd) (cv gvv : Value) (hb : Nat) (w : World) (hc : ConsAt w cv h.pod.cs) (hcell : w.cell? ⟨hb, 3, none⟩ = some gvv) (hg : GivsAt w gvv h.gs) (ho : OkH h) (ht : TabUp w) :
    Calls Tryz.prog 28 #[podV h.pod cv, .func (.func 29) #[] #[.pointer (some ⟨hb, 0, none⟩)]] w fun e w' => e = .returned (.string ⟨(podTxt h).toArray⟩) ∧ Below w.heap.size w w' := by
  obtain ⟨i0, hi, hz0, hz1, hz2⟩ := info_parts infoStr
  have HBH := hideIt (fun k (hk : k < h.gs.length) W (hbw : Below w.heap.size w W) => behind_any hb k h.gs gvv W ((hbw.cell (p := ⟨hb, 3, none⟩) (World.block_lt_of_cell? w _ hcell)).trans hcell) (hg.below hbw) hk (ho.2.2 _ (Sv.mem_gv hk)) (ht.below hbw))
  have HCW := hideIt (fun k (hk : k < h.pod.cs.length) d W (hd : NeedsAt W d (ct h.pod.cs k).ds) (hbw : Below w.heap.size w W) => contWords_any (ct h.pod.cs k) d W hd (ho.1.2.2.2 _ (Sv.mem_ct hk)) (ht.below hbw))
  have HO := hideIt ho
  have HT := hideIt ht
  obtain ⟨ao, c, rfl, hm, hr⟩ := hc
  have HR := hideIt hr
  clear hr ht hg hcell ho
  unfold maxLen at hm
  unfold podV
  have hl3 := HO.out.1.2.2.1
  have hgl := HO.out.2.1
  have HB0 := hideIt (below_drewV (((Below.refl w.heap.size w).alloc (Nat.le_refl _) (.cells #[.string h.pod.nm, .int .i64 h.pod.pr, .slice ao h.pod.cs.length c] 59)).alloc (by simp) (.cells #[.pointer none, .slice none 0 0] 73)))
  have HBE0 := hideIt ((built_new (w.alloc (.cells #[.string h.pod.nm, .int .i64 h.pod.pr, .slice ao h.pod.cs.length c] 59))).below (below_drewV (Below.refl _ _)))
  have HN : Hid (ByteArray.mk h.pod.nm.data.toList.toArray = h.pod.nm) := by unfold Hid; simp
  have hpr := HO.out.1.2.1
  go_enter Tryz.func28, Tryz.ntmps28
  go_wp2_with fail
  have HS0 := hideIt (show w.heap.size < ((w.alloc (.cells #[.string h.pod.nm, .int .i64 h.pod.pr, .slice ao h.pod.cs.length c] 59)).alloc (.cells #[.pointer none, .slice none 0 0] 73)).drew.heap.size ∧ ((w.alloc (.cells #[.string h.pod.nm, .int .i64 h.pod.pr, .slice ao h.pod.cs.length c] 59)).alloc (.cells #[.pointer none, .slice none 0 0] 73)).drew.cell? ⟨w.heap.size, 0, none⟩ = some (.string h.pod.nm) ∧ ((w.alloc (.cells #[.string h.pod.nm, .int .i64 h.pod.pr, .slice ao h.pod.cs.length c] 59)).alloc (.cells #[.pointer none, .slice none 0 0] 73)).drew.cell? ⟨w.heap.size, 1, none⟩ = some (.int .i64 h.pod.pr) ∧ ((w.alloc (.cells #[.string h.pod.nm, .int .i64 h.pod.pr, .slice ao h.pod.cs.length c] 59)).alloc (.cells #[.pointer none, .slice none 0 0] 73)).drew.cell? ⟨w.heap.size, 2, none⟩ = some (.slice ao h.pod.cs.length c) from ⟨by simp; omega, by simp, by simp, by simp⟩)
  have HBD0 : Hid (BuiltAt (w.heap.size + 1) (w.heap.size + 1) [] ((w.alloc (.cells #[.string h.pod.nm, .int .i64 h.pod.pr, .slice ao h.pod.cs.length c] 59)).alloc (.cells #[.pointer none, .slice none 0 0] 73)).drew) := by have := HBE0.out; rw [show (w.alloc (.cells #[.string h.pod.nm, .int .i64 h.pod.pr, .slice ao h.pod.cs.length c] 59)).heap.size = w.heap.size + 1 by simp] at this; exact this
  clear HBE0
  have HPW : Hid (podWs h.pod = [[112, 111, 100], h.pod.nm.data.toList, Sv.dec h.pod.pr]) := rfl
  have hpl := Sv.podLine_le HO.out.1
  have HPT : Hid (podTxt h = podLine h.pod ++ contsTo h h.pod.cs.length) := rfl
  have HLN : Hid (∀ v W, WordsAt w.heap.size W v (podWs h.pod) → Calls Tryz.prog 55 #[v] W fun e w' => e = .returned (.string ⟨(podLine h.pod).toArray⟩) ∧ Below W.heap.size W w') := fun v W hw => line_any v (podWs h.pod) w.heap.size W hw (by simp [podWs]) (fun x hx => by have := Sv.podWs_le HO.out.1 x hx; omega)
  generalize podLine h.pod = PL at *
  generalize podWs h.pod = PW at *
  generalize ((w.alloc (.cells #[.string h.pod.nm, .int .i64 h.pod.pr, .slice ao h.pod.cs.length c] 59)).alloc (.cells #[.pointer none, .slice none 0 0] 73)) = U0 at *
  generalize h.pod.nm = nm at *
  generalize h.pod.pr = pr at *
  refine wp_region_held_drew (S := (fun w' => w'.cell? ⟨w.heap.size, 0, none⟩ = some (.string nm) ∧ w'.cell? ⟨w.heap.size, 1, none⟩ = some (.int .i64 pr) ∧ w'.cell? ⟨w.heap.size, 2, none⟩ = some (.slice ao h.pod.cs.length c))) (by kernel_rfl) HS0.out.2 (fun hHeld => ?_)
  refine wpAnyH_take (i := 0) (oi := { dst := some 8, op := Op.fieldAddr 59 (Operand.tmp 2) 0, type := 0, pos := "text.go:44", after := #[], guard := none }) (v := ?v18x0) rfl (by kernel_rfl) (by kernel_rfl) (by kernel_rfl) (fun _ _ _ h => h) (Or.inl ⟨by rfl, ?h18x0⟩) (by assumption) ?r18x0
  case h18x0 =>
    intro w' hSw
    (try dsimp only at hSw)
    go_simp
    first | done | with_reducible rfl | rfl
  (try simp only [Act.put, List.setIfInBounds_toArray, List.set_cons_zero, List.set_cons_succ])
  refine wpAnyH_take (i := 1) (oi := { dst := some 9, op := Op.load 9 (Operand.tmp 8), type := 9, pos := "text.go:44", after := #[{ on := 0, ground := Ground.data }], guard := none }) (v := ?v19x1) rfl (by kernel_rfl) (by kernel_rfl) (by kernel_rfl) (fun _ _ _ h => h) (Or.inl ⟨by rfl, ?h19x1⟩) (by assumption) ?r19x1
  case h19x1 =>
    intro w' hSw
    (try dsimp only at hSw)
    go_simp
    first | done | with_reducible rfl | rfl
  (try simp only [Act.put, List.setIfInBounds_toArray, List.set_cons_zero, List.set_cons_succ])
  refine wpAnyH_take (i := 2) (oi := { dst := some 10, op := Op.fieldAddr 59 (Operand.tmp 2) 1, type := 0, pos := "text.go:44", after := #[], guard := none }) (v := ?v20x2) rfl (by kernel_rfl) (by kernel_rfl) (by kernel_rfl) (fun _ _ _ h => h) (Or.inl ⟨by rfl, ?h20x2⟩) (by assumption) ?r20x2
  case h20x2 =>
    intro w' hSw
    (try dsimp only at hSw)
    go_simp
    first | done | with_reducible rfl | rfl
  (try simp only [Act.put, List.setIfInBounds_toArray, List.set_cons_zero, List.set_cons_succ])
  refine wpAnyH_take (i := 3) (oi := { dst := some 11, op := Op.load 3 (Operand.tmp 10), type := 3, pos := "text.go:44", after := #[{ on := 2, ground := Ground.data }], guard := none }) (v := ?v21x3) rfl (by kernel_rfl) (by kernel_rfl) (by kernel_rfl) (fun _ _ _ h => h) (Or.inl ⟨by rfl, ?h21x3⟩) (by assumption) ?r21x3
  case h21x3 =>
    intro w' hSw
    (try dsimp only at hSw)
    go_simp
    first | done | with_reducible rfl | rfl
  (try simp only [Act.put, List.setIfInBounds_toArray, List.set_cons_zero, List.set_cons_succ])
  refine wpAnyH_ready (rs := [4]) (by kernel_rfl) (by simp) (AllReadyH.cons rfl (fun K hK => ?_) AllReadyH.nil)
  go_simp
  go_wp2_with fail
  refine (itoaV _ _ hpr.1 (by omega) (HT.out.below HB0.out)).mono ?_
  rintro e V1 ⟨rfl, hb⟩
  have HBV1 := hideIt (HB0.out.trans (hb.mono HB0.out.size))
  have HSV1 := hideIt (show w.heap.size < V1.heap.size ∧ (fun w' => w'.cell? ⟨w.heap.size, 0, none⟩ = some (.string nm) ∧ w'.cell? ⟨w.heap.size, 1, none⟩ = some (.int .i64 pr) ∧ w'.cell? ⟨w.heap.size, 2, none⟩ = some (.slice ao h.pod.cs.length c)) V1 from ⟨Nat.lt_of_lt_of_le HS0.out.1 hb.size, (hb.cell (p := ⟨w.heap.size, 0, none⟩) HS0.out.1).trans HS0.out.2.1, (hb.cell (p := ⟨w.heap.size, 1, none⟩) HS0.out.1).trans HS0.out.2.2.1, (hb.cell (p := ⟨w.heap.size, 2, none⟩) HS0.out.1).trans HS0.out.2.2.2⟩)
  have HBD1 := hideIt (HBD0.out.below hb)
  clear hb
  go_wp2_with fail
  refine hK.out _ _ HSV1.out.2 (fun hHeld => ?_)
  clear hK K
  refine wpAnyH_ready (rs := [5]) (by kernel_rfl) (by simp) (AllReadyH.cons rfl (fun K hK => ?_) AllReadyH.nil)
  go_simp
  go_wp2_with fail
  have HBV2 := hideIt (HBV1.out.alloc HBV1.out.size (.cells #[.string ⟨#[112, 111, 100]⟩, .string nm, .string ⟨(Sv.dec pr).toArray⟩] 9))
  have HSV2 := hideIt (show w.heap.size < (V1.alloc (.cells #[.string ⟨#[112, 111, 100]⟩, .string nm, .string ⟨(Sv.dec pr).toArray⟩] 9)).heap.size ∧ (fun w' => w'.cell? ⟨w.heap.size, 0, none⟩ = some (.string nm) ∧ w'.cell? ⟨w.heap.size, 1, none⟩ = some (.int .i64 pr) ∧ w'.cell? ⟨w.heap.size, 2, none⟩ = some (.slice ao h.pod.cs.length c)) (V1.alloc (.cells #[.string ⟨#[112, 111, 100]⟩, .string nm, .string ⟨(Sv.dec pr).toArray⟩] 9)) from ⟨Nat.lt_of_lt_of_le HSV1.out.1 (by simp), cell_allocV HSV1.out.2.1 (.cells #[.string ⟨#[112, 111, 100]⟩, .string nm, .string ⟨(Sv.dec pr).toArray⟩] 9), cell_allocV HSV1.out.2.2.1 (.cells #[.string ⟨#[112, 111, 100]⟩, .string nm, .string ⟨(Sv.dec pr).toArray⟩] 9), cell_allocV HSV1.out.2.2.2 (.cells #[.string ⟨#[112, 111, 100]⟩, .string nm, .string ⟨(Sv.dec pr).toArray⟩] 9)⟩)
  have HBD2 := hideIt (HBD1.out.below ((Below.refl _ _).alloc (Nat.le_refl _) (.cells #[.string ⟨#[112, 111, 100]⟩, .string nm, .string ⟨(Sv.dec pr).toArray⟩] 9)))
  have HWD : Hid (WordsAt w.heap.size (V1.alloc (.cells #[.string ⟨#[112, 111, 100]⟩, .string nm, .string ⟨(Sv.dec pr).toArray⟩] 9)) (.slice (some ⟨V1.heap.size, 0, none⟩) 3 3) PW) := by unfold Hid; rw [HPW.out]; exact words_made [[112, 111, 100], nm.data.toList, Sv.dec pr] V1 w.heap.size HBV1.out.size (by simp)
  refine hK.out _ _ HSV2.out.2 (fun hHeld => ?_)
  clear hK K
  refine wpAnyH_ready (rs := [6]) (by kernel_rfl) (by simp) (AllReadyH.cons rfl (fun K hK => ?_) AllReadyH.nil)
  go_simp
  go_wp2_with fail
  refine (HLN.out _ _ HWD.out).mono ?_
  rintro e V3 ⟨rfl, hb⟩
  have HBV3 := hideIt (HBV2.out.trans (hb.mono HBV2.out.size))
  have HSV3 := hideIt (show w.heap.size < V3.heap.size ∧ (fun w' => w'.cell? ⟨w.heap.size, 0, none⟩ = some (.string nm) ∧ w'.cell? ⟨w.heap.size, 1, none⟩ = some (.int .i64 pr) ∧ w'.cell? ⟨w.heap.size, 2, none⟩ = some (.slice ao h.pod.cs.length c)) V3 from ⟨Nat.lt_of_lt_of_le HSV2.out.1 hb.size, (hb.cell (p := ⟨w.heap.size, 0, none⟩) HSV2.out.1).trans HSV2.out.2.1, (hb.cell (p := ⟨w.heap.size, 1, none⟩) HSV2.out.1).trans HSV2.out.2.2.1, (hb.cell (p := ⟨w.heap.size, 2, none⟩) HSV2.out.1).trans HSV2.out.2.2.2⟩)
  have HBD3 := hideIt (HBD2.out.below hb)
  clear hb
  go_wp2_with fail
  refine hK.out _ _ HSV3.out.2 (fun hHeld => ?_)
  clear hK K
  refine wpAnyH_ready (rs := [7]) (by kernel_rfl) (by simp) (AllReadyH.cons rfl (fun K hK => ?_) AllReadyH.nil)
  go_simp
  go_wp2_with fail
  refine (write_any _ _ [] PL _ HBD3.out (Nat.le_trans (Nat.le_of_eq (Nat.zero_add _)) (Nat.le_trans hpl (by decide))) (Nat.succ_le_of_lt HSV3.out.1)).mono ?_
  rintro e V4 ⟨rfl, hbu, hbB⟩
  have HBV4 := hideIt (HBV3.out.trans (hbB.mono (Nat.le_succ _)))
  have HSV4 := hideIt (show w.heap.size < V4.heap.size ∧ (fun w' => w'.cell? ⟨w.heap.size, 0, none⟩ = some (.string nm) ∧ w'.cell? ⟨w.heap.size, 1, none⟩ = some (.int .i64 pr) ∧ w'.cell? ⟨w.heap.size, 2, none⟩ = some (.slice ao h.pod.cs.length c)) V4 from ⟨Nat.lt_of_lt_of_le HSV3.out.1 hbB.size, (hbB.cell (p := ⟨w.heap.size, 0, none⟩) (Nat.lt_succ_self _)).trans HSV3.out.2.1, (hbB.cell (p := ⟨w.heap.size, 1, none⟩) (Nat.lt_succ_self _)).trans HSV3.out.2.2.1, (hbB.cell (p := ⟨w.heap.size, 2, none⟩) (Nat.lt_succ_self _)).trans HSV3.out.2.2.2⟩)
  have HBD4 := hideIt hbu
  clear hbu hbB
  go_wp2_with fail
  refine hK.out _ _ HSV4.out.2 (fun hHeld => ?_)
  clear hK K
  refine wpAnyH_done (by kernel_rfl) ?_ _
  have hc2 := HSV4.out.2.2.2
  have HBT : Hid (BuiltAt (w.heap.size + 1) (w.heap.size + 1) PL V4) := HBD4.out
  have HB4 := HBV4
  have HZ4 := hideIt (Nat.succ_le_of_lt HSV4.out.1)
  clear hHeld HBV1 HSV1 HBD1 HBV2 HSV2 HBD2 HWD HBV3 HSV3 HBD3 HBV4 HSV4 HBD4 HS0 HBD0 HB0 HLN HPW HN hpr
  have HCL := hideIt (Sv.contsTo_le HO.out)
  go_wp2_with fail
  go_loopw [19] (fun i wr => ∃ k : Nat, k ≤ h.pod.cs.length ∧ i = .int .i64 k ∧ Below w.heap.size w wr ∧ BuiltAt (w.heap.size + 1) (w.heap.size + 1) (PL ++ contsTo h k) wr ∧ Hid (w.heap.size + 1 ≤ wr.heap.size)) (fun i _ => h.pod.cs.length - (intOf i).toNat)
  case atStart => exact ⟨0, Nat.zero_le _, rfl, HB4.out, by rw [contsTo, List.append_nil]; exact HBT.out, HZ4⟩
  case round =>
    obtain ⟨k, hk, rfl, hB, hbt, HZ⟩ := hrel
    by_cases hlt : k < h.pod.cs.length
    · obtain ⟨b, o, dv, rfl, hin⟩ := HR.out (by omega)
      have hin := hin.below hB
      obtain ⟨c0, c1, c2, c3, c4, c5⟩ := hin.at hlt
      have hNd := (hin.2 k hlt).2
      have HBX := hideIt ((Below.refl wr.heap.size wr).alloc (Nat.le_refl _) (.cells #[.string (ct h.pod.cs k).nm, .int .i64 (ct h.pod.cs k).am, .int .i64 (ct h.pod.cs k).ab, .int .i64 (ct h.pod.cs k).cm, .int .i64 (ct h.pod.cs k).cb, dv k] 56))
      have HBa := hideIt (hB.trans (HBX.out.mono hB.size))
      have HBTa := hideIt (hbt.below HBX.out)
      have HC := hideIt (HCW.out k hlt (dv k) _ (hNd.below HBX.out) HBa.out)
      have HG := hideIt (fun W (hb : Below w.heap.size w W) => HBH.out k (by omega) W hb)
      obtain ⟨oc, og⟩ := Sv.okC_at HO.out hlt
      have HLL : Hid (∀ v W base, WordsAt base W v (contWs (ct h.pod.cs k) ++ givenWs (gv h.gs k)) → Calls Tryz.prog 55 #[v] W fun e w' => e = .returned (.string ⟨(contLine (ct h.pod.cs k) (gv h.gs k)).toArray⟩) ∧ Below W.heap.size W w') := fun v W base hw => line_any v _ base W hw (by rw [cont_len]; decide) (fun x hx => by
        rcases List.mem_append.1 hx with hx | hx
        · exact Nat.le_trans (Sv.contWs_le oc x hx) (by decide)
        · exact Sv.givenWs_le og x hx)
      have hll := Sv.contLine_le oc og
      have hcl := HCL.out k hk
      have HST : Hid (contsTo h (k + 1) = contsTo h k ++ contLine (ct h.pod.cs k) (gv h.gs k)) := rfl
      have HL1 : Hid ((contWs (ct h.pod.cs k)).length = 7) := rfl
      have HL2 : Hid ((givenWs (gv h.gs k)).length = 2) := rfl
      obtain ⟨da, dc, hsl, _⟩ := hNd
      clear hin oc og HCW hbt hB HCL
      generalize contLine (ct h.pod.cs k) (gv h.gs k) = CL at *
      generalize contsTo h k = CT at *
      generalize contWs (ct h.pod.cs k) = CW at *
      generalize givenWs (gv h.gs k) = GW at *
      generalize (ct h.pod.cs k).nm = nm' at *
      generalize (ct h.pod.cs k).am = am at *
      generalize (ct h.pod.cs k).ab = ab at *
      generalize (ct h.pod.cs k).cm = cm at *
      generalize (ct h.pod.cs k).cb = cb at *
      generalize (ct h.pod.cs k).ds.length = dn at *
      generalize dv k = d at *
      subst hsl
      have hwl : (PL ++ CT).length + CL.length ≤ 1000000 := by rw [List.length_append]; omega
      go_wp2_with fail
      refine HC.out.mono ?_
      rintro e W1 ⟨v1, rfl, hw1, hb1⟩
      have HB1 := hideIt hb1
      have HR1 := hideIt hw1
      have HBw1 := hideIt (HBa.out.trans (hb1.mono HBa.out.size))
      clear hb1 hw1
      go_wp2_with fail
      refine (HG.out _ HBw1.out).mono ?_
      rintro e W2 ⟨v2, rfl, hw2, hb2⟩
      have hr2 := HR1.out.below hb2
      have HB2 := hideIt (HB1.out.trans (hb2.mono HB1.out.size))
      clear hb2
      obtain ⟨rfl, hx0⟩ | ⟨g2, cap2, rfl, hcap2, hg2, hcell2⟩ := ownsRow_cells hw2
      · rw [HL2.out] at hx0; cases hx0
      have hnews : ∀ j u, (strs GW)[j]? = some u → W2.cell? ((⟨g2, 0, none⟩ : Addr).add j) = some u := fun j u hj => by rw [Addr.add_lit, Nat.zero_add]; exact hcell2 j u hj
      have HBS := hideIt HB2.out.size
      have hn9 : CW.length + GW.length ≤ maxLen := by rw [HL1.out, HL2.out]; decide
      have hn10 : (CW.length + GW.length) * 16 ≤ 140737488355328 := by rw [HL1.out, HL2.out]; decide
      go_wp2_with (at_builtin; refine wpList_append_own _ rfl _ _ 41 rfl _ 9 i0 (.string ⟨#[]⟩) 1 16 Tryz.underlying41 hi hz0 hz1 hz2 rfl (by decide) _ _ _ rfl hr2 ⟨g2, 0, none⟩ GW.length cap2 (strs GW) rfl (by simp [strs]) hnews (strs_oneCell GW) hn9 hn10 HBS.out ?_; intro v' W3 hown' hgrow' _)
      have HR3 : Hid (WordsAt _ W3 v' (CW ++ GW)) := hideIt (words_app hown')
      have HB3 := hideIt (HB2.out.grown hgrow' HBS.out (fun j hj => (World.ownsRow.lt hr2 j hj).1))
      clear hown' hgrow' hr2 hw2 hcell2 hnews
      go_wp2_with fail
      refine (HLL.out _ _ _ HR3.out).mono ?_
      rintro e W4 ⟨rfl, hb4⟩
      have HB4b := hideIt (HB3.out.trans (hb4.mono HB3.out.size))
      have HBT4 := hideIt (HBTa.out.below HB4b.out)
      have HBw4 := hideIt (HBa.out.trans (HB4b.out.mono HBa.out.size))
      have hz4 : w.heap.size + 1 ≤ W4.heap.size := Nat.le_trans HZ.out (Nat.le_trans HBX.out.size HB4b.out.size)
      clear hb4
      go_wp2_with fail
      refine (write_any _ _ _ _ _ HBT4.out hwl hz4).mono ?_
      rintro e W5 ⟨rfl, hbt5, hb5⟩
      have HB5 := hideIt (HBw4.out.trans (hb5.mono (Nat.le_succ _)))
      have HZ5 := hideIt (Nat.le_trans hz4 hb5.size)
      have HBT5 := hideIt hbt5
      clear hbt5 hb5
      go_wp2_with fail
      go_roundw
      case rel => exact ⟨k + 1, by omega, by go_num, HB5.out, by rw [HST.out, ← List.append_assoc]; exact HBT5.out, HZ5⟩
      case measure => simp [intOf]; omega
    · have hke : k = h.pod.cs.length := by omega
      subst hke
      go_wp2_with fail
      refine (string_any _ _ _ _ hbt HZ.out).mono ?_
      rintro e W1 ⟨rfl, hb1⟩
      have hB1 := hB.trans (hb1.mono (Nat.le_succ _))
      go_wp2_with fail
      go_ret
      exact ⟨by rw [HPT.out]; rfl, hB1⟩
end Go.Proofs.YtlljniaobbbjgaaGreatDoor

