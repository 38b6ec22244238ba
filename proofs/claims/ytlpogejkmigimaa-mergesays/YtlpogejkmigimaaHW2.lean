/- What over, on, small, masksOf and the document's NodesOf answer: contracts. -/
import Derived.Test.YtlpogejkmigimaaHW1
namespace Go.Proofs.Ytlpogejkmigimaa
open Go.RowKit
open Ost (N4 sumTo sumOn Sm pop8 isSub masksTo)
theorem boxed (q : N4) (w : World) (k : Nat) (hk : k < 4) : (w.alloc (.cells #[.int .i64 q.a, .int .i64 q.b, .int .i64 q.c, .int .i64 q.d] 45)).cell? ⟨w.heap.size, k, none⟩ = some (.int .i64 (q.get k)) := by
  have h := Four.made w 45 q.a q.b q.c q.d
  have : k = 0 ∨ k = 1 ∨ k = 2 ∨ k = 3 := by omega
  rcases this with rfl | rfl | rfl | rfl
  · exact h.c0
  · exact h.c1
  · exact h.c2
  · exact h.c3
set_option maxRecDepth 100000 in
set_option maxHeartbeats 1000000 in
theorem over_any (q : N4) (m : Nat) (w : World) (hm : m < 256) (hq : Sm q) :
    Calls Try.prog 37 #[.int .u8 m, v4 q] w fun e w' => e = .returned (.int .i64 (sumOn q m)) ∧ Below w.heap.size w w' := by
  have HB := hideIt ((Below.refl w.heap.size w).alloc (Nat.le_refl _) (.cells #[.int .i64 q.a, .int .i64 q.b, .int .i64 q.c, .int .i64 q.d] 45))
  have HX := hideIt (boxed q w)
  have HQ := hideIt hq
  clear hq
  unfold v4 at *
  go_enter Try.func37, Try.ntmps37
  go_wp2_with fail
  go_loop [5, 6] (fun t i => ∃ k : Nat, k ≤ 4 ∧ i = .int .i64 k ∧ t = .int .i64 (sumTo q m k)) (fun _ i => 4 - (intOf i).toNat)
  case atStart => exact ⟨0, by omega, rfl, rfl⟩
  case round =>
    obtain ⟨k, hk, rfl, rfl⟩ := hrel
    by_cases hlt : k < 4
    · have hx := HX.out k hlt
      have hb8 := bit8 m k hm
      have HY := hideIt (fun h => Ost.sumTo_yes (q := q) (m := m) (k := k) h)
      have HN := hideIt (fun h => Ost.sumTo_no (q := q) (m := m) (k := k) h)
      obtain ⟨s1, s2⟩ := Ost.sumTo_bound HQ.out m k
      obtain ⟨t1, t2⟩ := HQ.out k
      generalize q.get k = x at *
      rcases two (m.testBit k) with hb | hb
      · rw [hb] at hb8
        have HO := hideIt (HY.out hb)
        clear hb
        go_wp2_with fail
        go_round
        case rel => exact ⟨k + 1, by omega, by go_num, by rw [HO.out]⟩
        case measure => simp [intOf]; omega
      · rw [hb] at hb8
        have HO := hideIt (HN.out hb)
        clear hb
        go_wp2_with fail
        go_round
        case rel => exact ⟨k + 1, by omega, by go_num, by rw [HO.out]⟩
        case measure => simp [intOf]; omega
    · have hk4 : k = 4 := by omega
      subst hk4
      clear hk hlt
      go_wp2_with fail
      go_ret
      exact ⟨rfl, HB.out⟩
set_option maxRecDepth 100000 in
set_option maxHeartbeats 1000000 in
theorem refOnN_any (q : N4) (m : Nat) (w : World) (hm : m < 256) (hq : Sm q) :
    Calls Try.prog 50 #[.int .u8 m, v4 q] w fun e w' => e = .returned (.int .i64 (sumOn q m)) ∧ Below w.heap.size w w' := by
  have HB := hideIt ((Below.refl w.heap.size w).alloc (Nat.le_refl _) (.cells #[.int .i64 q.a, .int .i64 q.b, .int .i64 q.c, .int .i64 q.d] 45))
  have HX := hideIt (boxed q w)
  have HQ := hideIt hq
  clear hq
  unfold v4 at *
  go_enter Try.func50, Try.ntmps50
  go_wp2_with fail
  go_loop [5, 6] (fun t i => ∃ k : Nat, k ≤ 4 ∧ i = .int .i64 k ∧ t = .int .i64 (sumTo q m k)) (fun _ i => 4 - (intOf i).toNat)
  case atStart => exact ⟨0, by omega, rfl, rfl⟩
  case round =>
    obtain ⟨k, hk, rfl, rfl⟩ := hrel
    by_cases hlt : k < 4
    · have hx := HX.out k hlt
      have hb8 := bit8 m k hm
      have HY := hideIt (fun h => Ost.sumTo_yes (q := q) (m := m) (k := k) h)
      have HN := hideIt (fun h => Ost.sumTo_no (q := q) (m := m) (k := k) h)
      obtain ⟨s1, s2⟩ := Ost.sumTo_bound HQ.out m k
      obtain ⟨t1, t2⟩ := HQ.out k
      generalize q.get k = x at *
      rcases two (m.testBit k) with hb | hb
      · rw [hb] at hb8
        have HO := hideIt (HY.out hb)
        clear hb
        go_wp2_with fail
        go_round
        case rel => exact ⟨k + 1, by omega, by go_num, by rw [HO.out]⟩
        case measure => simp [intOf]; omega
      · rw [hb] at hb8
        have HO := hideIt (HN.out hb)
        clear hb
        go_wp2_with fail
        go_round
        case rel => exact ⟨k + 1, by omega, by go_num, by rw [HO.out]⟩
        case measure => simp [intOf]; omega
    · have hk4 : k = 4 := by omega
      subst hk4
      clear hk hlt
      go_wp2_with fail
      go_ret
      exact ⟨rfl, HB.out⟩
/-- Are the first ones within bounds? -/
def allR (lo : Int) (q : N4) : Nat → Bool
  | 0 => true
  | k + 1 => allR lo q k && (decide (lo ≤ q.get k) && decide (q.get k ≤ 1000000))
theorem allR_iff (lo : Int) (q : N4) (k : Nat) : allR lo q k = true ↔ ∀ j, j < k → lo ≤ q.get j ∧ q.get j ≤ 1000000 := by
  induction k with
  | zero => simp [allR]
  | succ k ih =>
    rw [allR, Bool.and_eq_true, ih, Bool.and_eq_true, decide_eq_true_eq, decide_eq_true_eq]
    constructor
    · rintro ⟨h, h2⟩ j hj
      by_cases e : j = k
      · subst e; exact h2
      · exact h j (by omega)
    · intro h
      exact ⟨fun j hj => h j (by omega), h k (by omega)⟩
theorem get_four (q : N4) (k : Nat) (h : 4 ≤ k) : q.get k = q.get 3 := by
  match k, h with
  | k + 4, _ => rfl
theorem allR_Sm {lo : Int} {q : N4} (hlo : -1000000 ≤ lo) (h : allR lo q 4 = true) : Sm q := by
  rw [allR_iff] at h
  intro k
  by_cases hk : k < 4
  · have := h k hk; omega
  · rw [get_four q k (by omega)]; have := h 3 (by omega); omega
set_option maxRecDepth 100000 in
set_option maxHeartbeats 1000000 in
theorem smallL_any (q : N4) (w : World) :
    Calls Try.prog 26 #[v4 q] w fun e w' => e = .returned (.bool (allR (-1000000) q 4)) ∧ Below w.heap.size w w' := by
  have HB := hideIt ((Below.refl w.heap.size w).alloc (Nat.le_refl _) (.cells #[.int .i64 q.a, .int .i64 q.b, .int .i64 q.c, .int .i64 q.d] 45))
  have HX := hideIt (boxed q w)
  unfold v4 at *
  go_enter Try.func26, Try.ntmps26
  go_wp2_with fail
  go_loop [3] (fun i => ∃ k : Nat, k ≤ 4 ∧ i = .int .i64 k ∧ Hid (allR (-1000000) q k = true)) (fun i => 4 - (intOf i).toNat)
  case atStart => exact ⟨0, by omega, rfl, rfl⟩
  case round =>
    obtain ⟨k, hk, rfl, HA⟩ := hrel
    by_cases hlt : k < 4
    · have hx := HX.out k hlt
      have hA1 : Hid (-1000000 ≤ q.get k → q.get k ≤ 1000000 → allR (-1000000) q (k + 1) = true) := fun h1 h2 => by rw [allR, HA.out, decide_eq_true h1, decide_eq_true h2]; rfl
      have hA2 : Hid (¬ (-1000000 ≤ q.get k ∧ q.get k ≤ 1000000) → allR (-1000000) q 4 = false) := fun h => by
        rw [Bool.eq_false_iff]; intro h2; exact h ((allR_iff _ _ _).1 h2 k hlt)
      generalize q.get k = x at *
      by_cases h1 : -1000000 ≤ x
      · by_cases h2 : x ≤ 1000000
        · have HO := hideIt (hA1.out h1 h2)
          clear hA1 hA2
          go_wp2_with fail
          go_round
          case rel => exact ⟨k + 1, by omega, by go_num, HO⟩
          case measure => simp [intOf]; omega
        · have HO := hideIt (hA2.out (fun h => h2 h.2))
          have h3 : 1000000 < x := by omega
          clear hA1 hA2 h2
          go_wp2_with fail
          go_ret
          exact ⟨congrArg (fun z => Ending.returned (.bool z)) HO.out.symm, HB.out⟩
      · have HO := hideIt (hA2.out (fun h => h1 h.1))
        have h3 : x < -1000000 := by omega
        clear hA1 hA2 h1
        go_wp2_with fail
        go_ret
        exact ⟨congrArg (fun z => Ending.returned (.bool z)) HO.out.symm, HB.out⟩
    · have hk4 : k = 4 := by omega
      subst hk4
      clear hk hlt
      go_wp2_with fail
      go_ret
      exact ⟨congrArg (fun z => Ending.returned (.bool z)) HA.out.symm, HB.out⟩
set_option maxRecDepth 100000 in
set_option maxHeartbeats 1000000 in
theorem smallT_any (q : N4) (w : World) :
    Calls Try.prog 36 #[v4 q] w fun e w' => e = .returned (.bool (allR 0 q 4)) ∧ Below w.heap.size w w' := by
  have HB := hideIt ((Below.refl w.heap.size w).alloc (Nat.le_refl _) (.cells #[.int .i64 q.a, .int .i64 q.b, .int .i64 q.c, .int .i64 q.d] 45))
  have HX := hideIt (boxed q w)
  unfold v4 at *
  go_enter Try.func36, Try.ntmps36
  go_wp2_with fail
  go_loop [3] (fun i => ∃ k : Nat, k ≤ 4 ∧ i = .int .i64 k ∧ Hid (allR 0 q k = true)) (fun i => 4 - (intOf i).toNat)
  case atStart => exact ⟨0, by omega, rfl, rfl⟩
  case round =>
    obtain ⟨k, hk, rfl, HA⟩ := hrel
    by_cases hlt : k < 4
    · have hx := HX.out k hlt
      have hA1 : Hid (0 ≤ q.get k → q.get k ≤ 1000000 → allR 0 q (k + 1) = true) := fun h1 h2 => by rw [allR, HA.out, decide_eq_true h1, decide_eq_true h2]; rfl
      have hA2 : Hid (¬ (0 ≤ q.get k ∧ q.get k ≤ 1000000) → allR 0 q 4 = false) := fun h => by
        rw [Bool.eq_false_iff]; intro h2; exact h ((allR_iff _ _ _).1 h2 k hlt)
      generalize q.get k = x at *
      by_cases h1 : 0 ≤ x
      · by_cases h2 : x ≤ 1000000
        · have HO := hideIt (hA1.out h1 h2)
          clear hA1 hA2
          go_wp2_with fail
          go_round
          case rel => exact ⟨k + 1, by omega, by go_num, HO⟩
          case measure => simp [intOf]; omega
        · have HO := hideIt (hA2.out (fun h => h2 h.2))
          have h3 : 1000000 < x := by omega
          clear hA1 hA2 h2
          go_wp2_with fail
          go_ret
          exact ⟨congrArg (fun z => Ending.returned (.bool z)) HO.out.symm, HB.out⟩
      · have HO := hideIt (hA2.out (fun h => h1 h.1))
        have h3 : x < 0 := by omega
        clear hA1 hA2 h1
        go_wp2_with fail
        go_ret
        exact ⟨congrArg (fun z => Ending.returned (.bool z)) HO.out.symm, HB.out⟩
    · have hk4 : k = 4 := by omega
      subst hk4
      clear hk hlt
      go_wp2_with fail
      go_ret
      exact ⟨congrArg (fun z => Ending.returned (.bool z)) HA.out.symm, HB.out⟩
theorem one8 (m n : Nat) (hm : m < 256) : bits BinOp.and IntKind.u8 ((m : Int) / 2 ^ n) 1 = if m.testBit n then 1 else 0 := by
  have e : ((m : Int) / 2 ^ n) = ((m / 2 ^ n : Nat) : Int) := by simp
  have hlt : m / 2 ^ n < 256 := Nat.lt_of_le_of_lt (Nat.div_le_self _ _) hm
  rw [e, Nat.testBit_eq_decide_div_mod_eq]
  generalize m / 2 ^ n = q at hlt
  have key : ∀ q : Fin 256, bits BinOp.and IntKind.u8 ((q.val : Nat) : Int) 1 = if (decide (q.val % 2 = 1)) = true then 1 else 0 := by decide +kernel
  exact key ⟨q, hlt⟩
set_option maxRecDepth 100000 in
set_option maxHeartbeats 1000000 in
theorem refNodesOf_any (m : Nat) (w : World) (hm : m < 256) :
    Calls Try.prog 31 #[.int .u8 m] w fun e w' => e = .returned (.int .i64 (pop8 m : Nat)) ∧ w' = w := by
  go_enter Try.func31, Try.ntmps31
  go_wp2_with fail
  go_loop [3, 4] (fun t i => ∃ k : Nat, k ≤ 8 ∧ i = .int .i64 k ∧ t = .int .i64 ((Ost.listTo m k).length : Nat)) (fun _ i => 8 - (intOf i).toNat)
  case atStart => exact ⟨0, by omega, rfl, rfl⟩
  case round =>
    obtain ⟨k, hk, rfl, rfl⟩ := hrel
    by_cases hlt : k < 8
    · have hb8 := one8 m k hm
      have hle : (Ost.listTo m k).length ≤ 8 := Nat.le_trans (by unfold Ost.listTo; exact Nat.le_trans (List.length_filter_le _ _) (by simp)) hk
      rcases two (m.testBit k) with hb | hb
      · rw [hb, if_pos rfl] at hb8
        have HO : Hid ((Ost.listTo m (k + 1)).length = (Ost.listTo m k).length + 1) := by unfold Hid; rw [Ost.listTo_succ, if_pos hb]; simp
        clear hb
        generalize (Ost.listTo m k).length = x at *
        go_wp2_with fail
        go_round
        case rel => exact ⟨k + 1, by omega, by go_num, by first | (rw [HO.out]; done) | (rw [HO.out]; go_num)⟩
        case measure => simp [intOf]; omega
      · rw [hb, if_neg (by simp)] at hb8
        have HO : Hid ((Ost.listTo m (k + 1)).length = (Ost.listTo m k).length) := by unfold Hid; rw [Ost.listTo_succ, if_neg (by rw [hb]; simp)]
        clear hb
        generalize (Ost.listTo m k).length = x at *
        go_wp2_with fail
        go_round
        case rel => exact ⟨k + 1, by omega, by go_num, by first | (rw [HO.out]; done) | (rw [HO.out]; go_num)⟩
        case measure => simp [intOf]; omega
    · have hk8 : k = 8 := by omega
      subst hk8
      clear hk hlt
      go_wp2_with fail
      go_ret
      exact ⟨rfl, rfl⟩
/-- A slice of masks that is read. -/
def MasksAt (w : World) (v : Value) (l : List Nat) : Prop :=
  (l = [] ∧ ∃ ao c, v = .slice ao 0 c) ∨ ∃ g c, v = .slice (some ⟨g, 0, none⟩) l.length c ∧ g < w.heap.size ∧ ∀ k, k < l.length → w.cell? ⟨g, k, none⟩ = some (.int .u8 (l.getD k 0 : Nat))
theorem infoMask : (Try.prog.info? 23).map (fun i => (i.zero, i.size, i.bytes)) = some (some (.int .u8 0), 1, 1) := by kernel_rfl
def masksV (l : List Nat) : List Value := l.map fun (n : Nat) => Value.int .u8 (n : Int)
theorem masksV_snoc (l : List Nat) (n : Nat) : masksV (l ++ [n]) = masksV l ++ [.int .u8 n] := by simp [masksV]
theorem andNot8 (m n : Nat) (hm : m < 16) (hn : n < 256) : (bits BinOp.andNot IntKind.u8 (m : Int) (n : Int) == 0) = decide (m &&& n = m) := by
  have key : ∀ (a : Fin 16) (b : Fin 256), (bits BinOp.andNot IntKind.u8 ((a.val : Nat) : Int) ((b.val : Nat) : Int) == 0) = decide (a.val &&& b.val = a.val) := by decide +kernel
  exact key ⟨m, hm⟩ ⟨n, hn⟩
def Masked (w : World) (nodes : Nat) (e : Ending) (w' : World) : Prop := ∃ v, e = .returned v ∧ MasksAt w' v (masksTo nodes 16) ∧ Below w.heap.size w w'
set_option maxRecDepth 100000 in
set_option maxHeartbeats 1000000 in
theorem masksOf_any (nodes : Nat) (w : World) (hn : nodes < 256) :
    Calls Try.prog 49 #[.int .u8 nodes] w fun e w' => Masked w nodes e w' := by
  obtain ⟨i0, hi, hz0, hz1, hz2⟩ := info_parts infoMask
  go_enter Try.func49, Try.ntmps49
  go_wp2_with fail
  go_loopw [3, 4] (fun v i wr => ∃ k : Nat, 1 ≤ k ∧ k ≤ 16 ∧ i = .int .u8 k ∧ wr.ownsRow w.heap.size 23 1 v (masksTo nodes k).length (masksV (masksTo nodes k)) ∧ Below w.heap.size w wr) (fun _ i _ => 16 - (intOf i).toNat)
  case atStart => exact ⟨1, by omega, by omega, rfl, World.ownsRow_nil _ _ _ _, Below.refl _ _⟩
  case round =>
    obtain ⟨k, hk1, hk, rfl, hrow, hnx⟩ := hrel
    by_cases hlt : k < 16
    · have hle := Ost.masksTo_le nodes k
      have hsz := hnx.size
      have HB := andNot8 k nodes hlt hn
      rcases two (decide (k &&& nodes = k)) with hb | hb
      · have HS : Hid (masksTo nodes (k + 1) = masksTo nodes k ++ [k]) := Ost.masksTo_yes (by unfold isSub; rw [hb, decide_eq_true hk1]; rfl)
        rw [hb] at HB
        clear hb
        go_wp2_with (at_builtin; refine wpList_append_own _ rfl _ _ 85 rfl w.heap.size 23 i0 (.int .u8 0) 1 1 Try.underlying85 hi hz0 hz1 hz2 rfl (by decide) _ _ _ rfl (hrow.alloc _) ⟨_, 0, none⟩ 1 1 [.int .u8 k] rfl rfl (cell_one_new _ _ _) (ints_oneCell .u8 [(k : Int)]) (by unfold maxLen; omega) (by omega) (by simp; omega) ?_; intro v' w1 hown' hgrow' _)
        go_roundw
        case rel =>
          refine ⟨k + 1, by omega, by omega, by go_num, ?_, ?_⟩
          · rw [HS.out, masksV_snoc, List.length_append]; exact hown'
          · exact (hnx.alloc hsz _).grown hgrow' (by simp; omega) (fun j hj => (hrow.lt j hj).1)
        case measure => simp [intOf]; omega
      · have HS : Hid (masksTo nodes (k + 1) = masksTo nodes k) := Ost.masksTo_no (by unfold isSub; rw [hb]; simp)
        rw [hb] at HB
        clear hb
        go_wp2_with fail
        go_roundw
        case rel =>
          refine ⟨k + 1, by omega, by omega, by go_num, ?_, hnx⟩
          rw [HS.out]; exact hrow
        case measure => simp [intOf]; omega
    · have hk16 : k = 16 := by omega
      subst hk16
      clear hk hlt
      have HM : Hid (∀ v, wr.ownsRow w.heap.size 23 1 v (masksTo nodes 16).length (masksV (masksTo nodes 16)) → MasksAt wr v (masksTo nodes 16)) := by
        intro v hrow
        rcases hrow.2 with ⟨rfl, h0⟩ | ⟨g, cap, cur, rfl, hg, _⟩
        · exact .inl ⟨List.eq_nil_of_length_eq_zero h0, none, 0, rfl⟩
        · refine .inr ⟨g, cap, rfl, (hrow.lt g rfl).2, fun k hk => ?_⟩
          rw [hrow.cellAt k (by omega)]
          simp [masksV, hk]
      go_wp2_with fail
      go_ret
      exact ⟨_, rfl, HM.out _ hrow, hnx⟩
end Go.Proofs.Ytlpogejkmigimaa
