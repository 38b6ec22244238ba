/- What package bits' Of, Inside, and the document's List, Count, Of answer: contracts. -/
import Derived.Test.YtfnkmlpgfohjnaaDoorSetW
import Derived.Test.YtfnkmlpgfohjnaaDoorSame
namespace Go.Proofs.YtfnkmlpgfohjnaaDoor
open Go.RowKit
theorem two' (b : Bool) : b = true ∨ b = false := by cases b <;> simp
theorem hideIt' {p : Prop} (h : p) : Hid p := h
set_option maxRecDepth 100000 in
set_option maxHeartbeats 1000000 in
theorem refList_any (A : Nat) (w : World) (hA : A < 18446744073709551616) :
    Calls Tryd.prog 15 #[.int .u64 A] w fun e w' => ∃ v, e = .returned v ∧ w'.ownsRow w.heap.size 3 1 v (Ost.listTo A 64).length (nums (Ost.listTo A 64)) ∧ Below w.heap.size w w' := by
  obtain ⟨i0, hi, hz0, hz1, hz2⟩ := info_parts infoInt
  go_enter Tryd.func15, Tryd.ntmps15
  go_wp2_with fail
  go_loopw [3, 4] (fun v i wr => ∃ k : Nat, k ≤ 64 ∧ i = .int .i64 k ∧ wr.ownsRow w.heap.size 3 1 v (Ost.listTo A k).length (nums (Ost.listTo A k)) ∧ Below w.heap.size w wr) (fun _ i _ => 64 - (intOf i).toNat)
  case atStart => exact ⟨0, by omega, rfl, World.ownsRow_nil _ _ _ _, Below.refl _ _⟩
  case round =>
    obtain ⟨k, hk, rfl, hrow, hnx⟩ := hrel
    by_cases hlt : k < 64
    · have hle := listTo_le A k
      have hsz := hnx.size
      have HB := bit_eq A k hA
      rcases two' (A.testBit k) with hb | hb
      · have HS : Hid (Ost.listTo A (k + 1) = Ost.listTo A k ++ [k]) := by unfold Hid; rw [Ost.listTo_succ, if_pos hb]
        rw [hb] at HB
        clear hb
        go_wp2_with (at_builtin; refine wpList_append_own _ rfl _ _ 22 rfl w.heap.size 3 i0 (.int .i64 0) 1 8 Tryd.underlying22 hi hz0 hz1 hz2 rfl (by decide) _ _ _ rfl (hrow.alloc _) ⟨_, 0, none⟩ 1 1 [.int .i64 k] rfl rfl (cell_one_new _ _ _) (ints_oneCell .i64 [(k : Int)]) (by unfold maxLen; omega) (by omega) (by simp; omega) ?_; intro v' w1 hown' hgrow' _)
        go_roundw
        case rel =>
          refine ⟨k + 1, by omega, by go_num, ?_, ?_⟩
          · rw [HS.out, nums_snoc, List.length_append]; exact hown'
          · exact (hnx.alloc hsz _).grown hgrow' (by simp; omega) (fun j hj => (hrow.lt j hj).1)
        case measure => simp [intOf]; omega
      · have HS : Hid (Ost.listTo A (k + 1) = Ost.listTo A k) := by unfold Hid; rw [Ost.listTo_succ, if_neg (by rw [hb]; simp)]
        rw [hb] at HB
        clear hb
        go_wp2_with fail
        go_roundw
        case rel =>
          refine ⟨k + 1, by omega, by go_num, ?_, hnx⟩
          rw [HS.out]; exact hrow
        case measure => simp [intOf]; omega
    · have hk64 : k = 64 := by omega
      subst hk64
      clear hk hlt
      go_wp2_with fail
      go_ret
      exact ⟨_, rfl, hrow, hnx⟩
theorem ownsRow_len {w : World} {base : Nat} {e : TypeId} {v : Value} {n : Nat} {xs : List Value} (h : w.ownsRow base e 1 v n xs) : ∃ ao c, v = .slice ao n c := by
  rcases h.2 with ⟨rfl, rfl⟩ | ⟨g, cap, cur, rfl, _⟩
  · exact ⟨none, 0, rfl⟩
  · exact ⟨_, _, rfl⟩
set_option maxHeartbeats 400000 in
theorem refCount_any (A : Nat) (w : World) (hA : A < 18446744073709551616) :
    Calls Tryd.prog 17 #[.int .u64 A] w fun e w' => e = .returned (.int .i64 ((Ost.listTo A 64).length : Nat)) ∧ Below w.heap.size w w' := by
  go_enter Tryd.func17, Tryd.ntmps17
  go_wp2_with fail
  refine (refList_any A _ hA).mono ?_
  rintro e w1 ⟨v, rfl, hrow, hb⟩
  obtain ⟨ao, c, hv⟩ := ownsRow_len hrow
  rw [hv]
  clear hrow
  go_wp2_with fail
  go_ret
  exact ⟨rfl, hb⟩
theorem andNot_zero (A B : Nat) (hA : A < 18446744073709551616) (hB : B < 18446744073709551616) : (bits BinOp.andNot IntKind.u64 (A : Int) (B : Int) == 0) = decide (A &&& B = A) := by
  rw [u64_andNot_nat A B hA hB, Bool.eq_iff_iff, beq_iff_eq, decide_eq_true_eq]
  have key : ∀ i, (A &&& (18446744073709551615 - B)).testBit i = (A.testBit i && !B.testBit i) := by
    intro i
    rw [Nat.testBit_and]
    by_cases hi : i < 64
    · have e : (18446744073709551615 - B).testBit i = !B.testBit i := by
        have := Nat.testBit_two_pow_sub_succ (n := 64) hB i
        rw [show 2 ^ 64 - (B + 1) = 18446744073709551615 - B by omega] at this
        rw [this, decide_eq_true hi]; simp
      rw [e]
    · have : A.testBit i = false := Nat.testBit_lt_two_pow (Nat.lt_of_lt_of_le hA (Nat.pow_le_pow_right (n := 2) (by omega) (show 64 ≤ i by omega)))
      rw [this]; simp
  constructor
  · intro h
    have h0 : A &&& (18446744073709551615 - B) = 0 := by omega
    apply Nat.eq_of_testBit_eq
    intro i
    have hk := key i
    rw [h0, Nat.zero_testBit] at hk
    rw [Nat.testBit_and]
    revert hk
    cases A.testBit i <;> cases B.testBit i <;> decide
  · intro h
    have h0 : A &&& (18446744073709551615 - B) = 0 := by
      apply Nat.eq_of_testBit_eq
      intro i
      rw [key i, Nat.zero_testBit]
      have := congrArg (·.testBit i) h
      simp only [Nat.testBit_and] at this
      revert this
      cases A.testBit i <;> cases B.testBit i <;> decide
    rw [h0]; rfl
theorem or_step (s n : Nat) (hs : s < 18446744073709551616) (hn : n < 64) : bits BinOp.or IntKind.u64 (s : Int) (IntKind.u64.wrap (2 ^ n)) = ((s ||| 2 ^ n : Nat) : Int) := by
  have hp : 2 ^ n < 18446744073709551616 := Nat.pow_lt_pow_right (a := 2) (by omega) hn
  rw [show (2 ^ n : Int) = ((2 ^ n : Nat) : Int) by simp]
  generalize 2 ^ n = q at hp ⊢
  rw [IntKind.wrap_u64, show (q : Int) % 18446744073709551616 = (q : Int) by omega]
  exact bits_or_u64_nat s q hs hp
set_option maxHeartbeats 400000 in
theorem inside_any (A B : Nat) (w : World) (hA : A < 18446744073709551616) (hB : B < 18446744073709551616) :
    Calls Tryd.prog 18 #[.int .u64 A, .int .u64 B] w fun e w' => e = .returned (.bool (decide (A &&& B = A))) ∧ w' = w := by
  have H := hideIt' (andNot_zero A B hA hB)
  go_enter Tryd.func18, Tryd.ntmps18
  go_wp2_with fail
  go_ret
  exact ⟨congrArg (fun b => Ending.returned (.bool b)) H.out, rfl⟩
/-- A slice of numbers that is read. -/
def IntsAt (w : World) (v : Value) (xs : List Int) : Prop :=
  (xs = [] ∧ ∃ ao c, v = .slice ao 0 c) ∨ ∃ b o c, v = .slice (some ⟨b, o, none⟩) xs.length c ∧ ∀ k, k < xs.length → w.cell? ⟨b, o + k, none⟩ = some (.int .i64 (xs.getD k 0))
theorem IntsAt.below {w w' : World} {v : Value} {xs : List Int} (h : IntsAt w v xs) (hb : Below w.heap.size w w') : IntsAt w' v xs := by
  rcases h with h | ⟨b, o, c, hv, hc⟩
  · exact .inl h
  · exact .inr ⟨b, o, c, hv, fun k hk => (hb.cell (p := ⟨b, o + k, none⟩) (World.block_lt_of_cell? w _ (hc k hk))).trans (hc k hk)⟩
def orBits (l : List Int) : Nat := l.foldl (fun s z => s ||| 2 ^ z.toNat) 0
def inSet (z : Int) : Bool := decide (0 ≤ z ∧ z < 64)
theorem orBits_snoc (l : List Int) (z : Int) : orBits (l ++ [z]) = orBits l ||| 2 ^ z.toNat := by simp [orBits]
theorem or_lt (a b : Nat) (ha : a < 18446744073709551616) (hb : b < 18446744073709551616) : a ||| b < 18446744073709551616 := Nat.or_lt_two_pow (n := 64) ha hb
theorem pow_lt64 (n : Nat) (h : n < 64) : 2 ^ n < 18446744073709551616 := Nat.pow_lt_pow_right (a := 2) (by omega) h
theorem orBits_lt (l : List Int) (h : l.all inSet = true) : orBits l < 18446744073709551616 := by
  have key : ∀ r : List Int, r.reverse.all inSet = true → orBits r.reverse < 18446744073709551616 := by
    intro r
    induction r with
    | nil => intro _; simp [orBits]
    | cons z r ih =>
      intro hr
      rw [List.reverse_cons] at hr ⊢
      rw [List.all_append, Bool.and_eq_true] at hr
      rw [orBits_snoc]
      have hz : inSet z = true := by simpa using hr.2
      simp only [inSet, decide_eq_true_eq] at hz
      exact or_lt _ _ (ih hr.1) (pow_lt64 _ (by omega))
  have := key l.reverse (by simpa using h)
  simpa using this
def setErr (p : Nat × Int) : Value := .tuple #[.int .u64 (p.1 : Nat), errV p.2]
def setNum (p : Nat × Int) : Value := .tuple #[.int .u64 (p.1 : Nat), .int .i64 p.2]
def ofOut (l : List Int) : Nat × Int := if l.all inSet then (orBits l, 0) else (0, 1)
set_option maxHeartbeats 1000000 in
theorem of_none (ao : Option Addr) (c : Nat) (w : World) :
    Calls Tryd.prog 12 #[.slice ao 0 c] w fun e w' => e = .returned (.tuple #[.int .u64 0, .nilIface]) ∧ w' = w := by
  go_enter Tryd.func12, Tryd.ntmps12
  go_wp2_with fail
  go_loop [4, 9] (fun t i => t = .int .u64 0 ∧ i = .int .i64 0) (fun _ _ => 0)
  case atStart => exact ⟨rfl, rfl⟩
  case round =>
    obtain ⟨rfl, rfl⟩ := hrel
    go_wp2_with fail
    go_ret2
    exact ⟨rfl, rfl⟩
set_option maxHeartbeats 1000000 in
theorem of_some (b o c : Nat) (xs : List Int) (w : World) (hc : ∀ k, k < xs.length → w.cell? ⟨b, o + k, none⟩ = some (.int .i64 (xs.getD k 0))) (hl : xs.length ≤ 1000) :
    Calls Tryd.prog 12 #[.slice (some ⟨b, o, none⟩) xs.length c] w fun e w' => e = .returned (setErr (ofOut xs)) ∧ w' = w := by
  have HC := hideIt' hc
  clear hc
  go_enter Tryd.func12, Tryd.ntmps12
  go_wp2_with fail
  go_loop [4, 9] (fun t i => ∃ k : Nat, k ≤ xs.length ∧ i = .int .i64 k ∧ Hid ((xs.take k).all inSet = true) ∧ t = .int .u64 (orBits (xs.take k) : Nat)) (fun _ i => xs.length - (intOf i).toNat)
  case atStart => exact ⟨0, by omega, rfl, rfl, rfl⟩
  case round =>
    obtain ⟨k, hk, rfl, HI, rfl⟩ := hrel
    by_cases hlt : k < xs.length
    · have hcell := HC.out k hlt
      have hts : xs.take (k + 1) = xs.take k ++ [xs.getD k 0] := by
        rw [List.take_succ_eq_append_getElem hlt]; simp [hlt]
      have hmem : xs.getD k 0 ∈ xs := by simp [hlt]
      generalize xs.getD k 0 = z at hcell hts hmem
      by_cases h0 : 0 ≤ z ∧ z < 64
      · have h1 := h0.1
        have h2 := h0.2
        have hin : inSet z = true := by unfold inSet; exact decide_eq_true h0
        have HA : Hid ((xs.take (k + 1)).all inSet = true) := by
          unfold Hid; rw [hts, List.all_append, HI.out]; simp [hin]
        have HO : Hid (bits BinOp.or IntKind.u64 (orBits (xs.take k) : Nat) (IntKind.u64.wrap (2 ^ z.toNat)) = ((orBits (xs.take (k + 1)) : Nat) : Int)) := by
          unfold Hid; rw [or_step _ _ (orBits_lt _ HI.out) (by omega), hts, orBits_snoc]
        clear h0 hts hmem hin
        go_wp2_with go_in
        go_round
        case rel => exact ⟨k + 1, by omega, by go_num, HA, by rw [← HO.out]⟩
        case measure => simp [intOf]; omega
      · have H : Hid (ofOut xs = (0, 1)) := by
          unfold Hid ofOut
          rw [if_neg]
          intro ha
          have := List.all_eq_true.1 ha z hmem
          unfold inSet at this
          exact h0 (of_decide_eq_true this)
        clear hts hmem
        have h3 : z < 0 ∨ (0 ≤ z ∧ 64 ≤ z) := by omega
        clear h0
        rcases h3 with h3 | ⟨h3, h4⟩
        all_goals
          have h5 : 0 ≤ z → (!decide (z < 64)) = true := fun _ => by simp; omega
          go_wp2_with go_in
          all_goals (try (rename_i hx; rw [h5 h3] at hx; cases hx))
          go_ret2
          exact ⟨congrArg Ending.returned (congrArg setErr H.out).symm, rfl⟩
    · have H : Hid (ofOut xs = (orBits (xs.take k), 0)) := by
        have hf : xs.take k = xs := List.take_of_length_le (by omega)
        have := HI.out
        unfold Hid ofOut
        rw [hf] at this ⊢
        rw [if_pos this]
      go_wp2_with fail
      go_ret2
      exact ⟨congrArg Ending.returned (congrArg setErr H.out).symm, rfl⟩
theorem of_any (v : Value) (xs : List Int) (w : World) (hx : IntsAt w v xs) (hl : xs.length ≤ 1000) :
    Calls Tryd.prog 12 #[v] w fun e w' => e = .returned (setErr (ofOut xs)) ∧ w' = w := by
  rcases hx with ⟨rfl, ao, c, rfl⟩ | ⟨b, o, c, rfl, hc⟩
  · exact of_none ao c w
  · exact of_some b o c xs w hc hl
set_option maxHeartbeats 1000000 in
theorem refOf_none (ao : Option Addr) (c : Nat) (w : World) :
    Calls Tryd.prog 13 #[.slice ao 0 c] w fun e w' => e = .returned (.tuple #[.int .u64 0, .int .i64 0]) ∧ w' = w := by
  go_enter Tryd.func13, Tryd.ntmps13
  go_wp2_with fail
  go_loop [4, 5] (fun t i => t = .int .u64 0 ∧ i = .int .i64 0) (fun _ _ => 0)
  case atStart => exact ⟨rfl, rfl⟩
  case round =>
    obtain ⟨rfl, rfl⟩ := hrel
    go_wp2_with fail
    go_ret2
    exact ⟨rfl, rfl⟩
set_option maxHeartbeats 1000000 in
theorem refOf_some (b o c : Nat) (xs : List Int) (w : World) (hc : ∀ k, k < xs.length → w.cell? ⟨b, o + k, none⟩ = some (.int .i64 (xs.getD k 0))) (hl : xs.length ≤ 1000) :
    Calls Tryd.prog 13 #[.slice (some ⟨b, o, none⟩) xs.length c] w fun e w' => e = .returned (setNum (ofOut xs)) ∧ w' = w := by
  have HC := hideIt' hc
  clear hc
  go_enter Tryd.func13, Tryd.ntmps13
  go_wp2_with fail
  go_loop [4, 5] (fun t i => ∃ k : Nat, k ≤ xs.length ∧ i = .int .i64 k ∧ Hid ((xs.take k).all inSet = true) ∧ t = .int .u64 (orBits (xs.take k) : Nat)) (fun _ i => xs.length - (intOf i).toNat)
  case atStart => exact ⟨0, by omega, rfl, rfl, rfl⟩
  case round =>
    obtain ⟨k, hk, rfl, HI, rfl⟩ := hrel
    by_cases hlt : k < xs.length
    · have hcell := HC.out k hlt
      have hts : xs.take (k + 1) = xs.take k ++ [xs.getD k 0] := by
        rw [List.take_succ_eq_append_getElem hlt]; simp [hlt]
      have hmem : xs.getD k 0 ∈ xs := by simp [hlt]
      generalize xs.getD k 0 = z at hcell hts hmem
      by_cases h0 : 0 ≤ z ∧ z < 64
      · have h1 := h0.1
        have h2 := h0.2
        have hin : inSet z = true := by unfold inSet; exact decide_eq_true h0
        have HA : Hid ((xs.take (k + 1)).all inSet = true) := by
          unfold Hid; rw [hts, List.all_append, HI.out]; simp [hin]
        have HO : Hid (bits BinOp.or IntKind.u64 (orBits (xs.take k) : Nat) (IntKind.u64.wrap (2 ^ z.toNat)) = ((orBits (xs.take (k + 1)) : Nat) : Int)) := by
          unfold Hid; rw [or_step _ _ (orBits_lt _ HI.out) (by omega), hts, orBits_snoc]
        clear h0 hts hmem hin
        go_wp2_with fail
        go_round
        case rel => exact ⟨k + 1, by omega, by go_num, HA, by rw [← HO.out]⟩
        case measure => simp [intOf]; omega
      · have H : Hid (ofOut xs = (0, 1)) := by
          unfold Hid ofOut
          rw [if_neg]
          intro ha
          have := List.all_eq_true.1 ha z hmem
          unfold inSet at this
          exact h0 (of_decide_eq_true this)
        clear hts hmem
        have h3 : z < 0 ∨ (0 ≤ z ∧ 64 ≤ z) := by omega
        clear h0
        rcases h3 with h3 | ⟨h3, h4⟩
        all_goals
          go_wp2_with fail
          go_ret2
          exact ⟨congrArg Ending.returned (congrArg setNum H.out).symm, rfl⟩
    · have H : Hid (ofOut xs = (orBits (xs.take k), 0)) := by
        have hf : xs.take k = xs := List.take_of_length_le (by omega)
        have := HI.out
        unfold Hid ofOut
        rw [hf] at this ⊢
        rw [if_pos this]
      go_wp2_with fail
      go_ret2
      exact ⟨congrArg Ending.returned (congrArg setNum H.out).symm, rfl⟩
theorem refOf_any (v : Value) (xs : List Int) (w : World) (hx : IntsAt w v xs) (hl : xs.length ≤ 1000) :
    Calls Tryd.prog 13 #[v] w fun e w' => e = .returned (setNum (ofOut xs)) ∧ w' = w := by
  rcases hx with ⟨rfl, ao, c, rfl⟩ | ⟨b, o, c, rfl, hc⟩
  · exact refOf_none ao c w
  · exact refOf_some b o c xs w hc hl
end Go.Proofs.YtfnkmlpgfohjnaaDoor
