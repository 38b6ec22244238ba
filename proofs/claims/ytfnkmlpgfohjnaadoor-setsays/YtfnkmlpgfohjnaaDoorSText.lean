/- What bits.Text answers: the contract. -/
import Derived.Test.YtfnkmlpgfohjnaaDoorSetW2
import Derived.Test.YtfnkmlpgfohjnaaDoorShelf
namespace Go.Proofs.YtfnkmlpgfohjnaaDoor
open Go.RowKit
theorem str_app (a b : List UInt8) : (ByteArray.mk a.toArray) ++ (ByteArray.mk b.toArray) = ByteArray.mk (a ++ b).toArray := by
  apply ByteArray.ext; simp
theorem dd_len (n : Nat) (h : n < 100) : (Lib.decDigits n).length ≤ 2 := by
  by_cases h1 : n < 10
  · rw [Lib.decDigits_one h1]; simp
  · rw [Lib.decDigits_two h1 h]; simp
set_option maxHeartbeats 400000 in
theorem spanText_any (f l : Nat) (w : World) (hf : f < 64) (hl : l < 64) :
    Calls Tryd.prog 36 #[.int .i64 f, .int .i64 l] w fun e w' => e = .returned (.string ⟨(Ost.spanTxt (f, l)).toArray⟩) ∧ w' = w := by
  have l1 := dd_len f (by omega)
  have l2 := dd_len l (by omega)
  by_cases h : f = l
  · subst h
    have H : Hid (Ost.spanTxt (f, f) = Lib.decDigits f) := by simp [Hid, Ost.spanTxt]
    go_enter Tryd.func36, Tryd.ntmps36
    go_wp2_with fail
    refine (Tryd.strconv_Itoa_small f (by omega) _).mono ?_
    rintro e w' ⟨rfl, rfl⟩
    go_wp2_with fail
    go_ret
    exact ⟨by rw [H.out]; rfl, rfl⟩
  · have H : Hid (Ost.spanTxt (f, l) = Lib.decDigits f ++ [45] ++ Lib.decDigits l) := by simp [Hid, Ost.spanTxt, h]
    have h1 : ((f : Int) == (l : Int)) = false := by simp; omega
    clear h
    go_enter Tryd.func36, Tryd.ntmps36
    go_wp2_with fail
    refine (Tryd.strconv_Itoa_small f (by omega) _).mono ?_
    rintro e w' ⟨rfl, rfl⟩
    go_wp2_with fail
    refine (Tryd.strconv_Itoa_small l (by omega) _).mono ?_
    rintro e w' ⟨rfl, rfl⟩
    go_wp2_with fail
    go_ret
    refine ⟨?_, rfl⟩
    rw [H.out]
    show Ending.returned (.string ((ByteArray.mk (Lib.decDigits f).toArray ++ ByteArray.mk [45].toArray) ++ ByteArray.mk (Lib.decDigits l).toArray)) = _
    rw [str_app, str_app]
/-- Has a set this number? -/
def hasB (A : Nat) (z : Int) : Bool := decide (0 ≤ z ∧ z < 64) && A.testBit z.toNat
theorem hasB_nat (A k : Nat) (hA : A < 18446744073709551616) : hasB A (k : Int) = A.testBit k := by
  unfold hasB
  by_cases h : k < 64
  · rw [decide_eq_true (by omega), Int.toNat_natCast]; rfl
  · rw [decide_eq_false (by omega)]
    have : A.testBit k = false := Nat.testBit_lt_two_pow (Nat.lt_of_lt_of_le hA (Nat.pow_le_pow_right (n := 2) (by omega) (show 64 ≤ k by omega)))
    rw [this]; rfl
theorem has_gen (A : Nat) (z : Int) (w : World) (hA : A < 18446744073709551616) :
    Calls Tryd.prog 23 #[.int .u64 A, .int .i64 z] w fun e w' => e = .returned (.bool (hasB A z)) ∧ w' = w := by
  unfold hasB
  by_cases h : 0 ≤ z ∧ z < 64
  · obtain ⟨n, rfl⟩ := Int.eq_ofNat_of_zero_le h.1
    rw [decide_eq_true h, Int.toNat_natCast]
    exact has_in A n w hA (by omega)
  · rw [decide_eq_false h]
    exact has_out A z w (by omega)
theorem has_t (A : Nat) (z : Int) (w : World) (hA : A < 18446744073709551616) (h : hasB A z = true) :
    Calls Tryd.prog 23 #[.int .u64 A, .int .i64 z] w fun e w' => e = .returned (.bool true) ∧ w' = w := by
  have := has_gen A z w hA
  rw [h] at this; exact this
theorem has_f (A : Nat) (z : Int) (w : World) (hA : A < 18446744073709551616) (h : hasB A z = false) :
    Calls Tryd.prog 23 #[.int .u64 A, .int .i64 z] w fun e w' => e = .returned (.bool false) ∧ w' = w := by
  have := has_gen A z w hA
  rw [h] at this; exact this
theorem infoStr : (Tryd.prog.info? 9).map (fun i => (i.zero, i.size, i.bytes)) = some (some (.string ⟨#[]⟩), 1, 16) := by kernel_rfl
def strs (l : List (List UInt8)) : List Value := l.map fun (b : List UInt8) => Value.string ⟨b.toArray⟩
theorem strs_snoc (l : List (List UInt8)) (b : List UInt8) : strs (l ++ [b]) = strs l ++ [.string ⟨b.toArray⟩] := by simp [strs]
theorem strs_oneCell (l : List (List UInt8)) : ∀ u ∈ strs l, u.oneCell' = true := by
  intro u hu
  obtain ⟨_, _, rfl⟩ := List.mem_map.1 hu
  rfl
theorem spansTo_le (A k : Nat) : (Ost.spansTo A k).length ≤ k := by
  induction k with
  | zero => exact Nat.le_refl _
  | succ k ih =>
    unfold Ost.spansTo
    split
    · rw [List.length_append]; simp; omega
    · omega
theorem runStart_le (A k : Nat) : Ost.runStart A k ≤ k := by
  induction k with
  | zero => exact Nat.le_refl _
  | succ k ih => unfold Ost.runStart; split <;> omega
/-- The texts of the runs that end below a bound. -/
def txts (A k : Nat) : List (List UInt8) := (Ost.spansTo A k).map Ost.spanTxt
theorem txts_len (A k : Nat) : (txts A k).length ≤ k := by unfold txts; rw [List.length_map]; exact spansTo_le A k
theorem txts_yes (A k : Nat) (h0 : A.testBit k = true) (h1 : A.testBit (k + 1) = false) : txts A (k + 1) = txts A k ++ [Ost.spanTxt (Ost.runStart A k, k)] := by
  simp [txts, Ost.spansTo, h0, h1]
theorem txts_no (A k : Nat) (h : A.testBit k = false ∨ A.testBit (k + 1) = true) : txts A (k + 1) = txts A k := by
  unfold txts; rw [Ost.spansTo]
  rcases h with h | h <;> simp [h]
set_option maxRecDepth 100000 in
set_option maxHeartbeats 2000000 in
theorem text_loop (A : Nat) (w : World) (hA : A < 18446744073709551616)
    (hJ : Hid (∀ (v : Value) (w1 : World), w1.ownsRow w.heap.size 9 1 v (txts A 64).length (strs (txts A 64)) → Below w.heap.size w w1 →
      Calls Tryd.prog 37 #[v, .string ⟨#[44]⟩] w1 fun e w' => e = .returned (.string ⟨(Lib.join (txts A 64) [44]).toArray⟩) ∧ Below w1.heap.size w1 w')) :
    Calls Tryd.prog 19 #[.int .u64 A] w fun e w' => e = .returned (.string ⟨(Lib.join (txts A 64) [44]).toArray⟩) ∧ Below w.heap.size w w' := by
  obtain ⟨i0, hi, hz0, hz1, hz2⟩ := info_parts infoStr
  go_enter Tryd.func19, Tryd.ntmps19
  go_wp2_with fail
  go_loopw [3, 4, 6] (fun v f i wr => ∃ k fN : Nat, k ≤ 64 ∧ fN ≤ 64 ∧ i = .int .i64 k ∧ f = .int .i64 fN ∧ Hid (∀ j, k = j + 1 → A.testBit j = true → fN = Ost.runStart A j) ∧ wr.ownsRow w.heap.size 9 1 v (txts A k).length (strs (txts A k)) ∧ Below w.heap.size w wr) (fun _ _ i _ => 64 - (intOf i).toNat)
  case atStart => exact ⟨0, 0, by omega, by omega, rfl, rfl, by intro j hj; omega, World.ownsRow_nil _ _ _ _, Below.refl _ _⟩
  case round =>
    obtain ⟨k, fN, hk, hfN, rfl, rfl, HF, hrow, hnx⟩ := hrel
    by_cases hlt : k < 64
    · have hle := txts_len A k
      have hsz := hnx.size
      have e0 := hasB_nat A k hA
      rcases two' (A.testBit k) with hb | hb
      · have H0 : Hid (hasB A (k : Int) = true) := by unfold Hid; rw [e0, hb]
        -- where the run begins
        have HR : Hid ((hasB A ((k : Int) - 1) = true → fN = Ost.runStart A k) ∧ (hasB A ((k : Int) - 1) = false → k = Ost.runStart A k)) := by
          unfold Hid
          cases k with
          | zero => exact ⟨fun h => by simp [hasB] at h, fun _ => rfl⟩
          | succ j =>
            rw [show ((j + 1 : Nat) : Int) - 1 = (j : Int) by omega, hasB_nat A j hA]
            refine ⟨fun h => ?_, fun h => ?_⟩
            · rw [Ost.runStart, if_pos h]; exact HF.out j rfl h
            · rw [Ost.runStart, if_neg (by rw [h]; simp)]
        have e2 := hasB_nat A (k + 1) hA
        rw [show ((k + 1 : Nat) : Int) = (k : Int) + 1 by omega] at e2
        have hrs := runStart_le A k
        rcases two' (hasB A ((k : Int) - 1)) with hp | hp <;> rcases two' (A.testBit (k + 1)) with hq | hq
        · have HP := hideIt' hp
          have HQ : Hid (hasB A ((k : Int) + 1) = true) := by unfold Hid; rw [e2, hq]
          have HFE := hideIt' (HR.out.1 hp)
          have HS := hideIt' (txts_no A k (.inr hq))
          clear hp hq hb e0 e2
          go_wp2_with fail
          refine (has_t A _ _ hA H0.out).mono ?_; rintro e w' ⟨rfl, rfl⟩
          go_wp2_with fail
          refine (has_t A _ _ hA HP.out).mono ?_; rintro e w' ⟨rfl, rfl⟩
          go_wp2_with fail
          refine (has_t A _ _ hA HQ.out).mono ?_; rintro e w' ⟨rfl, rfl⟩
          go_wp2_with fail
          go_roundw
          case rel => exact ⟨k + 1, fN, by omega, by omega, by go_num, rfl, fun j hj _ => (show k = j by omega) ▸ HFE.out, by rw [HS.out]; exact hrow, hnx⟩
          case measure => simp [intOf]; omega
        · have HP := hideIt' hp
          have HQ : Hid (hasB A ((k : Int) + 1) = false) := by unfold Hid; rw [e2, hq]
          have HFE := hideIt' (HR.out.1 hp)
          have HS : Hid (txts A (k + 1) = txts A k ++ [Ost.spanTxt (fN, k)]) := by
            unfold Hid; rw [txts_yes A k hb hq, ← HFE.out]
          have hf64 : fN < 64 := by have := HFE.out; omega
          clear hp hq hb e0 e2
          go_wp2_with fail
          refine (has_t A _ _ hA H0.out).mono ?_; rintro e w' ⟨rfl, rfl⟩
          go_wp2_with fail
          refine (has_t A _ _ hA HP.out).mono ?_; rintro e w' ⟨rfl, rfl⟩
          go_wp2_with fail
          refine (has_f A _ _ hA HQ.out).mono ?_; rintro e w' ⟨rfl, rfl⟩
          go_wp2_with fail
          refine (spanText_any fN k _ hf64 hlt).mono ?_; rintro e w' ⟨rfl, rfl⟩
          go_wp2_with (at_builtin; refine wpList_append_own _ rfl _ _ 59 rfl w.heap.size 9 i0 (.string ⟨#[]⟩) 1 16 Tryd.underlying59 hi hz0 hz1 hz2 rfl (by decide) _ _ _ rfl (hrow.alloc _) ⟨_, 0, none⟩ 1 1 [.string ⟨(Ost.spanTxt (fN, k)).toArray⟩] rfl rfl (cell_one_new _ _ _) (strs_oneCell [Ost.spanTxt (fN, k)]) (by unfold maxLen; omega) (by omega) (by simp; omega) ?_; intro v' w1 hown' hgrow' _)
          go_roundw
          case rel =>
            refine ⟨k + 1, fN, by omega, by omega, by go_num, rfl, ?_, ?_, ?_⟩
            · intro j hj _
              obtain rfl : k = j := by omega
              exact HFE.out
            · rw [HS.out, strs_snoc, List.length_append]; exact hown'
            · exact (hnx.alloc hsz _).grown hgrow' (by simp; omega) (fun j hj => (hrow.lt j hj).1)
          case measure => simp [intOf]; omega
        · have HP := hideIt' hp
          have HQ : Hid (hasB A ((k : Int) + 1) = true) := by unfold Hid; rw [e2, hq]
          have HFE := hideIt' (HR.out.2 hp)
          have HS := hideIt' (txts_no A k (.inr hq))
          clear hp hq hb e0 e2
          go_wp2_with fail
          refine (has_t A _ _ hA H0.out).mono ?_; rintro e w' ⟨rfl, rfl⟩
          go_wp2_with fail
          refine (has_f A _ _ hA HP.out).mono ?_; rintro e w' ⟨rfl, rfl⟩
          go_wp2_with fail
          refine (has_t A _ _ hA HQ.out).mono ?_; rintro e w' ⟨rfl, rfl⟩
          go_wp2_with fail
          go_roundw
          case rel => exact ⟨k + 1, k, by omega, by omega, by go_num, rfl, fun j hj _ => (show k = j by omega) ▸ HFE.out, by rw [HS.out]; exact hrow, hnx⟩
          case measure => simp [intOf]; omega
        · have HP := hideIt' hp
          have HQ : Hid (hasB A ((k : Int) + 1) = false) := by unfold Hid; rw [e2, hq]
          have HFE := hideIt' (HR.out.2 hp)
          have HS : Hid (txts A (k + 1) = txts A k ++ [Ost.spanTxt (k, k)]) := by
            unfold Hid; rw [txts_yes A k hb hq, ← HFE.out]
          have hf64 : k < 64 := by have := HFE.out; omega
          clear hp hq hb e0 e2
          go_wp2_with fail
          refine (has_t A _ _ hA H0.out).mono ?_; rintro e w' ⟨rfl, rfl⟩
          go_wp2_with fail
          refine (has_f A _ _ hA HP.out).mono ?_; rintro e w' ⟨rfl, rfl⟩
          go_wp2_with fail
          refine (has_f A _ _ hA HQ.out).mono ?_; rintro e w' ⟨rfl, rfl⟩
          go_wp2_with fail
          refine (spanText_any k k _ hf64 hlt).mono ?_; rintro e w' ⟨rfl, rfl⟩
          go_wp2_with (at_builtin; refine wpList_append_own _ rfl _ _ 59 rfl w.heap.size 9 i0 (.string ⟨#[]⟩) 1 16 Tryd.underlying59 hi hz0 hz1 hz2 rfl (by decide) _ _ _ rfl (hrow.alloc _) ⟨_, 0, none⟩ 1 1 [.string ⟨(Ost.spanTxt (k, k)).toArray⟩] rfl rfl (cell_one_new _ _ _) (strs_oneCell [Ost.spanTxt (k, k)]) (by unfold maxLen; omega) (by omega) (by simp; omega) ?_; intro v' w1 hown' hgrow' _)
          go_roundw
          case rel =>
            refine ⟨k + 1, k, by omega, by omega, by go_num, rfl, ?_, ?_, ?_⟩
            · intro j hj _
              obtain rfl : k = j := by omega
              exact HFE.out
            · rw [HS.out, strs_snoc, List.length_append]; exact hown'
            · exact (hnx.alloc hsz _).grown hgrow' (by simp; omega) (fun j hj => (hrow.lt j hj).1)
          case measure => simp [intOf]; omega
      · have H0 : Hid (hasB A (k : Int) = false) := by unfold Hid; rw [e0, hb]
        have HS := hideIt' (txts_no A k (.inl hb))
        have HB := hideIt' hb
        clear hb e0
        go_wp2_with fail
        refine (has_f A _ _ hA H0.out).mono ?_; rintro e w' ⟨rfl, rfl⟩
        go_wp2_with fail
        go_roundw
        case rel =>
          refine ⟨k + 1, fN, by omega, hfN, by go_num, rfl, ?_, by rw [HS.out]; exact hrow, hnx⟩
          intro j hj hb
          obtain rfl : k = j := by omega
          rw [HB.out] at hb; cases hb
        case measure => simp [intOf]; omega
    · have hk64 : k = 64 := by omega
      subst hk64
      clear hk hlt
      go_wp2_with fail
      refine (hJ.out _ _ hrow hnx).mono ?_
      rintro e w2 ⟨rfl, hb2⟩
      go_wp2_with fail
      go_ret
      exact ⟨rfl, hnx.trans (hb2.mono hnx.size)⟩
theorem ownsRow_cells {w : World} {base : Nat} {e : TypeId} {v : Value} {n : Nat} {xs : List Value} (h : w.ownsRow base e 1 v n xs) :
    (v = .slice none 0 0 ∧ n = 0) ∨ ∃ g cap, v = .slice (some ⟨g, 0, none⟩) n cap ∧ n ≤ cap ∧ g < w.heap.size ∧ ∀ j x, xs[j]? = some x → w.cell? ⟨g, j, none⟩ = some x := by
  obtain ⟨hl, h⟩ := h
  rcases h with ⟨rfl, rfl⟩ | ⟨g, cap, cur, rfl, hb, hh, hn, hc, hs, ht⟩
  · exact .inl ⟨rfl, rfl⟩
  · refine .inr ⟨g, cap, rfl, hn, (Array.getElem?_eq_some_iff.1 hh).1, fun j x hx => ?_⟩
    have hj : j < n * 1 := by rw [← hl]; exact (List.getElem?_eq_some_iff.1 hx).1
    rw [← ht, List.getElem?_take, if_pos hj] at hx
    simp only [World.cell?, hh]
    simpa using hx
/-- strings.Join over a row of the call's own. -/
theorem join_own (v : Value) (xs : List (List UInt8)) (w : World) (base : Nat) (h : w.ownsRow base 9 1 v xs.length (strs xs)) (hn : xs.length ≤ 100) (hl : (Lib.join xs [44]).length ≤ 100000) :
    Calls Tryd.prog 37 #[v, .string ⟨#[44]⟩] w fun e w' => e = .returned (.string ⟨(Lib.join xs [44]).toArray⟩) ∧ Below w.heap.size w w' := by
  rcases ownsRow_cells h with ⟨rfl, h0⟩ | ⟨g, cap, rfl, hc, hg, hcell⟩
  · have : xs = [] := List.eq_nil_of_length_eq_zero h0
    subst this
    refine (Tryd.strings_Join_none none 0 ⟨#[44]⟩ w).mono ?_
    rintro e w' ⟨rfl, rfl⟩
    exact ⟨rfl, Below.refl _ _⟩
  · have hx : (xs.map fun (b : List UInt8) => ByteArray.mk b.toArray).map (·.data.toList) = xs := by
      rw [List.map_map]; exact List.map_id'' (fun _ => rfl) xs
    have := Tryd.strings_Join g 0 cap (xs.map fun (b : List UInt8) => ByteArray.mk b.toArray) ⟨#[44]⟩ w (fun j x hj => by
      rw [Nat.zero_add]
      apply hcell
      unfold strs
      rw [List.getElem?_map] at hj ⊢
      obtain ⟨a, ha, rfl⟩ := Option.map_eq_some_iff.1 hj
      rw [ha]; rfl) hg (by simp; omega) (by simpa using hc) (by rw [hx]; show (Lib.join xs [44]).length ≤ _; omega)
    rw [hx] at this
    simpa using this
end Go.Proofs.YtfnkmlpgfohjnaaDoor
