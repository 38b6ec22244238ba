/- What bits.Parse answers: the contract. -/
import Derived.Test.YtfnkmlpgfohjnaaDoorSMath2
import Derived.Test.YtfnkmlpgfohjnaaDoorSetW2
import Derived.Test.YtfnkmlpgfohjnaaDoorAmt
import Derived.Lib.CountLaws
import Derived.Lib.Split
namespace Go.Proofs.YtfnkmlpgfohjnaaDoor
open Go.RowKit
namespace Ost
theorem cut1_true (c : UInt8) (l : List UInt8) (h : (cut1 c l).2.2 = true) : l = (cut1 c l).1 ++ c :: (cut1 c l).2.1 ∧ c ∉ (cut1 c l).1 := by
  induction l with
  | nil => simp [cut1] at h
  | cons b r ih =>
    unfold cut1 at h ⊢
    by_cases e : b = c
    · simp [e]
    · rw [if_neg e] at h ⊢
      obtain ⟨h1, h2⟩ := ih h
      refine ⟨?_, ?_⟩
      · simp only [List.cons_append]; rw [← h1]
      · simp; exact ⟨fun x => e x.symm, h2⟩
theorem cut1_false (c : UInt8) (l : List UInt8) (h : (cut1 c l).2.2 = false) : c ∉ l := by
  induction l with
  | nil => simp
  | cons b r ih =>
    unfold cut1 at h
    by_cases e : b = c
    · rw [if_pos e] at h; cases h
    · rw [if_neg e] at h
      simp; exact ⟨fun x => e x.symm, ih h⟩
theorem splitK_C (c : UInt8) : ∀ (n : Nat) (l : List UInt8), l.length ≤ n → Lib.splitK [c] 0 (Lib.count l [c]) l = splitC c l := by
  intro n
  induction n with
  | zero =>
    intro l hl
    have : l = [] := List.eq_nil_of_length_eq_zero (by omega)
    subst this; rfl
  | succ n ih =>
    intro l hl
    rcases cut1_index c l with ⟨h1, h2⟩ | ⟨i, h1, h2⟩
    · rw [Lib.count_miss h1, splitC_none c l (cut1_false c l (by rw [h2]))]; rfl
    · have ht := cut1_true c l (by rw [h2])
      rw [h2] at ht
      simp only at ht
      have hlen := congrArg List.length ht.1
      simp at hlen
      rw [Lib.count_hit (by simp) h1, Nat.add_comm, Lib.splitK, if_neg (by rw [h1]; simp), h1]
      simp only [Int.toNat_natCast, List.length_cons, List.length_nil, Nat.zero_add, Nat.add_zero]
      rw [ih _ (by rw [List.length_drop]; omega)]
      conv => rhs; rw [ht.1]
      rw [splitC_cut c _ _ ht.2]
end Ost
theorem split_data (s : ByteArray) : (Lib.splitB ⟨#[44]⟩ 0 (Lib.countB s ⟨#[44]⟩) s).map (·.data.toList) = Ost.splitC 44 s.data.toList := by
  rw [Lib.splitB_data]
  exact Ost.splitK_C 44 _ _ (Nat.le_refl _)
theorem mk_data (s : ByteArray) : ByteArray.mk s.data.toList.toArray = s := by cases s; rfl
theorem split_cells (s : ByteArray) : (Lib.splitB ⟨#[44]⟩ 0 (Lib.countB s ⟨#[44]⟩) s).map Value.string = (Ost.splitC 44 s.data.toList).map fun (b : List UInt8) => Value.string ⟨b.toArray⟩ := by
  rw [← split_data, List.map_map]
  apply List.map_congr_left
  intro x _
  show Value.string x = Value.string ⟨x.data.toList.toArray⟩
  rw [mk_data]
theorem splitB_len (s : ByteArray) : ∀ n, s.size ≤ n → (Lib.splitB ⟨#[44]⟩ 0 (Lib.countB s ⟨#[44]⟩) s).length = Lib.countB s ⟨#[44]⟩ + 1 := by
  intro n
  induction n generalizing s with
  | zero =>
    intro h
    rcases Lib.indexB_cases s ⟨#[44]⟩ with h1 | ⟨i, h1, h2⟩
    · rw [Lib.countB_miss s _ h1]; rfl
    · exfalso; have : (ByteArray.mk #[44]).size = 1 := rfl; omega
  | succ n ih =>
    intro h
    rcases Lib.indexB_cases s ⟨#[44]⟩ with h1 | ⟨i, h1, h2⟩
    · rw [Lib.countB_miss s _ h1]; rfl
    · have e1 : (ByteArray.mk #[44]).size = 1 := rfl
      rw [Lib.countB_hit s _ i (by omega) h1, Nat.add_comm 1, Lib.splitB_hit _ 0 _ s i h1, List.length_cons, ih _ (by rw [ByteArray.size_extract]; omega)]
theorem split_any (s : ByteArray) (w : World) (hs : s.size < 4294967281) (hm : Mx w) :
    Calls Tryd.prog 39 #[.string s, .string ⟨#[44]⟩] w fun e w' =>
      e = .returned (.slice (some ⟨w.heap.size, 0, none⟩) (Ost.splitC 44 s.data.toList).length (Ost.splitC 44 s.data.toList).length) ∧ w' = w.alloc (.cells ((Ost.splitC 44 s.data.toList).map fun (b : List UInt8) => Value.string ⟨b.toArray⟩).toArray 9) := by
  obtain ⟨m, hm⟩ := hm
  have := Tryd.strings_Split s ⟨#[44]⟩ m w hs hm (by decide)
  have hl : Lib.countB s ⟨#[44]⟩ + 1 = (Ost.splitC 44 s.data.toList).length := by
    rw [← split_data, List.length_map, splitB_len s _ (Nat.le_refl _)]
  rw [split_cells, hl] at this
  exact this
set_option maxHeartbeats 1000000 in
theorem readSpan_yes (s : ByteArray) (f l : Int) (w : World) (hs : s.size < 4294967281) (hm : Mx w) (h : Ost.spanOf s.data.toList = some (f, l)) :
    Calls Tryd.prog 40 #[.string s] w fun e w' => e = .returned (.tuple #[.int .i64 f, .int .i64 l, .bool true]) ∧ ∃ n, w' = w.drewN n := by
  have HL : Hid (s.data.toList.length = s.size) := by unfold Hid; simp
  have hle := cut1_le 45 s.data.toList
  have HS1 : (ByteArray.mk (Ost.cut1 45 s.data.toList).1.toArray).size ≤ maxLen := by
    have := hle.1; rw [HL.out] at this; show (Ost.cut1 45 s.data.toList).1.toArray.size ≤ _; unfold maxLen; simp; omega
  have HS2 : (ByteArray.mk (Ost.cut1 45 s.data.toList).2.1.toArray).size ≤ maxLen := by
    have := hle.2; rw [HL.out] at this; show (Ost.cut1 45 s.data.toList).2.1.toArray.size ≤ _; unfold maxLen; simp; omega
  clear hle
  unfold Ost.spanOf at h
  rcases two' (Ost.cut1 45 s.data.toList).2.2 with hf | hf
  · rw [if_pos hf] at h
    split at h
    · rename_i hg
      rw [Bool.and_eq_true, Bool.and_eq_true, decide_eq_true_eq] at hg
      obtain ⟨⟨g1, g2⟩, hv⟩ := hg
      simp only [Option.some.injEq, Prod.mk.injEq] at h
      obtain ⟨rfl, rfl⟩ := h
      go_enter Tryd.func40, Tryd.ntmps40
      go_wp2_with fail
      refine (cut_yes s 45 _ hs hm hf).mono ?_; rintro e w' ⟨rfl, n, rfl⟩
      go_wp2_with fail
      refine (read_yes _ 19 _ HS1 g1).mono ?_; rintro e w' ⟨rfl, rfl⟩
      go_wp2_with fail
      refine (read_yes _ 19 _ HS2 g2).mono ?_; rintro e w' ⟨rfl, rfl⟩
      go_wp2_with fail
      go_ret3
      exact ⟨rfl, n, rfl⟩
    · cases h
  · rw [if_neg (by rw [hf]; simp)] at h
    split at h
    · rename_i g1
      simp only [Option.some.injEq, Prod.mk.injEq] at h
      obtain ⟨rfl, rfl⟩ := h
      go_enter Tryd.func40, Tryd.ntmps40
      go_wp2_with fail
      refine (cut_no s 45 _ hs hm hf).mono ?_; rintro e w' ⟨rfl, n, rfl⟩
      go_wp2_with fail
      refine (read_yes _ 19 _ HS1 g1).mono ?_; rintro e w' ⟨rfl, rfl⟩
      go_wp2_with fail
      go_ret3
      exact ⟨rfl, n, rfl⟩
    · cases h
set_option maxHeartbeats 2000000 in
theorem readSpan_no (s : ByteArray) (w : World) (hs : s.size < 4294967281) (hm : Mx w) (h : Ost.spanOf s.data.toList = none) :
    Calls Tryd.prog 40 #[.string s] w fun e w' => (∃ a b, e = .returned (.tuple #[.int .i64 a, .int .i64 b, .bool false])) ∧ ∃ n, w' = w.drewN n := by
  have HL : Hid (s.data.toList.length = s.size) := by unfold Hid; simp
  have hle := cut1_le 45 s.data.toList
  have HS1 : (ByteArray.mk (Ost.cut1 45 s.data.toList).1.toArray).size ≤ maxLen := by
    have := hle.1; rw [HL.out] at this; show (Ost.cut1 45 s.data.toList).1.toArray.size ≤ _; unfold maxLen; simp; omega
  have HS2 : (ByteArray.mk (Ost.cut1 45 s.data.toList).2.1.toArray).size ≤ maxLen := by
    have := hle.2; rw [HL.out] at this; show (Ost.cut1 45 s.data.toList).2.1.toArray.size ≤ _; unfold maxLen; simp; omega
  clear hle
  unfold Ost.spanOf at h
  rcases two' (Ost.cut1 45 s.data.toList).2.2 with hf | hf
  · rw [if_pos hf] at h
    split at h
    · cases h
    · rename_i hg
      clear h
      rcases two' (Ost.good 19 (Ost.cut1 45 s.data.toList).1) with g1 | g1
      · rcases two' (Ost.good 19 (Ost.cut1 45 s.data.toList).2.1) with g2 | g2
        · have hv : ¬ Ost.val (Ost.cut1 45 s.data.toList).1 ≤ Ost.val (Ost.cut1 45 s.data.toList).2.1 := by
            intro hv; rw [g1, g2, decide_eq_true hv] at hg; exact hg rfl
          have hv2 : decide (Ost.val (Ost.cut1 45 s.data.toList).1 ≤ Ost.val (Ost.cut1 45 s.data.toList).2.1) = false := decide_eq_false hv
          clear hg hv
          go_enter Tryd.func40, Tryd.ntmps40
          go_wp2_with fail
          refine (cut_yes s 45 _ hs hm hf).mono ?_; rintro e w' ⟨rfl, n, rfl⟩
          go_wp2_with fail
          refine (read_yes _ 19 _ HS1 g1).mono ?_; rintro e w' ⟨rfl, rfl⟩
          go_wp2_with fail
          refine (read_yes _ 19 _ HS2 g2).mono ?_; rintro e w' ⟨rfl, rfl⟩
          go_wp2_with fail
          go_ret3
          exact ⟨⟨_, _, rfl⟩, n, rfl⟩
        · clear hg
          go_enter Tryd.func40, Tryd.ntmps40
          go_wp2_with fail
          refine (cut_yes s 45 _ hs hm hf).mono ?_; rintro e w' ⟨rfl, n, rfl⟩
          go_wp2_with fail
          refine (read_yes _ 19 _ HS1 g1).mono ?_; rintro e w' ⟨rfl, rfl⟩
          go_wp2_with fail
          refine (read_no _ 19 _ HS2 g2).mono ?_; rintro e w' ⟨rfl, rfl⟩
          go_wp2_with fail
          go_ret3
          exact ⟨⟨_, _, rfl⟩, n, rfl⟩
      · clear hg
        rcases two' (Ost.good 19 (Ost.cut1 45 s.data.toList).2.1) with g2 | g2
        · skip
          go_enter Tryd.func40, Tryd.ntmps40
          go_wp2_with fail
          refine (cut_yes s 45 _ hs hm hf).mono ?_; rintro e w' ⟨rfl, n, rfl⟩
          go_wp2_with fail
          refine (read_no _ 19 _ HS1 g1).mono ?_; rintro e w' ⟨rfl, rfl⟩
          go_wp2_with fail
          refine (read_yes _ 19 _ HS2 g2).mono ?_; rintro e w' ⟨rfl, rfl⟩
          go_wp2_with fail
          go_ret3
          exact ⟨⟨_, _, rfl⟩, n, rfl⟩
        · skip
          go_enter Tryd.func40, Tryd.ntmps40
          go_wp2_with fail
          refine (cut_yes s 45 _ hs hm hf).mono ?_; rintro e w' ⟨rfl, n, rfl⟩
          go_wp2_with fail
          refine (read_no _ 19 _ HS1 g1).mono ?_; rintro e w' ⟨rfl, rfl⟩
          go_wp2_with fail
          refine (read_no _ 19 _ HS2 g2).mono ?_; rintro e w' ⟨rfl, rfl⟩
          go_wp2_with fail
          go_ret3
          exact ⟨⟨_, _, rfl⟩, n, rfl⟩
  · rw [if_neg (by rw [hf]; simp)] at h
    split at h
    · cases h
    · rename_i g0
      clear h
      have g1 : Ost.good 19 (Ost.cut1 45 s.data.toList).1 = false := by simpa using g0
      clear g0
      go_enter Tryd.func40, Tryd.ntmps40
      go_wp2_with fail
      refine (cut_no s 45 _ hs hm hf).mono ?_; rintro e w' ⟨rfl, n, rfl⟩
      go_wp2_with fail
      refine (read_no _ 19 _ HS1 g1).mono ?_; rintro e w' ⟨rfl, rfl⟩
      go_wp2_with fail
      go_ret3
      exact ⟨⟨_, _, rfl⟩, n, rfl⟩
end Go.Proofs.YtfnkmlpgfohjnaaDoor
