/- What Nodes, together, over, on, masksOf answer: contracts. -/
import Derived.Test.YtlpogejkmigimaaTBase
import Derived.Test.YtlpogejkmigimaaHMath
import Derived.Test.YtlpogejkmigimaaTCnt2
namespace Go.Proofs.Ytlpogejkmigimaa
open Go.RowKit
open Ost (N4 sumTo sumOn Sm pop8 isSub masksTo)
abbrev v4 (q : N4) : Value := .agg #[.int .i64 q.a, .int .i64 q.b, .int .i64 q.c, .int .i64 q.d]
theorem byte_at (t : ByteArray) (m : Nat) (h : m < t.size) : t[m] = t.data.toList.getD m 0 := by
  have h2 : m < t.data.toList.length := by simpa using h
  rw [List.getD_eq_getElem?_getD, List.getElem?_eq_getElem h2]
  simp
  rfl
def tabL : List UInt8 := Lib.pop8tab.data.toList
set_option maxRecDepth 100000 in
theorem tab8 : ∀ m : Fin 256, (tabL.getD m.val 0).toNat = pop8 m.val := by decide +kernel
theorem tab_at (m : Nat) (h : m < Lib.pop8tab.size) (hm : m < 256) : wrap64 (((Lib.pop8tab[m]'h).toNat : Nat) : Int) = (pop8 m : Nat) := by
  rw [byte_at Lib.pop8tab m h]
  have e := tab8 ⟨m, hm⟩
  unfold tabL at e
  rw [e]
  have := Ost.pop8_le m
  show wrap64 ((pop8 m : Nat) : Int) = _
  unfold wrap64
  omega
set_option maxRecDepth 100000 in
set_option maxHeartbeats 1000000 in
theorem ones8_any (m : Nat) (w : World) (hm : m < 256) :
    Calls Try.prog 51 #[.int .u8 m] w fun e w' => e = .returned (.int .i64 (pop8 m : Nat)) ∧ w' = w := by
  go_enter Try.func51, Try.ntmps51
  go_wp2_with fail
  rename_i hsz
  go_ret
  exact ⟨congrArg (fun z => Ending.returned (.int .i64 z)) (tab_at m hsz hm), rfl⟩
set_option maxHeartbeats 400000 in
theorem nodesH_any (m : Nat) (w : World) (hm : m < 256) :
    Calls Try.prog 30 #[.int .u8 m] w fun e w' => e = .returned (.int .i64 (pop8 m : Nat)) ∧ w' = w := by
  go_enter Try.func30, Try.ntmps30
  go_wp2_with fail
  refine (ones8_any m _ hm).mono ?_
  rintro e w' ⟨rfl, rfl⟩
  go_wp2_with fail
  go_ret
  exact ⟨rfl, rfl⟩
theorem index4 (q : N4) (w : World) : ∀ k : Nat, k < 4 → (Instr.index 45 (v4 q) (.int .i64 k)).run Try.prog w = .ok (.int .i64 (q.get k)) w := by
  intro k hk
  obtain ⟨x, hx, hxe⟩ := four_index q.a q.b q.c q.d w k hk
  rw [hx, hxe]
  have : k = 0 ∨ k = 1 ∨ k = 2 ∨ k = 3 := by omega
  rcases this with rfl | rfl | rfl | rfl <;> rfl
set_option maxRecDepth 100000 in
set_option maxHeartbeats 1000000 in
theorem together_any (q : N4) (m : Nat) (w : World) (hm : m < 256) (hq : Sm q) :
    Calls Try.prog 48 #[v4 q, .int .u8 m] w fun e w' => e = .returned (.int .i64 (sumOn q m)) ∧ Below w.heap.size w w' := by
  have HB := hideIt ((Below.refl w.heap.size w).alloc (Nat.le_refl _) (.cells #[.int .i64 q.a, .int .i64 q.b, .int .i64 q.c, .int .i64 q.d] 45))
  have HX := hideIt (index4 q (w.alloc (.cells #[.int .i64 q.a, .int .i64 q.b, .int .i64 q.c, .int .i64 q.d] 45)))
  have HQ := hideIt hq
  clear hq
  unfold v4 at *
  go_enter Try.func48, Try.ntmps48
  go_wp2_with fail
  go_loop [5, 9] (fun t i => ∃ k : Nat, k ≤ 4 ∧ i = .int .i64 k ∧ t = .int .i64 (sumTo q m k)) (fun _ i => 4 - (intOf i).toNat)
  case atStart => exact ⟨0, by omega, rfl, rfl⟩
  case round =>
    obtain ⟨k, hk, rfl, rfl⟩ := hrel
    by_cases hlt : k < 4
    · have hx := HX.out k hlt
      have hb8 := bit8 m k hm
      have HY := hideIt (fun h => Ost.sumTo_yes (q := q) (m := m) (k := k) h)
      have HN := hideIt (fun h => Ost.sumTo_no (q := q) (m := m) (k := k) h)
      obtain ⟨s1, s2⟩ := Ost.sumTo_bound HQ.out m k
      obtain ⟨t1, t2⟩ := HQ.out k
      generalize q.get k = x at *
      rcases two (m.testBit k) with hb | hb
      · rw [hb] at hb8
        have HO := hideIt (HY.out hb)
        clear hb
        go_wp2_with fail
        go_round
        case rel => exact ⟨k + 1, by omega, by go_num, by rw [HO.out]⟩
        case measure => simp [intOf]; omega
      · rw [hb] at hb8
        have HO := hideIt (HN.out hb)
        clear hb
        go_wp2_with fail
        go_round
        case rel => exact ⟨k + 1, by omega, by go_num, by rw [HO.out]⟩
        case measure => simp [intOf]; omega
    · have hk4 : k = 4 := by omega
      subst hk4
      clear hk hlt
      go_wp2_with fail
      go_ret
      exact ⟨rfl, HB.out⟩
end Go.Proofs.Ytlpogejkmigimaa
