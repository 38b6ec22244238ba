/- Whether there is a device; is it used; it is sick: contracts. -/
import Derived.Test.YthekalhceamcoaaDPool
namespace Go.Proofs.Ythekalhceamcoaa
open Go.RowKit
open Dvs (Dv dv0 dv nth)
def inBd (n : Int) (k : Nat) : Bool := decide (0 ≤ n) && decide (n < (k : Int))
set_option maxHeartbeats 400000 in
theorem has_any (n : Int) (w : World) (pb db : Nat) (ao : Option Addr) (c : Nat) (ds : List Dv) (us : Nat → Bool) (h : PoolAt w pb db ao c ds us) :
    Calls Try.prog 97 #[.pointer (some ⟨pb, 0, none⟩), .int .i64 n] w fun e w' => e = .returned (.bool (inBd n ds.length)) ∧ w' = w := by
  have hr := h.row
  clear h
  unfold inBd
  generalize ds.length = m at *
  by_cases h1 : 0 ≤ n
  all_goals by_cases h2 : n < m
  all_goals
    go_enter Try.func97, Try.ntmps97
    go_wp2_with fail
    go_ret
    refine ⟨?_, rfl⟩
    simp [h1, h2]
set_option maxHeartbeats 400000 in
theorem is_any (n : Int) (w : World) (pb db : Nat) (ao : Option Addr) (c : Nat) (ds : List Dv) (us : Nat → Bool) (h : PoolAt w pb db ao c ds us) :
    Calls Try.prog 35 #[.pointer (some ⟨pb, 0, none⟩), .int .i64 n] w fun e w' => e = .returned (.int .i64 (if inBd n ds.length = true then 0 else 1)) ∧ w' = w := by
  have hr := h.row
  clear h
  unfold inBd
  generalize ds.length = m at *
  have key : n < 0 ∨ (0 ≤ n ∧ n < m) ∨ (0 ≤ n ∧ m ≤ n) := by omega
  rcases key with h1 | ⟨h1, h2⟩ | ⟨h1, h2⟩
  · rw [decide_eq_false (by omega : ¬ 0 ≤ n)]
    go_enter Try.func35, Try.ntmps35
    go_wp2_with fail
    go_ret
    exact ⟨rfl, rfl⟩
  · rw [decide_eq_true h1, decide_eq_true h2]
    go_enter Try.func35, Try.ntmps35
    go_wp2_with fail
    go_ret
    exact ⟨rfl, rfl⟩
  · rw [decide_eq_false (by omega : ¬ n < m), Bool.and_false]
    go_enter Try.func35, Try.ntmps35
    go_wp2_with fail
    go_ret
    exact ⟨rfl, rfl⟩
set_option maxHeartbeats 400000 in
theorem used_any (n : Int) (w : World) (pb db : Nat) (ao : Option Addr) (c : Nat) (ds : List Dv) (us : Nat → Bool) (h : PoolAt w pb db ao c ds us) (h16 : ds.length ≤ 16) :
    Calls Try.prog 42 #[.pointer (some ⟨pb, 0, none⟩), .int .i64 n] w fun e w' => e = .returned (if inBd n ds.length = true then .tuple #[.bool (us n.toNat), .nilIface] else .tuple #[.bool false, .iface 133 (.int .i64 1)]) ∧ w' = w := by
  have HH := hideIt (has_any n w pb db ao c ds us h)
  have HP := hideIt h
  clear h
  rcases two (inBd n ds.length) with hb | hb
  · rw [if_pos hb]
    have hb2 := hb
    simp [inBd] at hb2
    obtain ⟨m, rfl⟩ := Int.eq_ofNat_of_zero_le hb2.1
    have hm : m < 16 := by omega
    have hu := (HP.out.used m hm).1
    rw [hb] at HH
    clear hb hb2
    simp only [Int.toNat_natCast]
    go_enter Try.func42, Try.ntmps42
    go_wp2_with fail
    refine HH.out.mono ?_
    rintro e w1 ⟨rfl, rfl⟩
    go_wp2_with fail
    go_ret2
    exact ⟨rfl, rfl⟩
  · rw [if_neg (by rw [hb]; simp)]
    rw [hb] at HH
    clear hb
    go_enter Try.func42, Try.ntmps42
    go_wp2_with fail
    refine HH.out.mono ?_
    rintro e w1 ⟨rfl, rfl⟩
    go_wp2_with fail
    go_ret2
    exact ⟨rfl, rfl⟩
set_option maxHeartbeats 400000 in
theorem sick_no (n : Int) (on : Bool) (w : World) (pb db : Nat) (ao : Option Addr) (c : Nat) (ds : List Dv) (us : Nat → Bool) (h : PoolAt w pb db ao c ds us) (hb : inBd n ds.length = false) :
    Calls Try.prog 36 #[.pointer (some ⟨pb, 0, none⟩), .int .i64 n, .bool on] w fun e w' => e = .returned (.iface 133 (.int .i64 1)) ∧ w' = w := by
  have HH := hideIt (has_any n w pb db ao c ds us h)
  rw [hb] at HH
  clear hb h
  go_enter Try.func36, Try.ntmps36
  go_wp2_with fail
  refine HH.out.mono ?_
  rintro e w1 ⟨rfl, rfl⟩
  go_wp2_with fail
  go_ret
  exact ⟨rfl, rfl⟩
set_option maxHeartbeats 400000 in
theorem sick_yes (n : Nat) (on : Bool) (w : World) (pb db : Nat) (ao : Option Addr) (c : Nat) (ds : List Dv) (us : Nat → Bool) (h : PoolAt w pb db ao c ds us) (hn : n < ds.length) :
    Calls Try.prog 36 #[.pointer (some ⟨pb, 0, none⟩), .int .i64 n, .bool on] w fun e w' => e = .returned .nilIface ∧ w' = w.setCell ⟨db, n * 3 + 2, none⟩ (.bool on) := by
  have HH := hideIt (has_any n w pb db ao c ds us h)
  have hb : inBd n ds.length = true := by simp [inBd]; omega
  rw [hb] at HH
  obtain ⟨rfl, _, _⟩ := h.at0 (by omega)
  have hr := h.row
  obtain ⟨_, _, c2, c3⟩ := h.cells n hn
  clear hb h
  go_enter Try.func36, Try.ntmps36
  go_wp2_with fail
  refine HH.out.mono ?_
  rintro e w1 ⟨rfl, rfl⟩
  go_wp2_with fail
  go_ret
  exact ⟨rfl, rfl⟩
end Go.Proofs.Ythekalhceamcoaa
