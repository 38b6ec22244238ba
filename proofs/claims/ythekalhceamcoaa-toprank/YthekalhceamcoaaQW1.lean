/- What is wrong with a pod: contracts of package qos. -/
import Derived.Test.YthekalhceamcoaaQEnv
import Derived.Test.YthekalhceamcoaaDW1
namespace Go.Proofs.Ythekalhceamcoaa
open Go.RowKit
open Qos (Nd Ct Pd nd0 ct0 pd0 nd ct pd needF contF podF amtOk over twice leS)
open Dvs (nameMay first)
set_option maxHeartbeats 400000 in
theorem within_any (n a b : Int) (w : World) : Calls Try.prog 101 #[.int .i64 n, .int .i64 a, .int .i64 b] w fun e w' => e = .returned (.bool (decide (a ≤ n) && decide (n ≤ b))) ∧ w' = w := by
  by_cases h1 : a ≤ n
  · go_enter Try.func101, Try.ntmps101
    go_wp2_with fail
    go_ret
    exact ⟨by simp [h1], rfl⟩
  · have h2 : n < a := by omega
    have h3 : decide (a ≤ n) = false := decide_eq_false h1
    rw [h3]
    clear h1
    go_enter Try.func101, Try.ntmps101
    go_wp2_with fail
    go_ret
    exact ⟨by simp, rfl⟩
set_option maxHeartbeats 400000 in
theorem beyond_any (a c : Int) (w : World) : Calls Try.prog 139 #[.int .i64 a, .int .i64 c] w fun e w' => e = .returned (.bool (over a c)) ∧ w' = w := by
  unfold over
  by_cases h1 : c = 0
  · subst h1
    go_enter Try.func139, Try.ntmps139
    go_wp2_with fail
    go_ret
    exact ⟨by simp, rfl⟩
  · go_enter Try.func139, Try.ntmps139
    go_wp2_with fail
    go_ret
    exact ⟨by simp [h1], rfl⟩
set_option maxHeartbeats 400000 in
theorem bounded_anyQ (m b : Int) (w : World) : Calls Try.prog 138 #[.agg #[.int .i64 m, .int .i64 b]] w fun e w' => e = .returned (.bool (amtOk m b)) ∧ Below w.heap.size w w' := by
  unfold amtOk
  go_enter Try.func138, Try.ntmps138
  go_wp2_with fail
  refine (within_any _ _ _ _).mono ?_
  rintro e w1 ⟨rfl, rfl⟩
  rcases two (decide (0 ≤ m) && decide (m ≤ 1000000)) with e1 | e1
  · rw [e1]
    go_wp2_with fail
    refine (within_any _ _ _ _).mono ?_
    rintro e w1 ⟨rfl, rfl⟩
    go_wp2_with fail
    go_ret
    refine ⟨?_, (Below.refl w.heap.size w).alloc (Nat.le_refl _) _⟩
    rw [e1]
    simp
  · rw [e1]
    go_wp2_with fail
    go_ret
    refine ⟨?_, (Below.refl w.heap.size w).alloc (Nat.le_refl _) _⟩
    rw [e1]
    rfl
set_option maxRecDepth 100000 in
set_option maxHeartbeats 1000000 in
theorem checkNeeds_any (v : Value) (ds : List Nd) (w : World) (h : NeedsAt w v ds) : Calls Try.prog 140 #[v] w fun e w' => e = .returned (errV (if 3 < ds.length then (2 : Nat) else first (needF ds) ds.length : Nat)) ∧ Below w.heap.size w w' := by
  obtain ⟨ao, c, rfl, hm, hr⟩ := h
  clear hm
  have HR := hideIt hr
  clear hr
  by_cases h3 : 3 < ds.length
  · rw [if_pos h3]
    go_enter Try.func140, Try.ntmps140
    go_wp2_with fail
    go_ret
    exact ⟨rfl, Below.refl _ _⟩
  rw [if_neg h3]
  have h3' : ds.length ≤ 3 := by omega
  clear h3
  have hd : decide (3 < (ds.length : Int)) = false := decide_eq_false (by omega)
  go_enter Try.func140, Try.ntmps140
  go_wp2_with fail
  go_loopw [3, 12] (fun la i wr => ∃ k : Nat, k ≤ ds.length ∧ i = .int .i64 k ∧ la = .string (Qos.lastOf ds k) ∧ Below w.heap.size w wr ∧ Hid (first (needF ds) k = 0)) (fun _ i _ => ds.length - (intOf i).toNat)
  case atStart => exact ⟨0, by omega, rfl, rfl, Below.refl _ _, rfl⟩
  case round =>
    obtain ⟨k, hk, rfl, rfl, hB, HF⟩ := hrel
    by_cases hlt : k < ds.length
    · obtain ⟨b, o, rfl, hlb, hcs⟩ := HR.out (by omega)
      obtain ⟨g0, g1⟩ := hcs k hlt
      have c0 := (hB.cell (p := ⟨b, o + k * 2, none⟩) hlb).trans g0
      have c1 := (hB.cell (p := ⟨b, o + k * 2 + 1, none⟩) hlb).trans g1
      have HN := hideIt (@Qos.need_name ds k)
      have HL := hideIt (@Qos.need_le ds k)
      have HM := hideIt (@Qos.need_many ds k)
      have HS := hideIt (Qos.last_succ ds k)
      have hB1 := hideIt (hB.alloc hB.size (.cells #[.string (nd ds k).kind, .int .i64 (nd ds k).many] 159))
      clear g0 g1 hcs hB
      have HX : Hid (∃ la, la = Qos.lastOf ds k) := ⟨_, rfl⟩
      generalize Qos.lastOf ds k = la at *
      generalize nd ds k = x at *
      rcases two (nameMay x.kind) with hn | hn
      · rcases two (leS x.kind la) with hl | hl
        · have he := HL.out hn hl
          have HA := hideIt (Dvs.first_hit HF.out (by rw [he]; decide) hlt)
          have hl' : (Op.bytesLess x.kind.toList la.toList || x.kind.toList == la.toList) = true := hl
          go_wp2_with fail
          refine (name_any _ _).mono ?_
          rintro e w1 ⟨rfl, rfl⟩
          rw [hn]
          go_wp2_with fail
          go_ret
          exact ⟨by rw [HA.out, he]; rfl, hB1.out⟩
        · have he := HM.out hn hl
          have hl' : (Op.bytesLess x.kind.toList la.toList || x.kind.toList == la.toList) = false := hl
          go_wp2_with fail
          refine (name_any _ _).mono ?_
          rintro e w1 ⟨rfl, rfl⟩
          rw [hn]
          go_wp2_with fail
          refine (within_any _ _ _ _).mono ?_
          rintro e w1 ⟨rfl, rfl⟩
          by_cases hm : x.many < 1 ∨ 16 < x.many
          · rw [if_pos hm] at he
            have HA := hideIt (Dvs.first_hit HF.out (by rw [he]; decide) hlt)
            rw [show (decide (1 ≤ x.many) && decide (x.many ≤ 16)) = false by simp; omega]
            go_wp2_with fail
            go_ret
            exact ⟨by rw [HA.out, he]; rfl, hB1.out⟩
          · rw [if_neg hm] at he
            rw [show (decide (1 ≤ x.many) && decide (x.many ≤ 16)) = true by simp; omega]
            go_wp2_with fail
            go_roundw
            case rel => exact ⟨k + 1, by omega, by go_num, by rw [HS.out], hB1.out, Dvs.first_zero HF.out he⟩
            case measure => simp [intOf]; omega
      · have he := HN.out hn
        have HA := hideIt (Dvs.first_hit HF.out (by rw [he]; decide) hlt)
        go_wp2_with fail
        refine (name_any _ _).mono ?_
        rintro e w1 ⟨rfl, rfl⟩
        rw [hn]
        go_wp2_with fail
        go_ret
        exact ⟨by rw [HA.out, he]; rfl, hB1.out⟩
    · have hke : k = ds.length := by omega
      subst hke
      have hB1 := hideIt hB
      clear hB
      go_wp2_with fail
      go_ret
      exact ⟨by rw [HF.out]; rfl, hB1.out⟩
end Go.Proofs.Ythekalhceamcoaa
