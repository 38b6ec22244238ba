/- What is used by one, and totals: contracts. -/
import Derived.Test.YthekalhceamcoaaEV8
import Derived.Test.YthekalhceamcoaaEMath3
namespace Go.Proofs.Ythekalhceamcoaa
open Go.RowKit
open Qos (Nd nd usedOf Tot)
set_option maxRecDepth 100000 in
set_option maxHeartbeats 1000000 in
theorem usedT_any (v : Value) (us : List Nd) (s : ByteArray) (w : World) (h : NeedsAt w v us) : Calls Try.prog 69 #[v, .string s] w fun e w' => e = .returned (.int .i64 (usedOf us s)) ∧ w' = w := by
  obtain ⟨ao, c, rfl, hm, hr⟩ := h
  have HR := hideIt hr
  unfold maxLen at hm
  clear hr
  go_enter Try.func69, Try.ntmps69
  go_wp2_with fail
  go_loop [5] (fun i => ∃ k : Nat, k ≤ us.length ∧ i = .int .i64 k ∧ Hid (∀ j, j < k → (nd us j).kind ≠ s)) (fun i => us.length - (intOf i).toNat)
  case atStart => exact ⟨0, by omega, rfl, fun j hj => by omega⟩
  case round =>
    obtain ⟨k, hk, rfl, HA⟩ := hrel
    by_cases hlt : k < us.length
    · obtain ⟨b, o, rfl, hlb, hcs⟩ := HR.out (by omega)
      obtain ⟨c0, c1⟩ := hcs k hlt
      have HH := hideIt (fun he => Qos.used_hit (us := us) (nm := s) hlt HA.out he)
      have HN := hideIt (fun (hs : (nd us k).kind ≠ s) => (show ∀ j, j < k + 1 → (nd us j).kind ≠ s from fun j hj => by
        by_cases e : j = k
        · subst e; exact hs
        · exact HA.out j (by omega)))
      clear hcs
      generalize nd us k = x at *
      by_cases he : x.kind = s
      · have HE := hideIt (HH.out he)
        subst he
        clear HH HN HA
        go_wp2_with fail
        go_ret
        exact ⟨by rw [HE.out]; rfl, rfl⟩
      · have HN' := hideIt (HN.out he)
        have hb : (x.kind.toList == s.toList) = false := by rw [eq_str]; exact decide_eq_false he
        clear HH HN he
        go_wp2_with fail
        go_round
        case rel => exact ⟨k + 1, by omega, by go_num, HN'⟩
        case measure => simp [intOf]; omega
    · have hke : k = us.length := by omega
      subst hke
      have HE := hideIt (Qos.used_miss HA.out)
      go_wp2_with fail
      go_ret
      exact ⟨by rw [HE.out]; rfl, rfl⟩
set_option maxRecDepth 100000 in
set_option maxHeartbeats 1000000 in
theorem usedR_any (v : Value) (us : List Nd) (s : ByteArray) (w : World) (h : NeedsAt w v us) : Calls Try.prog 114 #[v, .string s] w fun e w' => e = .returned (.int .i64 (usedOf us s)) ∧ w' = w := by
  obtain ⟨ao, c, rfl, hm, hr⟩ := h
  have HR := hideIt hr
  unfold maxLen at hm
  clear hr
  go_enter Try.func114, Try.ntmps114
  go_wp2_with fail
  go_loop [5] (fun i => ∃ k : Nat, k ≤ us.length ∧ i = .int .i64 k ∧ Hid (∀ j, j < k → (nd us j).kind ≠ s)) (fun i => us.length - (intOf i).toNat)
  case atStart => exact ⟨0, by omega, rfl, fun j hj => by omega⟩
  case round =>
    obtain ⟨k, hk, rfl, HA⟩ := hrel
    by_cases hlt : k < us.length
    · obtain ⟨b, o, rfl, hlb, hcs⟩ := HR.out (by omega)
      obtain ⟨c0, c1⟩ := hcs k hlt
      have HH := hideIt (fun he => Qos.used_hit (us := us) (nm := s) hlt HA.out he)
      have HN := hideIt (fun (hs : (nd us k).kind ≠ s) => (show ∀ j, j < k + 1 → (nd us j).kind ≠ s from fun j hj => by
        by_cases e : j = k
        · subst e; exact hs
        · exact HA.out j (by omega)))
      clear hcs
      generalize nd us k = x at *
      by_cases he : x.kind = s
      · have HE := hideIt (HH.out he)
        subst he
        clear HH HN HA
        go_wp2_with fail
        go_ret
        exact ⟨by rw [HE.out]; rfl, rfl⟩
      · have HN' := hideIt (HN.out he)
        have hb : (x.kind.toList == s.toList) = false := by rw [eq_str]; exact decide_eq_false he
        clear HH HN he
        go_wp2_with fail
        go_round
        case rel => exact ⟨k + 1, by omega, by go_num, HN'⟩
        case measure => simp [intOf]; omega
    · have hke : k = us.length := by omega
      subst hke
      have HE := hideIt (Qos.used_miss HA.out)
      go_wp2_with fail
      go_ret
      exact ⟨by rw [HE.out]; rfl, rfl⟩
set_option maxRecDepth 100000 in
set_option maxHeartbeats 1000000 in
theorem plus_any (h l n : Int) (w : World) (hl0 : 0 ≤ l) (hl1 : l < 1073741824) (hh : -17179869184 ≤ h) (hh2 : h ≤ 17179869184) (hn : -9223372036854775808 ≤ n) (hn2 : n ≤ 9223372036854775807) :
    Calls Try.prog 111 #[.agg #[.int .i64 h, .int .i64 l], .int .i64 n] w fun e w' => e = .returned (.agg #[.int .i64 (h + n / 1073741824 + (l + n % 1073741824) / 1073741824), .int .i64 ((l + n) % 1073741824)]) ∧ Below w.heap.size w w' := by
  have e1 := Qos.and_low n
  have e2 := Qos.and_low (l + n % 1073741824)
  have w1 : wrap64 (l + n % 1073741824) = l + n % 1073741824 := by unfold wrap64; omega
  have w2 : wrap64 (h + n / 1073741824) = h + n / 1073741824 := by unfold wrap64; omega
  have w3 : wrap64 (h + n / 1073741824 + (l + n % 1073741824) / 1073741824) = h + n / 1073741824 + (l + n % 1073741824) / 1073741824 := by unfold wrap64; omega
  go_enter Try.func111, Try.ntmps111
  go_wp2_with fail
  (try simp only [Exit.inBlock, Exit.then])
  refine bodyPost_ret (v := .agg #[.int .i64 (h + n / 1073741824 + (l + n % 1073741824) / 1073741824), .int .i64 ((l + n) % 1073741824)]) ?_ rfl ⟨rfl, ?_⟩
  · rw [results_cellQ rfl]
    clear e1 e2 w1 w2 w3
    go_simp
  · exact ((Below.refl _ _).alloc (Nat.le_refl _) _).alloc (by simp) _
end Go.Proofs.Ythekalhceamcoaa
