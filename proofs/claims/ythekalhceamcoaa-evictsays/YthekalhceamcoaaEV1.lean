/- Comparing: small contracts of packages evict and cmp. -/
import Derived.Test.YthekalhceamcoaaQW2
import Derived.Test.YthekalhceamcoaaTBase
import Derived.Test.YthekalhceamcoaaEMath
import Derived.Shelf.SlicesG.Cmp
import Derived.Shelf.Lay
import Derived.Ground.SlgcProg
namespace Go.Proofs
open Go.Shelf
def Try.cmpL2_ren : Go.Shelf.Ren := ⟨fun | 5 => 148 | 7 => 175 | n => n, fun | 22 => 3 | 3 => 3 | 4 => 4 | n => n, fun | n => n⟩
theorem Try.cmpL2 : Go.Proofs.SlLaysC2.n5 Try.prog Try.cmpL2_ren := {
  mixed := by kernel_rfl
  f5 := ⟨Try.f148.name, by decide, Try.func148.trans (congrArg some (by kernel_rfl))⟩
  f7 := ⟨Try.f175.name, by decide, Try.func175.trans (congrArg some (by kernel_rfl))⟩
  t3 := Try.underlying3
  a3 := Try.isAgg3
  z3 := Try.sizeOf3
  v3 := Try.zeroValue3
  t4 := Try.underlying4
  a4 := Try.isAgg4
  z4 := Try.sizeOf4
  v4 := Try.zeroValue4
  t22 := Try.underlying3
  a22 := Try.isAgg3
  z22 := Try.sizeOf3
  v22 := Try.zeroValue3 }
end Go.Proofs
namespace Go.Proofs.Ythekalhceamcoaa
open Go.RowKit
open Qos (Nd Pd turnOf ltS cmpS orI)
set_option maxHeartbeats 400000 in
theorem turn_any (x : Int) (w : World) : Calls Try.prog 149 #[.int .i64 x] w fun e w' => e = .returned (.int .i64 (turnOf x)) ∧ w' = w := by
  have HT : Hid (turnOf x = if 0 < x then 0 else 1) := rfl
  generalize turnOf x = T at *
  by_cases h : 0 < x
  · have HE := hideIt (HT.out.trans (if_pos h))
    clear HT
    go_enter Try.func149, Try.ntmps149
    go_wp2_with fail
    go_ret
    exact ⟨by rw [HE.out]; rfl, rfl⟩
  · have HE := hideIt (HT.out.trans (if_neg h))
    clear HT
    go_enter Try.func149, Try.ntmps149
    go_wp2_with fail
    go_ret
    exact ⟨by rw [HE.out]; rfl, rfl⟩
theorem cmpInt_anyE (x y : Int) (w : World) : Calls Try.prog 148 #[.int .i64 x, .int .i64 y] w fun e w' => e = .returned (.int .i64 (Lib.compareInt x y)) ∧ w' = w := by
  have h := AnyG.cmp_Compare_int Try.cmpL2 x y w
  change Calls Try.prog 148 _ _ _ at h
  exact h
set_option maxHeartbeats 400000 in
theorem nanStr_any (x : ByteArray) (w : World) : Calls Try.prog 155 #[.string x] w fun e w' => e = .returned (.bool false) ∧ w' = w := by
  go_enter Try.func155, Try.ntmps155
  go_wp2_with fail
  go_ret
  exact ⟨by simp, rfl⟩
set_option maxHeartbeats 400000 in
theorem cmpStr_any (x y : ByteArray) (w : World) : Calls Try.prog 125 #[.string x, .string y] w fun e w' => e = .returned (.int .i64 (cmpS x y)) ∧ w' = w := by
  have HT : Hid (cmpS x y = if ltS x y = true then -1 else if ltS y x = true then 1 else 0) := rfl
  have HTOT := hideIt (Qos.ltS_total x y)
  have HAS := hideIt (Qos.ltS_asymm x y)
  generalize cmpS x y = T at *
  rcases two (ltS x y) with h1 | h1
  · have HE := hideIt (HT.out.trans (if_pos h1))
    have h1' : Op.bytesLess x.toList y.toList = true := h1
    clear HT h1 HTOT HAS
    go_enter Try.func125, Try.ntmps125
    go_wp2_with fail
    refine (nanStr_any _ _).mono ?_
    rintro e w1 ⟨rfl, rfl⟩
    go_wp2_with fail
    refine (nanStr_any _ _).mono ?_
    rintro e w1 ⟨rfl, rfl⟩
    go_wp2_with fail
    go_ret
    exact ⟨by rw [HE.out]; rfl, rfl⟩
  · have HT1 := hideIt (HT.out.trans (if_neg (by rw [h1]; decide)))
    have h1' : Op.bytesLess x.toList y.toList = false := h1
    rcases two (ltS y x) with h2 | h2
    · have HE := hideIt (HT1.out.trans (if_pos h2))
      have hne : (x.toList == y.toList) = false := by
        rw [eq_str]
        refine decide_eq_false fun e => ?_
        subst e
        rw [h1] at h2
        cases h2
      clear HT HT1 h1 h2 HTOT HAS
      go_enter Try.func125, Try.ntmps125
      go_wp2_with fail
      refine (nanStr_any _ _).mono ?_
      rintro e w1 ⟨rfl, rfl⟩
      go_wp2_with fail
      refine (nanStr_any _ _).mono ?_
      rintro e w1 ⟨rfl, rfl⟩
      go_wp2_with fail
      go_ret
      exact ⟨by rw [HE.out]; rfl, rfl⟩
    · have HE := hideIt (HT1.out.trans (if_neg (by rw [h2]; decide)))
      have hxy : x = y := HTOT.out (by rw [h1]; rfl) (by rw [h2]; rfl)
      subst hxy
      clear HT HT1 h1 h2 HTOT HAS
      go_enter Try.func125, Try.ntmps125
      go_wp2_with fail
      refine (nanStr_any _ _).mono ?_
      rintro e w1 ⟨rfl, rfl⟩
      go_wp2_with fail
      refine (nanStr_any _ _).mono ?_
      rintro e w1 ⟨rfl, rfl⟩
      go_wp2_with fail
      go_ret
      exact ⟨by rw [HE.out]; rfl, rfl⟩
/-- Four numbers, one behind the other. -/
def or4 (a b c d : Int) : Int := orI a (orI b (orI c d))
set_option maxRecDepth 100000 in
set_option maxHeartbeats 1000000 in
theorem or_any (a b c d : Int) (g n : Nat) (w : World) (h0 : w.cell? ⟨g, 0, none⟩ = some (.int .i64 a)) (h1 : w.cell? ⟨g, 1, none⟩ = some (.int .i64 b)) (h2 : w.cell? ⟨g, 2, none⟩ = some (.int .i64 c)) (h3 : w.cell? ⟨g, 3, none⟩ = some (.int .i64 d)) :
    Calls Try.prog 124 #[.slice (some ⟨g, 0, none⟩) 4 n] w fun e w' => e = .returned (.int .i64 (or4 a b c d)) ∧ w' = w := by
  have HO : Hid (∀ k : Nat, k < 4 → ∃ v : Int, w.cell? ⟨g, k, none⟩ = some (.int .i64 v) ∧ (v = if k = 0 then a else if k = 1 then b else if k = 2 then c else d)) := by
    intro k hk
    have : k = 0 ∨ k = 1 ∨ k = 2 ∨ k = 3 := by omega
    rcases this with rfl | rfl | rfl | rfl
    · exact ⟨a, h0, rfl⟩
    · exact ⟨b, h1, rfl⟩
    · exact ⟨c, h2, rfl⟩
    · exact ⟨d, h3, rfl⟩
  clear h0 h1 h2 h3
  go_enter Try.func124, Try.ntmps124
  go_wp2_with fail
  go_loop [8] (fun i => ∃ k : Nat, k ≤ 4 ∧ i = .int .i64 k ∧ Hid ((0 < k → a = 0) ∧ (1 < k → b = 0) ∧ (2 < k → c = 0) ∧ (3 < k → d = 0))) (fun i => 4 - (intOf i).toNat)
  case atStart => exact ⟨0, by omega, rfl, ⟨fun h => by omega, fun h => by omega, fun h => by omega, fun h => by omega⟩⟩
  case round =>
    obtain ⟨k, hk, rfl, HZ⟩ := hrel
    by_cases hlt : k < 4
    · obtain ⟨v, hc, hv⟩ := HO.out k hlt
      have HV := hideIt hv
      clear hv
      by_cases h0 : v = 0
      · subst h0
        have HZ2 : Hid ((0 < k + 1 → a = 0) ∧ (1 < k + 1 → b = 0) ∧ (2 < k + 1 → c = 0) ∧ (3 < k + 1 → d = 0)) := by
          obtain ⟨z0, z1, z2, z3⟩ := HZ.out
          have hv := HV.out
          have : k = 0 ∨ k = 1 ∨ k = 2 ∨ k = 3 := by omega
          rcases this with rfl | rfl | rfl | rfl
          · simp at hv; exact ⟨fun _ => hv.symm, fun h => by omega, fun h => by omega, fun h => by omega⟩
          · simp at hv; exact ⟨fun _ => z0 (by omega), fun _ => hv.symm, fun h => by omega, fun h => by omega⟩
          · simp at hv; exact ⟨fun _ => z0 (by omega), fun _ => z1 (by omega), fun _ => hv.symm, fun h => by omega⟩
          · simp at hv; exact ⟨fun _ => z0 (by omega), fun _ => z1 (by omega), fun _ => z2 (by omega), fun _ => hv.symm⟩
        go_wp2_with fail
        go_round
        case rel => exact ⟨k + 1, by omega, by go_num, HZ2⟩
        case measure => simp [intOf]; omega
      · have HE : Hid (or4 a b c d = v) := by
          obtain ⟨z0, z1, z2, z3⟩ := HZ.out
          have hv := HV.out
          have : k = 0 ∨ k = 1 ∨ k = 2 ∨ k = 3 := by omega
          unfold Hid or4 orI
          rcases this with rfl | rfl | rfl | rfl
          · simp at hv; subst hv; rw [if_neg h0]
          · simp at hv; subst hv; rw [if_pos (z0 (by omega)), if_neg h0]
          · simp at hv; subst hv; rw [if_pos (z0 (by omega)), if_pos (z1 (by omega)), if_neg h0]
          · simp at hv; subst hv; rw [if_pos (z0 (by omega)), if_pos (z1 (by omega)), if_pos (z2 (by omega))]
        have hb : (v != 0) = true := by simp [h0]
        go_wp2_with fail
        go_ret
        exact ⟨by rw [HE.out]; rfl, rfl⟩
    · have hke : k = 4 := by omega
      subst hke
      have HE : Hid (or4 a b c d = 0) := by
        obtain ⟨z0, z1, z2, z3⟩ := HZ.out
        unfold Hid or4 orI
        rw [if_pos (z0 (by omega)), if_pos (z1 (by omega)), if_pos (z2 (by omega)), z3 (by omega)]
      go_wp2_with fail
      go_ret
      exact ⟨by rw [HE.out]; rfl, rfl⟩
end Go.Proofs.Ythekalhceamcoaa
