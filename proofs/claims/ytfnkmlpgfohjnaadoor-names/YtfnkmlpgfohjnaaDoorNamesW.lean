/- Names: it answers true: the walk, out of the contracts. -/
import Derived.Test.YtfnkmlpgfohjnaaDoorSameN
import Derived.Test.YtfnkmlpgfohjnaaDoorShelf
import Derived.Deep.DeepCutAuto
namespace Go.Proofs.YtfnkmlpgfohjnaaDoor
open Go.RowKit
theorem dec13 : Lib.decDigits 13 = [49, 51] := by
  rw [Lib.decDigits_two (by omega) (by omega)]; decide
set_option maxHeartbeats 400000 in
theorem error13 (w : World) : Calls Tryd.prog 10 #[.int .i64 13] w fun e w' => e = .returned (.string ⟨#[111, 115, 116, 108, 101, 114, 121, 58, 32, 101, 114, 114, 111, 114, 32, 49, 51]⟩) ∧ w' = w := by
  have H := Tryd.strconv_Itoa_small 13 (by omega)
  rw [dec13] at H
  have HH := hideIt' H
  clear H
  go_enter Tryd.func10, Tryd.ntmps10
  go_wp2_with fail
  refine (HH.out _).mono ?_
  rintro e w' ⟨rfl, rfl⟩
  go_wp2_with fail
  go_ret
  exact ⟨rfl, rfl⟩
def namesL : List Int := [64, 4, 12, 3, 3, 16, 8, 1000000, 1125899906842624, 300, 1000, 6000, 80, 300, 0, 1, 2, 3, 1, 2, 3]
/-- The errors of package api, in their order. -/
def ErrsAt (w : World) (v : Value) : Prop := ∃ b c, v = .slice (some ⟨b, 0, none⟩) 13 c ∧ ∀ k : Nat, k < 13 → w.cell? ⟨b, k, none⟩ = some (.iface 23 (.int .i64 ((k : Int) + 1)))
set_option maxRecDepth 100000 in
set_option maxHeartbeats 4000000 in
theorem names_any (w : World) :
    Calls Tryd.prog 3 #[] w fun e w' => e = .returned (.bool true) ∧ Below w.heap.size w w' := by
  go_enter Tryd.func3, Tryd.ntmps3
  go_upto_region 6 with fail
  go_cut [1, 2, 3, 4] (fun l u e i wc => IntsAt wc l namesL ∧ IntsAt wc u namesL ∧ ErrsAt wc e ∧ i = .int .i64 0 ∧ Below w.heap.size w wc)
  case first =>
    go_wp2_with fail
    go_meet
    case rel =>
      refine ⟨.inr ⟨_, _, _, rfl, fun k hk => ?_⟩, .inr ⟨_, _, _, rfl, fun k hk => ?_⟩, ⟨_, _, rfl, fun k hk => ?_⟩, rfl, ?_⟩
      · have hk2 : k < 21 := hk
        have : k = 0 ∨ k = 1 ∨ k = 2 ∨ k = 3 ∨ k = 4 ∨ k = 5 ∨ k = 6 ∨ k = 7 ∨ k = 8 ∨ k = 9 ∨ k = 10 ∨ k = 11 ∨ k = 12 ∨ k = 13 ∨ k = 14 ∨ k = 15 ∨ k = 16 ∨ k = 17 ∨ k = 18 ∨ k = 19 ∨ k = 20 := by omega
        rcases this with rfl | rfl | rfl | rfl | rfl | rfl | rfl | rfl | rfl | rfl | rfl | rfl | rfl | rfl | rfl | rfl | rfl | rfl | rfl | rfl | rfl <;> simp [go_sem, namesL, Array.getElem?_append]
      · have hk2 : k < 21 := hk
        have : k = 0 ∨ k = 1 ∨ k = 2 ∨ k = 3 ∨ k = 4 ∨ k = 5 ∨ k = 6 ∨ k = 7 ∨ k = 8 ∨ k = 9 ∨ k = 10 ∨ k = 11 ∨ k = 12 ∨ k = 13 ∨ k = 14 ∨ k = 15 ∨ k = 16 ∨ k = 17 ∨ k = 18 ∨ k = 19 ∨ k = 20 := by omega
        rcases this with rfl | rfl | rfl | rfl | rfl | rfl | rfl | rfl | rfl | rfl | rfl | rfl | rfl | rfl | rfl | rfl | rfl | rfl | rfl | rfl | rfl <;> simp [go_sem, namesL, Array.getElem?_append]
      · have : k = 0 ∨ k = 1 ∨ k = 2 ∨ k = 3 ∨ k = 4 ∨ k = 5 ∨ k = 6 ∨ k = 7 ∨ k = 8 ∨ k = 9 ∨ k = 10 ∨ k = 11 ∨ k = 12 := by omega
        rcases this with rfl | rfl | rfl | rfl | rfl | rfl | rfl | rfl | rfl | rfl | rfl | rfl | rfl <;> simp [go_sem]
      · repeat (first | exact Below.refl _ _ | refine Below.drew ?_ | refine Below.alloc ?_ (by simp; try omega) _)
  case rest =>
    obtain ⟨hl, hu, ⟨b, c, rfl, he⟩, rfl, hB⟩ := hcut
    have HLs := hideIt' hl
    have HUs := hideIt' hu
    have HEs := hideIt' he
    clear hl hu he
    go_wp2_with fail
    go_loop [4] (fun i => ∃ k : Nat, k ≤ 13 ∧ i = .int .i64 k) (fun i => 13 - (intOf i).toNat)
    case atStart => exact ⟨0, by omega, rfl⟩
    case round =>
      obtain ⟨k, hk, rfl⟩ := hrel
      by_cases hlt : k < 13
      · have hcell := HEs.out k hlt
        go_wp2_with (go_at_call 8; refine (same_pos _ _ (by omega)).mono ?_; rintro e w' ⟨rfl, rfl⟩)
        go_round
        case rel => exact ⟨k + 1, by omega, by go_num⟩
        case measure => simp [intOf]; omega
      · go_wp2_with fail
        refine (sameN_eq u1 u2 namesL _ HLs.out HUs.out (by decide)).mono ?_
        rintro e w2 ⟨rfl, hb2⟩
        go_wp2_with fail
        refine (error13 _).mono ?_
        rintro e w3 ⟨rfl, rfl⟩
        go_wp2_with fail
        go_ret
        exact ⟨rfl, hB.trans (hb2.mono hB.size)⟩
end Go.Proofs.YtfnkmlpgfohjnaaDoor
