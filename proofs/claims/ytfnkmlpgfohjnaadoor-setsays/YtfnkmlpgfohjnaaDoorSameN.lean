/- What 'SameNumbers' answers: are two lists of numbers the same? -/
import Derived.Test.YtfnkmlpgfohjnaaDoorSetW2
import Derived.Deep.QuietTactic
import Derived.BigQuiet
namespace Go.Proofs.YtfnkmlpgfohjnaaDoor
open Go.RowKit
theorem drewN_more {w : World} {m n : Nat} : ∃ k, (w.drewN m).drewN n = w.drewN k := ⟨m + n, World.drewN_drewN _ _ _⟩
set_option maxHeartbeats 1000000 in
theorem sameN_some (b o c b2 o2 c2 : Nat) (xs ys : List Int) (w : World) (hc : ∀ k, k < xs.length → w.cell? ⟨b, o + k, none⟩ = some (.int .i64 (xs.getD k 0)))
    (hd : ∀ k, k < ys.length → w.cell? ⟨b2, o2 + k, none⟩ = some (.int .i64 (ys.getD k 0))) (hl : xs.length ≤ 1000) (he : xs.length = ys.length) :
    Calls Tryd.prog 9 #[.slice (some ⟨b, o, none⟩) xs.length c, .slice (some ⟨b2, o2, none⟩) ys.length c2] w fun e w' => e = .returned (.bool (decide (xs = ys))) ∧ ∃ n, w' = w.drewN n := by
  have HC := hideIt' hc
  have HD := hideIt' hd
  have HE := hideIt' he
  have hn : ((xs.length : Int) != (ys.length : Int)) = false := by simp [he]
  rw [he] at hl hn ⊢
  clear hc hd he
  go_enter Tryd.func9, Tryd.ntmps9
  go_wp2_with fail
  go_loopw [5] (fun i wr => ∃ k m : Nat, k ≤ ys.length ∧ i = .int .i64 k ∧ Hid (xs.take k = ys.take k) ∧ wr = w.drewN m) (fun i _ => ys.length - (intOf i).toNat)
  case atStart => exact ⟨0, 0, by omega, rfl, by unfold Hid; simp, rfl⟩
  case round =>
    obtain ⟨k, m, hk, rfl, HT, rfl⟩ := hrel
    by_cases hlt : k < ys.length
    · have hcx := HC.out k (by rw [HE.out]; exact hlt)
      have hcy := HD.out k hlt
      have hx : xs.take (k + 1) = xs.take k ++ [xs.getD k 0] := by
        have hk2 : k < xs.length := by rw [HE.out]; exact hlt
        rw [List.take_succ_eq_append_getElem hk2]; simp [hk2]
      have hy : ys.take (k + 1) = ys.take k ++ [ys.getD k 0] := by
        rw [List.take_succ_eq_append_getElem hlt]; simp [hlt]
      generalize xs.getD k 0 = x at hcx hx
      generalize ys.getD k 0 = y at hcy hy
      rcases two' (x != y) with hb | hb
      · have H : Hid (decide (xs = ys) = false) := by
          unfold Hid
          rw [decide_eq_false_iff_not]
          intro e
          have e2 := congrArg (List.take (k + 1)) e
          rw [hx, hy] at e2
          have := (List.append_inj' e2 rfl).2
          simp at this
          rw [bne_iff_ne] at hb
          exact hb this
        clear hx hy
        go_wp2_with fail
        go_quiet (fail)
        go_wp2_with fail
        go_ret
        exact ⟨congrArg (fun b => Ending.returned (.bool b)) H.out.symm, drewN_more⟩
      · have HT2 : Hid (xs.take (k + 1) = ys.take (k + 1)) := by
          unfold Hid
          have : x = y := by simpa using hb
          rw [hx, hy, HT.out, this]
        clear hx hy
        go_wp2_with fail
        go_quiet (fail)
        go_wp2_with fail
        go_roundw
        case rel => exact ⟨k + 1, _, by omega, by go_num, HT2, rfl⟩
        case measure => simp [intOf]; omega
    · have H : Hid (decide (xs = ys) = true) := by
        unfold Hid
        have h1 := HT.out
        rw [List.take_of_length_le (by rw [HE.out]; omega), List.take_of_length_le (by omega)] at h1
        rw [h1]; simp
      go_wp2_with fail
      go_ret
      exact ⟨congrArg (fun b => Ending.returned (.bool b)) H.out.symm, m, rfl⟩
set_option maxHeartbeats 400000 in
theorem sameN_none (ao ao2 : Option Addr) (c c2 : Nat) (w : World) :
    Calls Tryd.prog 9 #[.slice ao 0 c, .slice ao2 0 c2] w fun e w' => e = .returned (.bool true) ∧ ∃ n, w' = w.drewN n := by
  go_enter Tryd.func9, Tryd.ntmps9
  go_wp2_with fail
  go_loop [5] (fun i => i = .int .i64 0) (fun _ => 0)
  case atStart => rfl
  case round =>
    subst hrel
    go_wp2_with fail
    go_ret
    exact ⟨rfl, 0, rfl⟩
/-- Two lists that are the same. -/
theorem sameN_eq (v u : Value) (xs : List Int) (w : World) (hv : IntsAt w v xs) (hu : IntsAt w u xs) (hl : xs.length ≤ 1000) :
    Calls Tryd.prog 9 #[v, u] w fun e w' => e = .returned (.bool true) ∧ Below w.heap.size w w' := by
  have key : Calls Tryd.prog 9 #[v, u] w fun e w' => e = .returned (.bool true) ∧ ∃ n, w' = w.drewN n := by
    rcases hv with ⟨rfl, ao, c, rfl⟩ | ⟨b, o, c, rfl, hc⟩
    · rcases hu with ⟨_, ao2, c2, rfl⟩ | ⟨b2, o2, c2, rfl, _⟩
      · exact sameN_none ao ao2 c c2 w
      · exact sameN_none ao _ c c2 w
    · rcases hu with ⟨rfl, ao2, c2, rfl⟩ | ⟨b2, o2, c2, rfl, hd⟩
      · exact sameN_none _ ao2 c c2 w
      · have := sameN_some b o c b2 o2 c2 xs xs w hc hd hl rfl
        rw [decide_eq_true rfl] at this
        exact this
  refine key.mono ?_
  rintro e w' ⟨he, n, rfl⟩
  exact ⟨he, below_drewN (Below.refl _ w) n⟩
end Go.Proofs.YtfnkmlpgfohjnaaDoor
