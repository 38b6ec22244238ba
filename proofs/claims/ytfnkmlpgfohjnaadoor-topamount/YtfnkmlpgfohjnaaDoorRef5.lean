/- What the document's own writers of amounts answer: contracts of the plain functions that tell them. -/
import Derived.Test.YtfnkmlpgfohjnaaDoorRef3
namespace Go.Proofs.YtfnkmlpgfohjnaaDoor
open Go.RowKit
set_option maxHeartbeats 400000 in
theorem refMilliText_any (n : Int) (w : World) (hn1 : -9223372036854775808 ≤ n) (hn2 : n ≤ 9223372036854775807) :
    Calls Tryd.prog 30 #[.int .i64 n] w fun e w' => e = .returned (txtNum (milliText n)) ∧ Below w.heap.size w w' := by
  by_cases hb : n < 0
  · have H : Hid (milliText n = ([], 1)) := by simp [Hid, milliText, hb]
    go_enter Tryd.func30, Tryd.ntmps30
    go_wp2_with fail
    go_ret2
    exact ⟨congrArg Ending.returned (congrArg txtNum H.out).symm, Below.refl _ _⟩
  by_cases hb2 : 1000000 < n
  · have H : Hid (milliText n = ([], 1)) := by simp [Hid, milliText, hb2]
    go_enter Tryd.func30, Tryd.ntmps30
    go_wp2_with fail
    go_ret2
    exact ⟨congrArg Ending.returned (congrArg txtNum H.out).symm, Below.refl _ _⟩
  by_cases hr : n % 1000 = 0
  · have H : Hid (milliText n = (dec (n / 1000), 0)) := by simp [Hid, milliText, hr]; omega
    have hr1 : (n % 1000 == 0) = true := by simp [hr]
    have h3 : n / 1000 ≤ 9223372036854775807 := by omega
    have h4 : 0 ≤ n / 1000 := by omega
    clear hr
    go_enter Tryd.func30, Tryd.ntmps30
    go_wp2_with fail
    refine (decimal _ _ h4 h3).mono ?_; rintro e w' ⟨rfl, hbl⟩
    go_wp2_with fail
    go_ret2
    exact ⟨congrArg Ending.returned (congrArg txtNum H.out).symm, hbl⟩
  · have H : Hid (milliText n = (dec n ++ [109], 0)) := by simp [Hid, milliText, hr]; omega
    have hr1 : (n % 1000 == 0) = false := by simp [hr]
    clear hr
    have h4 : 0 ≤ n := by omega
    have hlen := dec_len n hn2
    go_enter Tryd.func30, Tryd.ntmps30
    go_wp2_with fail
    refine (decimal _ _ h4 hn2).mono ?_; rintro e w' ⟨rfl, hbl⟩
    go_wp2_with fail
    go_ret2
    refine ⟨?_, hbl⟩
    rw [H.out]
    exact congrArg (fun x => Ending.returned (.tuple #[.string x, .int .i64 0])) (str_append (dec n) [109])
theorem unitCells_at (w : World) (t : TypeId) (k : Nat) (hk : k ≤ 4) : (w.alloc (.cells #[Value.string ⟨#[]⟩, Value.string ⟨#[75, 105]⟩, Value.string ⟨#[77, 105]⟩, Value.string ⟨#[71, 105]⟩, Value.string ⟨#[84, 105]⟩] t)).cell? ⟨w.heap.size, k, none⟩ = some (.string ⟨(unitTxt k).toArray⟩) := by
  have : k = 0 ∨ k = 1 ∨ k = 2 ∨ k = 3 ∨ k = 4 := by omega
  rcases this with e | e | e | e | e <;> subst e <;> simp [go_sem, unitTxt]
set_option maxHeartbeats 2000000 in
theorem refBytesText_any (n : Int) (w : World) (hn1 : -9223372036854775808 ≤ n) (hn2 : n ≤ 9223372036854775807) :
    Calls Tryd.prog 32 #[.int .i64 n] w fun e w' => e = .returned (txtNum (bytesText n)) ∧ Below w.heap.size w w' := by
  by_cases hb : n < 0
  · have H : Hid (bytesText n = ([], 1)) := by simp [Hid, bytesText, hb]
    go_enter Tryd.func32, Tryd.ntmps32
    go_wp2_with fail
    go_ret2
    exact ⟨congrArg Ending.returned (congrArg txtNum H.out).symm, Below.refl _ _⟩
  by_cases hb2 : 1125899906842624 < n
  · have H : Hid (bytesText n = ([], 1)) := by simp [Hid, bytesText, hb2]
    go_enter Tryd.func32, Tryd.ntmps32
    go_wp2_with fail
    go_ret2
    exact ⟨congrArg Ending.returned (congrArg txtNum H.out).symm, Below.refl _ _⟩
  have H : Hid (bytesText n = (dec (red 4 n).1 ++ unitTxt (red 4 n).2, 0)) := by simp [Hid, bytesText]; omega
  have HCU := fun k hk => unitCells_at w 9 k hk
  have hBW : Below w.heap.size w (w.alloc (.cells #[Value.string ⟨#[]⟩, Value.string ⟨#[75, 105]⟩, Value.string ⟨#[77, 105]⟩, Value.string ⟨#[71, 105]⟩, Value.string ⟨#[84, 105]⟩] 9)) := (Below.refl _ w).alloc (Nat.le_refl _) _
  have hSZ : w.heap.size < (w.alloc (.cells #[Value.string ⟨#[]⟩, Value.string ⟨#[75, 105]⟩, Value.string ⟨#[77, 105]⟩, Value.string ⟨#[71, 105]⟩, Value.string ⟨#[84, 105]⟩] 9)).heap.size := by simp
  go_enter Tryd.func32, Tryd.ntmps32
  go_wp2_with fail
  generalize w.alloc (.cells #[Value.string ⟨#[]⟩, Value.string ⟨#[75, 105]⟩, Value.string ⟨#[77, 105]⟩, Value.string ⟨#[71, 105]⟩, Value.string ⟨#[84, 105]⟩] 9) = W at *
  go_loop [0, 5] (fun t u => ∃ (k : Nat) (v : Int), k ≤ 4 ∧ 0 ≤ v ∧ v ≤ 1125899906842624 ∧ t = .int .i64 v ∧ u = .int .i64 k ∧ Hid (red 4 n = ((red (4 - k) v).1, (red (4 - k) v).2 + k))) (fun _ u => 4 - (intOf u).toNat)
  case atStart => exact ⟨0, n, by omega, by omega, by omega, rfl, rfl, rfl⟩
  case round =>
    obtain ⟨k, v, hk, hv0, hv1, rfl, rfl, HR⟩ := hrel
    have HUk := HCU k hk
    clear HCU
    by_cases hc : v ≠ 0 ∧ v % 1024 = 0 ∧ k < 4
    · have HS : Hid (red 4 n = ((red (4 - (k + 1)) (v / 1024)).1, (red (4 - (k + 1)) (v / 1024)).2 + (k + 1))) := red_step k v n hc.2.2 hc.1 hc.2.1 HR.out
      have h1 : 0 < v := by omega
      have h2 : (v % 1024 == 0) = true := by simp [hc.2.1]
      have h3 : k < 4 := hc.2.2
      clear hc
      go_wp2_with fail
      go_round
      case rel => exact ⟨k + 1, v / 1024, by omega, by omega, by omega, by go_num, by go_num, HS⟩
      case measure => simp [intOf]; omega
    · have HS : Hid (red 4 n = (v, k)) := red_stop k v n hk hc HR.out
      have hl1 := dec_len v (by omega)
      have hl2 := unitTxt_len k
      have key : ¬ 0 < v ∨ (0 < v ∧ ¬ k < 4) ∨ (0 < v ∧ k < 4 ∧ (v % 1024 == 0) = false) := by
        by_cases h1 : v = 0
        · exact .inl (by omega)
        · by_cases h2 : k < 4
          · by_cases h3 : v % 1024 = 0
            · exact absurd ⟨h1, h3, h2⟩ hc
            · exact .inr (.inr ⟨by omega, h2, by simp [h3]⟩)
          · exact .inr (.inl ⟨by omega, h2⟩)
      clear hc
      rcases key with h1 | ⟨h1, h2⟩ | ⟨h1, h2, h3⟩
      all_goals
        go_wp2_with fail
        go_region_with (go_at_call 38; refine (decimal _ _ hv0 (by omega)).mono ?_; rintro e w1 ⟨rfl, hbl⟩; have hq : w1.cell? ⟨w.heap.size, k, none⟩ = some (.string ⟨(unitTxt k).toArray⟩) := (hbl.cell (p := ⟨w.heap.size, k, none⟩) hSZ).trans HUk)
        all_goals
          go_wp2_with fail
          go_ret2
          refine ⟨?_, ?_⟩
          · rw [H.out, HS.out]
            exact congrArg (fun x => Ending.returned (.tuple #[.string x, .int .i64 0])) (str_append (dec v) (unitTxt k))
          · exact hBW.trans (((Below.refl _ W).drew.trans hbl).mono (Nat.le_of_lt hSZ))
end Go.Proofs.YtfnkmlpgfohjnaaDoor
