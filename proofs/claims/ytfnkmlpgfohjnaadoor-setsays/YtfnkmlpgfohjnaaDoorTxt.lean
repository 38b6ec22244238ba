/- What package amount's writers answer: contracts. -/
import Derived.Test.YtfnkmlpgfohjnaaDoorAmt2
import Derived.Deep.RegionWith
import Derived.Lib.ItoaLen
namespace Go.Proofs.YtfnkmlpgfohjnaaDoor
open Go.RowKit
/-- The library's table that strconv.Itoa reads. -/
def Tab (w : World) : Prop := Lib.TabIs Tryd.prog w "internal/strconv.uint64pow10" .u64 Lib.pow10Tab
theorem gTab : Tryd.prog.globalNamed "internal/strconv.uint64pow10" = some 1 := by kernel_rfl
theorem Tab.below {w w' : World} (h : Tab w) (hb : Below w.heap.size w w') (hB : 1 < w.heap.size) : Tab w' := var?_below hb gTab hB h
theorem below_grow (B : Nat) (w : World) (hB : B ≤ w.heap.size) (k : Nat) (os : Array Obj) : Below B w (Sort.grow (w.drewN k) os) :=
  ⟨rfl, rfl, rfl, by simp [Sort.grow], fun i hi => by
    show (w.heap ++ os)[i]? = _
    rw [Array.getElem?_append_left (by omega)]⟩
def dec (n : Int) : List UInt8 := Lib.decDigits n.toNat
theorem itoa_any (n : Int) (w : World) (h0 : 0 ≤ n) (h1 : n ≤ 9223372036854775807) (ht : Tab w) :
    Calls Tryd.prog 33 #[.int .i64 n] w fun e w' => e = .returned (.string ⟨(dec n).toArray⟩) ∧ Below w.heap.size w w' := by
  refine (Tryd.strconv_Itoa n (by omega) h1 w ht).mono ?_
  rintro e w' ⟨he, k, os, rfl⟩
  refine ⟨?_, below_grow _ w (Nat.le_refl _) k os⟩
  rw [he, Lib.itoa, if_neg (by omega)]; rfl
theorem dec_len (n : Int) (h1 : n ≤ 9223372036854775807) : (dec n).length ≤ 20 := by
  unfold dec; rw [Lib.decDigits_length]; exact Lib.nDigits_le20 _ (by omega)
def txtErr (p : List UInt8 × Int) : Value := .tuple #[.string ⟨p.1.toArray⟩, errV p.2]
/-- Thousandths as they are told, and an error's number. -/
def milliText (n : Int) : List UInt8 × Int :=
  if n < 0 ∨ 1000000 < n then ([], 1) else if n % 1000 = 0 then (dec (n / 1000), 0) else (dec n ++ [109], 0)
theorem str_append (a b : List UInt8) : (ByteArray.mk a.toArray) ++ (ByteArray.mk b.toArray) = ByteArray.mk (a ++ b).toArray := by
  apply ByteArray.ext; simp
set_option maxHeartbeats 400000 in
theorem milliText_any (n : Int) (w : World) (hn1 : -9223372036854775808 ≤ n) (hn2 : n ≤ 9223372036854775807) (ht : Tab w) :
    Calls Tryd.prog 29 #[.int .i64 n] w fun e w' => e = .returned (txtErr (milliText n)) ∧ Below w.heap.size w w' := by
  have HT := hideIt ht
  clear ht
  by_cases hb : n < 0
  · have H : Hid (milliText n = ([], 1)) := by simp [Hid, milliText, hb]
    go_enter Tryd.func29, Tryd.ntmps29
    go_wp2_with fail
    go_ret2
    exact ⟨congrArg Ending.returned (congrArg txtErr H.out).symm, Below.refl _ _⟩
  by_cases hb2 : 1000000 < n
  · have H : Hid (milliText n = ([], 1)) := by simp [Hid, milliText, hb2]
    go_enter Tryd.func29, Tryd.ntmps29
    go_wp2_with fail
    go_ret2
    exact ⟨congrArg Ending.returned (congrArg txtErr H.out).symm, Below.refl _ _⟩
  by_cases hr : n % 1000 = 0
  · have H : Hid (milliText n = (dec (n / 1000), 0)) := by simp [Hid, milliText, hr]; omega
    have hr1 : (n % 1000 == 0) = true := by simp [hr]
    have h3 : n / 1000 ≤ 9223372036854775807 := by omega
    have h4 : 0 ≤ n / 1000 := by omega
    clear hr
    go_enter Tryd.func29, Tryd.ntmps29
    go_wp2_with fail
    refine (itoa_any _ _ h4 h3 HT.out).mono ?_; rintro e w' ⟨rfl, hbl⟩
    go_wp2_with fail
    go_ret2
    exact ⟨congrArg Ending.returned (congrArg txtErr H.out).symm, hbl⟩
  · have H : Hid (milliText n = (dec n ++ [109], 0)) := by simp [Hid, milliText, hr]; omega
    have hr1 : (n % 1000 == 0) = false := by simp [hr]
    clear hr
    have h4 : 0 ≤ n := by omega
    have hlen := dec_len n hn2
    go_enter Tryd.func29, Tryd.ntmps29
    go_wp2_with fail
    refine (itoa_any _ _ h4 hn2 HT.out).mono ?_; rintro e w' ⟨rfl, hbl⟩
    go_wp2_with fail
    go_ret2
    refine ⟨?_, hbl⟩
    rw [H.out]
    exact congrArg (fun x => Ending.returned (.tuple #[.string x, .nilIface])) (str_append (dec n) [109])
/-- The greatest unit of which it is a whole number: how many of it, and which. -/
def red : Nat → Int → Int × Nat
  | 0, n => (n, 0)
  | f + 1, n => if n ≠ 0 ∧ n % 1024 = 0 then ((red f (n / 1024)).1, (red f (n / 1024)).2 + 1) else (n, 0)
def unitTxt : Nat → List UInt8
  | 0 => []
  | 1 => [75, 105]
  | 2 => [77, 105]
  | 3 => [71, 105]
  | _ => [84, 105]
def bytesText (n : Int) : List UInt8 × Int :=
  if n < 0 ∨ 1125899906842624 < n then ([], 1) else (dec (red 4 n).1 ++ unitTxt (red 4 n).2, 0)
theorem red_step (k : Nat) (v : Int) (n : Int) (hk : k < 4) (h1 : v ≠ 0) (h2 : v % 1024 = 0) (h : red 4 n = ((red (4 - k) v).1, (red (4 - k) v).2 + k)) :
    red 4 n = ((red (4 - (k + 1)) (v / 1024)).1, (red (4 - (k + 1)) (v / 1024)).2 + (k + 1)) := by
  rw [h, show 4 - k = (4 - (k + 1)) + 1 by omega, red, if_pos ⟨h1, h2⟩]
  simp; omega
theorem red_stop (k : Nat) (v : Int) (n : Int) (hk : k ≤ 4) (h1 : ¬ (v ≠ 0 ∧ v % 1024 = 0 ∧ k < 4)) (h : red 4 n = ((red (4 - k) v).1, (red (4 - k) v).2 + k)) :
    red 4 n = (v, k) := by
  rw [h]
  by_cases h4 : k < 4
  · rw [show 4 - k = (4 - (k + 1)) + 1 by omega, red, if_neg (fun h => h1 ⟨h.1, h.2, h4⟩)]; simp
  · rw [show 4 - k = 0 by omega, red]; simp
theorem Units.at {w : World} (h : Units w) (k : Nat) (hk : k ≤ 4) : w.cell? ⟨0, k, none⟩ = some (.string ⟨(unitTxt k).toArray⟩) := by
  have : k = 0 ∨ k = 1 ∨ k = 2 ∨ k = 3 ∨ k = 4 := by omega
  rcases this with e | e | e | e | e <;> subst e
  · exact h.u0
  · exact h.u1
  · exact h.u2
  · exact h.u3
  · exact h.u4
theorem unitTxt_len (k : Nat) : (unitTxt k).length ≤ 2 := by
  unfold unitTxt; split <;> simp
set_option maxHeartbeats 2000000 in
theorem bytesText_any (n : Int) (w : World) (hn1 : -9223372036854775808 ≤ n) (hn2 : n ≤ 9223372036854775807) (ht : Tab w) (hu : Units w) :
    Calls Tryd.prog 31 #[.int .i64 n] w fun e w' => e = .returned (txtErr (bytesText n)) ∧ Below w.heap.size w w' := by
  have HT := hideIt ht
  have HU := hideIt hu
  clear ht hu
  by_cases hb : n < 0
  · have H : Hid (bytesText n = ([], 1)) := by simp [Hid, bytesText, hb]
    go_enter Tryd.func31, Tryd.ntmps31
    go_wp2_with fail
    go_ret2
    exact ⟨congrArg Ending.returned (congrArg txtErr H.out).symm, Below.refl _ _⟩
  by_cases hb2 : 1125899906842624 < n
  · have H : Hid (bytesText n = ([], 1)) := by simp [Hid, bytesText, hb2]
    go_enter Tryd.func31, Tryd.ntmps31
    go_wp2_with fail
    go_ret2
    exact ⟨congrArg Ending.returned (congrArg txtErr H.out).symm, Below.refl _ _⟩
  have H : Hid (bytesText n = (dec (red 4 n).1 ++ unitTxt (red 4 n).2, 0)) := by simp [Hid, bytesText]; omega
  go_enter Tryd.func31, Tryd.ntmps31
  go_wp2_with fail
  go_loop [0, 4] (fun t u => ∃ (k : Nat) (v : Int), k ≤ 4 ∧ 0 ≤ v ∧ v ≤ 1125899906842624 ∧ t = .int .i64 v ∧ u = .int .i64 k ∧ Hid (red 4 n = ((red (4 - k) v).1, (red (4 - k) v).2 + k))) (fun _ u => 4 - (intOf u).toNat)
  case atStart => exact ⟨0, n, by omega, by omega, by omega, rfl, rfl, rfl⟩
  case round =>
    obtain ⟨k, v, hk, hv0, hv1, rfl, rfl, HR⟩ := hrel
    by_cases hc : v ≠ 0 ∧ v % 1024 = 0 ∧ k < 4
    · have HS : Hid (red 4 n = ((red (4 - (k + 1)) (v / 1024)).1, (red (4 - (k + 1)) (v / 1024)).2 + (k + 1))) := red_step k v n hc.2.2 hc.1 hc.2.1 HR.out
      have h1 : (v != 0) = true := by rw [bne_iff_ne]; exact hc.1
      have h2 : (v % 1024 == 0) = true := by simp [hc.2.1]
      have h3 : k < 4 := hc.2.2
      clear hc
      go_wp2_with fail
      go_round
      case rel => exact ⟨k + 1, v / 1024, by omega, by omega, by omega, by go_num, by go_num, HS⟩
      case measure => simp [intOf]; omega
    · have HS : Hid (red 4 n = (v, k)) := red_stop k v n hk hc HR.out
      have HUk : w.cell? ⟨0, k, none⟩ = some (.string ⟨(unitTxt k).toArray⟩) := HU.out.at k hk
      have hl1 := dec_len v (by omega)
      have hl2 := unitTxt_len k
      have key : (v != 0) = false ∨ ((v != 0) = true ∧ (v % 1024 == 0) = false) ∨ ((v != 0) = true ∧ (v % 1024 == 0) = true ∧ ¬ k < 4) := by
        by_cases h1 : v = 0
        · exact .inl (by simp [h1])
        · by_cases h2 : v % 1024 = 0
          · exact .inr (.inr ⟨by rw [bne_iff_ne]; exact h1, by simp [h2], fun h => hc ⟨h1, h2, h⟩⟩)
          · exact .inr (.inl ⟨by rw [bne_iff_ne]; exact h1, by simp [h2]⟩)
      clear hc
      rcases key with h1 | ⟨h1, h2⟩ | ⟨h1, h2, h3⟩
      all_goals
        go_wp2_with fail
        go_region_with (go_at_call 33; refine (itoa_any _ _ hv0 (by omega) ?_).mono ?_; exact HT.out; rintro e w1 ⟨rfl, hbl⟩; have hq : w1.cell? ⟨0, k, none⟩ = some (.string ⟨(unitTxt k).toArray⟩) := (hbl.cell (p := ⟨0, k, none⟩) (World.block_lt_of_cell? w _ HUk)).trans HUk)
        all_goals
          go_wp2_with fail
          go_ret2
          refine ⟨?_, ?_⟩
          · rw [H.out, HS.out]
            exact congrArg (fun x => Ending.returned (.tuple #[.string x, .nilIface])) (str_append (dec v) (unitTxt k))
          · exact (Below.refl _ w).drew.trans hbl
end Go.Proofs.YtfnkmlpgfohjnaaDoor
