/- What package amount's Milli and Bytes answer: contracts. -/
import Derived.Test.YtfnkmlpgfohjnaaDoorAmt
namespace Go.Proofs.YtfnkmlpgfohjnaaDoor
open Go.RowKit
theorem two (b : Bool) : b = true ∨ b = false := by cases b <;> simp
theorem hideIt {p : Prop} (h : p) : Hid p := h
/-- The units' table as its initialiser lays it. -/
structure Units (w : World) : Prop where
  u0 : w.cell? ⟨0, 0, none⟩ = some (.string ⟨#[]⟩)
  u1 : w.cell? ⟨0, 1, none⟩ = some (.string ⟨#[75, 105]⟩)
  u2 : w.cell? ⟨0, 2, none⟩ = some (.string ⟨#[77, 105]⟩)
  u3 : w.cell? ⟨0, 3, none⟩ = some (.string ⟨#[71, 105]⟩)
  u4 : w.cell? ⟨0, 4, none⟩ = some (.string ⟨#[84, 105]⟩)
theorem Units.below {w w' : World} (h : Units w) (hb : Below w.heap.size w w') : Units w' := by
  have k := World.block_lt_of_cell? w _ h.u0
  exact ⟨(hb.cell (p := ⟨0, 0, none⟩) k).trans h.u0, (hb.cell (p := ⟨0, 1, none⟩) k).trans h.u1, (hb.cell (p := ⟨0, 2, none⟩) k).trans h.u2, (hb.cell (p := ⟨0, 3, none⟩) k).trans h.u3, (hb.cell (p := ⟨0, 4, none⟩) k).trans h.u4⟩
def unitV (c : List UInt8 × Int) : Value := .tuple #[.string ⟨c.1.toArray⟩, .int .i64 c.2]
set_option maxHeartbeats 1000000 in
theorem cutUnit_any (s : ByteArray) (w : World) (hs : s.size ≤ 9223372036854775807) (hu : Units w) :
    Calls Tryd.prog 45 #[.string s] w fun e w' => e = .returned (unitV (Ost.cutUnit s.data.toList)) ∧ w' = w := by
  obtain ⟨_, hu1, hu2, hu3, hu4⟩ := hu
  go_enter Tryd.func45, Tryd.ntmps45
  go_wp2_with fail
  go_loop [3, 4] (fun z i => (i = .int .i64 1 ∧ z = .int .i64 1) ∨ (Lib.hasSuffix s.data.toList [75, 105] = false ∧ ((i = .int .i64 2 ∧ z = .int .i64 1024) ∨ (Lib.hasSuffix s.data.toList [77, 105] = false ∧ ((i = .int .i64 3 ∧ z = .int .i64 1048576) ∨ (Lib.hasSuffix s.data.toList [71, 105] = false ∧ ((i = .int .i64 4 ∧ z = .int .i64 1073741824) ∨ (Lib.hasSuffix s.data.toList [84, 105] = false ∧ i = .int .i64 5 ∧ z = .int .i64 1099511627776)))))))) (fun _ i => 5 - (intOf i).toNat)
  case atStart => exact .inl ⟨rfl, rfl⟩
  case round =>
    rcases hrel with ⟨rfl, rfl⟩ | ⟨h1, ⟨rfl, rfl⟩ | ⟨h2, ⟨rfl, rfl⟩ | ⟨h3, ⟨rfl, rfl⟩ | ⟨h4, rfl, rfl⟩⟩⟩⟩
    · rcases two (Lib.hasSuffix s.data.toList [75, 105]) with h1 | h1
      ·
        have H : Hid (Ost.cutUnit s.data.toList = (Lib.trimSuffix s.data.toList [75, 105], 1024)) := by simp [Hid, Ost.cutUnit, h1]
        go_wp2_with fail
        refine (cutSuffix_yes s ⟨#[75, 105]⟩ _ hs h1).mono ?_; rintro e w' ⟨rfl, rfl⟩
        go_wp2_with fail
        go_ret2
        exact ⟨congrArg Ending.returned (congrArg unitV H.out).symm, rfl⟩
      ·
        have H1 : Hid (Lib.hasSuffix s.data.toList [75, 105] = false) := h1
        clear h1
        go_wp2_with fail
        refine (cutSuffix_no s ⟨#[75, 105]⟩ _ hs H1.out).mono ?_; rintro e w' ⟨rfl, rfl⟩
        go_wp2_with fail
        go_round
        case rel => exact .inr ⟨H1, .inl ⟨rfl, rfl⟩⟩
        case measure => simp [intOf]
    · have H1 : Hid (Lib.hasSuffix s.data.toList [75, 105] = false) := h1
      clear h1
      rcases two (Lib.hasSuffix s.data.toList [77, 105]) with h2 | h2
      ·
        have H : Hid (Ost.cutUnit s.data.toList = (Lib.trimSuffix s.data.toList [77, 105], 1048576)) := by simp [Hid, Ost.cutUnit, H1.out, h2]
        go_wp2_with fail
        refine (cutSuffix_yes s ⟨#[77, 105]⟩ _ hs h2).mono ?_; rintro e w' ⟨rfl, rfl⟩
        go_wp2_with fail
        go_ret2
        exact ⟨congrArg Ending.returned (congrArg unitV H.out).symm, rfl⟩
      ·
        have H2 : Hid (Lib.hasSuffix s.data.toList [77, 105] = false) := h2
        clear h2
        go_wp2_with fail
        refine (cutSuffix_no s ⟨#[77, 105]⟩ _ hs H2.out).mono ?_; rintro e w' ⟨rfl, rfl⟩
        go_wp2_with fail
        go_round
        case rel => exact .inr ⟨H1, .inr ⟨H2, .inl ⟨rfl, rfl⟩⟩⟩
        case measure => simp [intOf]
    · have H1 : Hid (Lib.hasSuffix s.data.toList [75, 105] = false) := h1
      have H2 : Hid (Lib.hasSuffix s.data.toList [77, 105] = false) := h2
      clear h1 h2
      rcases two (Lib.hasSuffix s.data.toList [71, 105]) with h3 | h3
      ·
        have H : Hid (Ost.cutUnit s.data.toList = (Lib.trimSuffix s.data.toList [71, 105], 1073741824)) := by simp [Hid, Ost.cutUnit, H1.out, H2.out, h3]
        go_wp2_with fail
        refine (cutSuffix_yes s ⟨#[71, 105]⟩ _ hs h3).mono ?_; rintro e w' ⟨rfl, rfl⟩
        go_wp2_with fail
        go_ret2
        exact ⟨congrArg Ending.returned (congrArg unitV H.out).symm, rfl⟩
      ·
        have H3 : Hid (Lib.hasSuffix s.data.toList [71, 105] = false) := h3
        clear h3
        go_wp2_with fail
        refine (cutSuffix_no s ⟨#[71, 105]⟩ _ hs H3.out).mono ?_; rintro e w' ⟨rfl, rfl⟩
        go_wp2_with fail
        go_round
        case rel => exact .inr ⟨H1, .inr ⟨H2, .inr ⟨H3, .inl ⟨rfl, rfl⟩⟩⟩⟩
        case measure => simp [intOf]
    · have H1 : Hid (Lib.hasSuffix s.data.toList [75, 105] = false) := h1
      have H2 : Hid (Lib.hasSuffix s.data.toList [77, 105] = false) := h2
      have H3 : Hid (Lib.hasSuffix s.data.toList [71, 105] = false) := h3
      clear h1 h2 h3
      rcases two (Lib.hasSuffix s.data.toList [84, 105]) with h4 | h4
      ·
        have H : Hid (Ost.cutUnit s.data.toList = (Lib.trimSuffix s.data.toList [84, 105], 1099511627776)) := by simp [Hid, Ost.cutUnit, H1.out, H2.out, H3.out, h4]
        go_wp2_with fail
        refine (cutSuffix_yes s ⟨#[84, 105]⟩ _ hs h4).mono ?_; rintro e w' ⟨rfl, rfl⟩
        go_wp2_with fail
        go_ret2
        exact ⟨congrArg Ending.returned (congrArg unitV H.out).symm, rfl⟩
      ·
        have H4 : Hid (Lib.hasSuffix s.data.toList [84, 105] = false) := h4
        clear h4
        go_wp2_with fail
        refine (cutSuffix_no s ⟨#[84, 105]⟩ _ hs H4.out).mono ?_; rintro e w' ⟨rfl, rfl⟩
        go_wp2_with fail
        go_round
        case rel => exact .inr ⟨H1, .inr ⟨H2, .inr ⟨H3, .inr ⟨H4, rfl, rfl⟩⟩⟩⟩
        case measure => simp [intOf]
    · have H : Hid (Ost.cutUnit s.data.toList = (s.data.toList, 1)) := by simp [Hid, Ost.cutUnit, h1, h2, h3, h4]
      clear h1 h2 h3 h4
      go_wp2_with fail
      go_ret2
      exact ⟨congrArg Ending.returned (congrArg unitV H.out).symm, rfl⟩

def numErr (p : Int × Int) : Value := .tuple #[.int .i64 p.1, errV p.2]
set_option maxHeartbeats 400000 in
theorem milli_any (s : ByteArray) (w : World) (hs : s.size < 4294967281) (hm : Mx w) :
    Calls Tryd.prog 25 #[.string s] w fun e w' => e = .returned (numErr (Ost.milliOut s.data.toList)) ∧ ∃ n, w' = w.drewN n := by
  have hc := readMilli_any s w hs hm
  cases hr : Ost.milliRaw s.data.toList with
  | none =>
    have H : Hid (Ost.milliOut s.data.toList = (0, 4)) := by simp [Hid, Ost.milliOut, Ost.bound, hr]
    rw [hr, show rawOut none = .tuple #[.int .i64 0, .bool false] from rfl] at hc
    have HC := hideIt hc
    clear hc hr
    go_enter Tryd.func25, Tryd.ntmps25
    go_wp2_with fail
    refine HC.out.mono ?_; rintro e w' ⟨rfl, n, rfl⟩
    go_wp2_with fail
    go_ret2
    exact ⟨congrArg Ending.returned (congrArg numErr H.out).symm, n, rfl⟩
  | some v =>
    rw [hr, show rawOut (some v) = .tuple #[.int .i64 v, .bool true] from rfl] at hc
    have HC := hideIt hc
    clear hc
    by_cases hb : 1000000 < v
    · have H : Hid (Ost.milliOut s.data.toList = (0, 1)) := by simp [Hid, Ost.milliOut, Ost.bound, hr, hb]
      clear hr
      go_enter Tryd.func25, Tryd.ntmps25
      go_wp2_with fail
      refine HC.out.mono ?_; rintro e w' ⟨rfl, n, rfl⟩
      go_wp2_with fail
      go_ret2
      exact ⟨congrArg Ending.returned (congrArg numErr H.out).symm, n, rfl⟩
    · have H : Hid (Ost.milliOut s.data.toList = (v, 0)) := by simp [Hid, Ost.milliOut, Ost.bound, hr, hb]
      clear hr
      go_enter Tryd.func25, Tryd.ntmps25
      go_wp2_with fail
      refine HC.out.mono ?_; rintro e w' ⟨rfl, n, rfl⟩
      go_wp2_with fail
      go_ret2
      exact ⟨congrArg Ending.returned (congrArg numErr H.out).symm, n, rfl⟩
theorem cutUnit_le (l : List UInt8) : (Ost.cutUnit l).1.length ≤ l.length := by
  unfold Ost.cutUnit
  repeat' split
  all_goals first | exact trim_le _ _ | exact Nat.le_refl _
theorem cutUnit_size (l : List UInt8) : (Ost.cutUnit l).2 = 1 ∨ (Ost.cutUnit l).2 = 1024 ∨ (Ost.cutUnit l).2 = 1048576 ∨ (Ost.cutUnit l).2 = 1073741824 ∨ (Ost.cutUnit l).2 = 1099511627776 := by
  unfold Ost.cutUnit
  repeat' split
  all_goals simp
set_option maxHeartbeats 400000 in
theorem bytes_any (s : ByteArray) (w : World) (hs : s.size < 4294967281) (hu : Units w) :
    Calls Tryd.prog 27 #[.string s] w fun e w' => e = .returned (numErr (Ost.bytesOut s.data.toList)) ∧ w' = w := by
  have hc := cutUnit_any s w (by omega) hu
  have hz := cutUnit_size s.data.toList
  have HS : (ByteArray.mk (Ost.cutUnit s.data.toList).1.toArray).size ≤ maxLen := by
    have := cutUnit_le s.data.toList; rw [show s.data.toList.length = s.size by simp] at this
    show (Ost.cutUnit s.data.toList).1.toArray.size ≤ _; unfold maxLen; simp; omega
  unfold unitV at hc
  have HO : Hid (∀ p, (if Ost.good 16 (Ost.cutUnit s.data.toList).1 then (if 1125899906842624 / (Ost.cutUnit s.data.toList).2 < Ost.val (Ost.cutUnit s.data.toList).1 then (0, 1) else (Ost.val (Ost.cutUnit s.data.toList).1 * (Ost.cutUnit s.data.toList).2, 0)) else (0, 4)) = p → Ost.bytesOut s.data.toList = p) := fun p h => h
  generalize (Ost.cutUnit s.data.toList).1 = t at hc HS HO
  generalize (Ost.cutUnit s.data.toList).2 = z at hc hz HO
  have HC := hideIt hc
  clear hc
  cases hg : Ost.good 16 t with
  | false =>
    have H : Hid (Ost.bytesOut s.data.toList = (0, 4)) := HO.out _ (by simp [hg])
    clear hz HO
    go_enter Tryd.func27, Tryd.ntmps27
    go_wp2_with fail
    refine HC.out.mono ?_; rintro e w' ⟨rfl, rfl⟩
    go_wp2_with fail
    refine (read_no ⟨t.toArray⟩ 16 _ HS hg).mono ?_; rintro e w' ⟨rfl, rfl⟩
    go_wp2_with fail
    go_ret2
    exact ⟨congrArg Ending.returned (congrArg numErr H.out).symm, rfl⟩
  | true =>
    have hv := (good_val 16 t hg).1
    by_cases hb : 1125899906842624 / z < Ost.val t
    · have H : Hid (Ost.bytesOut s.data.toList = (0, 1)) := HO.out _ (by simp [hg, hb])
      clear HO
      have hz1 : (z == 0) = false := by rcases hz with e | e | e | e | e <;> subst e <;> rfl
      have hz2 : 0 < z := by omega
      clear hz
      go_enter Tryd.func27, Tryd.ntmps27
      go_wp2_with fail
      refine HC.out.mono ?_; rintro e w' ⟨rfl, rfl⟩
      go_wp2_with fail
      refine (read_yes ⟨t.toArray⟩ 16 _ HS hg).mono ?_; rintro e w' ⟨rfl, rfl⟩
      go_wp2_with fail
      go_ret2
      exact ⟨congrArg Ending.returned (congrArg numErr H.out).symm, rfl⟩
    · have H : Hid (Ost.bytesOut s.data.toList = (Ost.val t * z, 0)) := HO.out _ (by simp [hg, hb])
      clear HO
      have hb1 : Ost.val t * z ≤ 1125899906842624 := by rcases hz with e | e | e | e | e <;> subst e <;> omega
      have hb2 : 0 ≤ Ost.val t * z := by rcases hz with e | e | e | e | e <;> subst e <;> omega
      have hz1 : (z == 0) = false := by rcases hz with e | e | e | e | e <;> subst e <;> rfl
      have hz2 : 0 < z := by omega
      clear hz
      go_enter Tryd.func27, Tryd.ntmps27
      go_wp2_with fail
      refine HC.out.mono ?_; rintro e w' ⟨rfl, rfl⟩
      go_wp2_with fail
      refine (read_yes ⟨t.toArray⟩ 16 _ HS hg).mono ?_; rintro e w' ⟨rfl, rfl⟩
      go_wp2_with fail
      go_ret2
      exact ⟨congrArg Ending.returned (congrArg numErr H.out).symm, rfl⟩
end Go.Proofs.YtfnkmlpgfohjnaaDoor
