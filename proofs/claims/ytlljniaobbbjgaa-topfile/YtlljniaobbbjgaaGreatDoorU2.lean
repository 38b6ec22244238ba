/- Amt, VS1, SMath2, Same, VI1, DEnv, VI4, DW1, VD1, DLight, Amt2, VHMath -/
import Derived.Test.YtlljniaobbbjgaaGreatDoorU1
import Derived.Test.YtlljniaobbbjgaaGreatDoorShelf
import Derived.RangeFuncNested
import Derived.RangeFuncBound
import Derived.RangeFuncCalls
import Derived.RangeFuncLeaves
import Derived.RangeFuncBox
import Derived.RangeFuncWrites
import Derived.Shelf.Abstract
import Derived.Shelf.RegionOpen
import Derived.WalkKit
import Derived.OwnWalkIn
import Derived.TacticsInMore
import Derived.LoopNIn
import Derived.LoopIn
import Derived.ProofKit
import Derived.OpenShut
import Derived.ChangeOld
import Derived.Deep.Strs
import Derived.Deep.Slices
import Derived.Carry
import Derived.JoinedOf
import Derived.JoinedAt
import Derived.OrdersHeld
import Derived.OrdersIn
import Derived.Lib.ItoaLen
namespace Go.Proofs.YtlljniaobbbjgaaGreatDoor.S1
open Go.RowKit
/-- An error's number as Go's value. -/
def errV (n : Int) : Value := if n = 0 then .nilIface else .iface 80 (.int .i64 n)
theorem read_yes (s : ByteArray) (m : Int) (w : World) (hs : s.size ≤ maxLen) (h : Ost.good m s.data.toList = true) :
    Calls Tryz.prog 119 #[.string s, .int .i64 m] w fun e w' => e = .returned (.tuple #[.int .i64 (Ost.val s.data.toList), .bool true]) ∧ w' = w := by
  have := read_any s m w hs
  rw [readOut_yes h] at this; exact this
theorem read_no (s : ByteArray) (m : Int) (w : World) (hs : s.size ≤ maxLen) (h : Ost.good m s.data.toList = false) :
    Calls Tryz.prog 119 #[.string s, .int .i64 m] w fun e w' => e = .returned (.tuple #[.int .i64 0, .bool false]) ∧ w' = w := by
  have := read_any s m w hs
  rw [readOut_no h] at this; exact this

/-- What amount.readPlaces answers. -/
def placesOut (l : List UInt8) : Value := if Ost.placesOk l then .tuple #[.int .i64 (Ost.val (Ost.pad l)), .bool true] else .tuple #[.int .i64 0, .bool false]
theorem placesOut_yes {l : List UInt8} (h : Ost.placesOk l = true) : placesOut l = .tuple #[.int .i64 (Ost.val (Ost.pad l)), .bool true] := by simp [placesOut, h]
theorem placesOut_no {l : List UInt8} (h : Ost.placesOk l = false) : placesOut l = .tuple #[.int .i64 0, .bool false] := by simp [placesOut, h]
theorem trim_le (s p : List UInt8) : (Lib.trimSuffix s p).length ≤ s.length := by
  unfold Lib.trimSuffix; split
  · simp
  · exact Nat.le_refl _
theorem cut1_le (c : UInt8) (l : List UInt8) : (Ost.cut1 c l).1.length ≤ l.length ∧ (Ost.cut1 c l).2.1.length ≤ l.length := by
  rcases Ost.cut1_index c l with ⟨_, h⟩ | ⟨i, _, h⟩ <;> rw [h] <;> simp <;> omega

/-- The library's variable that strings.Cut may look at holds some number. -/
def Mx (w : World) : Prop := ∃ m : Int, w.cell? ⟨0, 0, none⟩ = some (.int .i64 m)
theorem Mx.below {w w' : World} (h : Mx w) (hb : Below w.heap.size w w') : Mx w' := by
  obtain ⟨m, hm⟩ := h
  exact ⟨m, (hb.cell (p := ⟨0, 0, none⟩) (World.block_lt_of_cell? w _ hm)).trans hm⟩
theorem cut_any (s : ByteArray) (c : UInt8) (w : World) (hs : s.size < 4294967281) (hm : Mx w) :
    Calls Tryz.prog 121 #[.string s, .string ⟨#[c]⟩] w fun e w' => e = .returned (.tuple #[.string ⟨(Ost.cut1 c s.data.toList).1.toArray⟩, .string ⟨(Ost.cut1 c s.data.toList).2.1.toArray⟩, .bool (Ost.cut1 c s.data.toList).2.2]) ∧ ∃ n, w' = w.drewN n := by
  obtain ⟨m, hm⟩ := hm
  have := Tryz.strings_Cut s ⟨#[c]⟩ m w hs hm
  rw [show Lib.cut s.data.toList (ByteArray.mk #[c]).data.toList = Ost.cut1 c s.data.toList from Ost.cut_one c _] at this
  exact this
theorem cut_yes (s : ByteArray) (c : UInt8) (w : World) (hs : s.size < 4294967281) (hm : Mx w) (h : (Ost.cut1 c s.data.toList).2.2 = true) :
    Calls Tryz.prog 121 #[.string s, .string ⟨#[c]⟩] w fun e w' => e = .returned (.tuple #[.string ⟨(Ost.cut1 c s.data.toList).1.toArray⟩, .string ⟨(Ost.cut1 c s.data.toList).2.1.toArray⟩, .bool true]) ∧ ∃ n, w' = w.drewN n := by
  have := cut_any s c w hs hm
  rw [h] at this; exact this
theorem cut_no (s : ByteArray) (c : UInt8) (w : World) (hs : s.size < 4294967281) (hm : Mx w) (h : (Ost.cut1 c s.data.toList).2.2 = false) :
    Calls Tryz.prog 121 #[.string s, .string ⟨#[c]⟩] w fun e w' => e = .returned (.tuple #[.string ⟨(Ost.cut1 c s.data.toList).1.toArray⟩, .string ⟨(Ost.cut1 c s.data.toList).2.1.toArray⟩, .bool false]) ∧ ∃ n, w' = w.drewN n := by
  have := cut_any s c w hs hm
  rw [h] at this; exact this

/-- What amount.readMilli answers. -/
def rawOut : Option Int → Value
  | none => .tuple #[.int .i64 0, .bool false]
  | some v => .tuple #[.int .i64 v, .bool true]
theorem good_val (m : Int) (l : List UInt8) (h : Ost.good m l = true) : 0 ≤ Ost.val l ∧ Ost.val l < 10 ^ l.length ∧ (l.length : Int) ≤ m := by
  obtain ⟨⟨_, _, h3⟩, h4, _⟩ := (Ost.good_iff m l).1 h
  exact ⟨Ost.val_nonneg l h3, Ost.val_lt_pow l h3, h4⟩
theorem good6_val (l : List UInt8) (h : Ost.good 6 l = true) : 0 ≤ Ost.val l ∧ Ost.val l ≤ 999999 := by
  obtain ⟨h1, h2, h3⟩ := good_val 6 l h
  refine ⟨h1, ?_⟩
  have : l.length = 0 ∨ l.length = 1 ∨ l.length = 2 ∨ l.length = 3 ∨ l.length = 4 ∨ l.length = 5 ∨ l.length = 6 := by omega
  rcases this with e | e | e | e | e | e | e <;> rw [e] at h2 <;> omega
theorem places_val (l : List UInt8) (h : Ost.placesOk l = true) : 0 ≤ Ost.val (Ost.pad l) ∧ Ost.val (Ost.pad l) ≤ 999 := by
  unfold Ost.placesOk at h
  rw [Bool.and_eq_true, decide_eq_true_eq] at h
  have := Ost.val_pad_bound l h.2 3 (by omega) h.1.2
  rw [List.take_of_length_le (by rw [Ost.pad_length l h.1.2]; omega)] at this
  exact this
end Go.Proofs.YtlljniaobbbjgaaGreatDoor.S1
namespace Go.Proofs.YtlljniaobbbjgaaGreatDoor
open Go.RowKit
theorem byte_at (s : ByteArray) (k : Nat) (h2 : k < s.data.toList.length) : s.data.toList[k] = s[k]'(by simpa using h2) := by simp [ByteArray.getElem_eq_getElem_data]
set_option maxHeartbeats 400000 in
theorem sum_any (s : ByteArray) (w : World) (hs : s.size ≤ maxLen) :
    Calls Tryz.prog 20 #[.string s] w fun e w' => e = .returned (.int .u32 (Sv.fnv s.data.toList : Nat)) ∧ w' = w := by
  unfold maxLen at hs
  have HL : Hid (s.data.toList.length = s.size) := by unfold Hid; simp
  go_enter Tryz.func20, Tryz.ntmps20
  go_wp2_with fail
  go_loop [3, 7] (fun h i => ∃ k : Nat, k ≤ s.size ∧ i = .int .i64 k ∧ h = .int .u32 (Sv.fnv (s.data.toList.take k) : Nat)) (fun _ i => s.size - (intOf i).toNat)
  case atStart => exact ⟨0, by omega, rfl, by simp [Sv.fnv]⟩
  case round =>
    obtain ⟨k, hk, rfl, rfl⟩ := hrel
    by_cases hlt : k < s.size
    · have hlt2 : k < s.data.toList.length := by rw [HL.out]; exact hlt
      have HN := hideIt (Sv.fnv_take hlt2)
      rw [byte_at s k hlt2] at HN
      have hh := Sv.fnv_lt (s.data.toList.take k)
      generalize Sv.fnv (s.data.toList.take k) = H at *
      have hb : s[k].toNat < 4294967296 := by have := s[k].toNat_lt; omega
      have hx := Sv.xor_u32 hh hb
      have hm := Sv.step_u32 H s[k]
      go_wp2_with fail
      go_round
      case rel => exact ⟨k + 1, by omega, rfl, by rw [HN.out]⟩
      case measure => simp [intOf]; omega
    · have hke : k = s.size := by omega
      subst hke
      have HE : Hid (s.data.toList.take s.size = s.data.toList) := by unfold Hid; rw [← HL.out, List.take_length]
      go_wp2_with fail
      go_ret
      exact ⟨congrArg (fun l => Ending.returned (.int .u32 (Sv.fnv l : Nat))) HE.out, rfl⟩
set_option maxHeartbeats 400000 in
theorem refSum_any (s : ByteArray) (w : World) (hs : s.size ≤ maxLen) :
    Calls Tryz.prog 21 #[.string s] w fun e w' => e = .returned (.int .i64 (Sv.fnv s.data.toList : Nat)) ∧ w' = w := by
  unfold maxLen at hs
  have HL : Hid (s.data.toList.length = s.size) := by unfold Hid; simp
  go_enter Tryz.func21, Tryz.ntmps21
  go_wp2_with fail
  go_loop [3, 4] (fun h i => ∃ k : Nat, k ≤ s.size ∧ i = .int .i64 k ∧ h = .int .i64 (Sv.fnv (s.data.toList.take k) : Nat)) (fun _ i => s.size - (intOf i).toNat)
  case atStart => exact ⟨0, by omega, rfl, by simp [Sv.fnv]⟩
  case round =>
    obtain ⟨k, hk, rfl, rfl⟩ := hrel
    by_cases hlt : k < s.size
    · have hlt2 : k < s.data.toList.length := by rw [HL.out]; exact hlt
      have HN := hideIt (Sv.fnv_take hlt2)
      rw [byte_at s k hlt2] at HN
      have hh := Sv.fnv_lt (s.data.toList.take k)
      generalize Sv.fnv (s.data.toList.take k) = H at *
      have hb : s[k].toNat < 4294967296 := by have := s[k].toNat_lt; omega
      have hx := Sv.xor_i64 hh hb
      obtain ⟨hm, hm2⟩ := Sv.step_i64 hh s[k]
      have hm3 : (0 : Int) ≤ ((H ^^^ s[k].toNat : Nat) : Int) * 16777619 := by omega
      go_wp2_with fail
      go_round
      case rel => exact ⟨k + 1, by omega, rfl, by rw [HN.out]⟩
      case measure => simp [intOf]; omega
    · have hke : k = s.size := by omega
      subst hke
      have HE : Hid (s.data.toList.take s.size = s.data.toList) := by unfold Hid; rw [← HL.out, List.take_length]
      go_wp2_with fail
      go_ret
      exact ⟨congrArg (fun l => Ending.returned (.int .i64 (Sv.fnv l : Nat))) HE.out, rfl⟩
end Go.Proofs.YtlljniaobbbjgaaGreatDoor
namespace Go.Proofs.YtlljniaobbbjgaaGreatDoor
namespace Ost
theorem spansTo_half (A k : Nat) : 2 * (spansTo A k).length ≤ k + 1 ∧ (A.testBit k = true → 2 * (spansTo A k).length ≤ k) := by
  induction k with
  | zero => simp [spansTo]
  | succ k ih =>
    unfold spansTo
    by_cases h : A.testBit k = true
    · by_cases h1 : A.testBit (k + 1) = true
      · simp [h, h1]; omega
      · have h1' : A.testBit (k + 1) = false := by simpa using h1
        simp [h, h1']
        have := ih.2 h
        omega
    · have h' : A.testBit k = false := by simpa using h
      simp [h']; omega
theorem dd_two (n : Nat) (h : n < 100) : (Lib.decDigits n).length ≤ 2 := decN_len 1 n (by omega)
theorem spanTxt_len (f l : Nat) (hf : f < 64) (hl : l < 64) : (spanTxt (f, l)).length ≤ 5 := by
  have h1 := dd_two f (by omega)
  have h2 := dd_two l (by omega)
  unfold spanTxt
  split
  · exact Nat.le_trans h1 (by omega)
  · simp; omega
theorem runStart_le' (A k : Nat) : runStart A k ≤ k := by
  induction k with
  | zero => exact Nat.le_refl _
  | succ k ih => unfold runStart; split <;> omega
theorem spansTo_mem (A k : Nat) (p : Nat × Nat) (h : p ∈ spansTo A k) : p.1 ≤ p.2 ∧ p.2 < k := by
  induction k with
  | zero => simp [spansTo] at h
  | succ k ih =>
    unfold spansTo at h
    split at h
    · rcases List.mem_append.1 h with h | h
      · have := ih h; omega
      · simp at h; subst h; exact ⟨runStart_le' A k, by omega⟩
    · have := ih h; omega
theorem joined_len (l : List (Nat × Nat)) (h : ∀ p ∈ l, p.1 ≤ p.2 ∧ p.2 < 64) : (joined l).length ≤ 6 * l.length := by
  have key : ∀ r : List (Nat × Nat), (∀ p ∈ r.reverse, p.1 ≤ p.2 ∧ p.2 < 64) → (joined r.reverse).length ≤ 6 * r.reverse.length := by
    intro r
    induction r with
    | nil => intro _; simp [joined, Lib.join, List.intercalate]
    | cons p r ih =>
      intro hr
      rw [List.reverse_cons] at hr ⊢
      have h1 := ih (fun q hq => hr q (List.mem_append.2 (.inl hq)))
      have h2 := hr p (List.mem_append.2 (.inr (by simp)))
      have h3 : (spanTxt p).length ≤ 5 := spanTxt_len p.1 p.2 (by omega) (by omega)
      rw [joined_snoc, List.length_append]
      split
      · simp only [List.length_cons, List.length_nil]; omega
      · rw [List.length_append, List.length_append]; simp only [List.length_cons, List.length_nil]; omega
  have := key l.reverse (by simpa using h)
  simpa using this
def txt (A : Nat) : List UInt8 := joined (spansTo A 64)
theorem txt_len (A : Nat) : (txt A).length ≤ 300 := by
  have h1 := joined_len (spansTo A 64) (fun p hp => spansTo_mem A 64 p hp)
  have h2 := (spansTo_half A 64).1
  unfold txt; omega
/-- A text's parts between a byte. -/
def splitC (c : UInt8) : List UInt8 → List (List UInt8)
  | [] => [[]]
  | b :: r => if b = c then [] :: splitC c r else
    match splitC c r with
    | [] => [[b]]
    | x :: xs => (b :: x) :: xs
theorem splitC_ne (c : UInt8) (l : List UInt8) : splitC c l ≠ [] := by
  cases l with
  | nil => simp [splitC]
  | cons b r =>
    unfold splitC
    split
    · simp
    · split <;> simp
theorem splitC_none (c : UInt8) (l : List UInt8) (h : c ∉ l) : splitC c l = [l] := by
  induction l with
  | nil => rfl
  | cons b r ih =>
    simp at h
    rw [splitC, if_neg (fun e => h.1 e.symm), ih h.2]
theorem splitC_cut (c : UInt8) (l r : List UInt8) (h : c ∉ l) : splitC c (l ++ c :: r) = l :: splitC c r := by
  induction l with
  | nil => simp [splitC]
  | cons b l ih =>
    simp at h
    rw [List.cons_append, splitC, if_neg (fun e => h.1 e.symm), ih h.2]
theorem splitC_join (c : UInt8) (xs : List (List UInt8)) (h : ∀ x ∈ xs, c ∉ x) (hne : xs ≠ []) : splitC c (Lib.join xs [c]) = xs := by
  induction xs with
  | nil => exact absurd rfl hne
  | cons a r ih =>
    cases r with
    | nil => simp [Lib.join, List.intercalate]; exact splitC_none c a (h a (by simp))
    | cons b t =>
      have e : Lib.join (a :: b :: t) [c] = a ++ c :: Lib.join (b :: t) [c] := by simp [Lib.join, List.intercalate, List.intersperse]
      rw [e, splitC_cut c _ _ (h a (by simp)), ih (fun x hx => h x (by simp at hx ⊢; exact .inr hx)) (by simp)]
/-- Two numbers of a span. -/
def spanOf (t : List UInt8) : Option (Int × Int) :=
  if (cut1 45 t).2.2 then
    (if (good 19 (cut1 45 t).1 && good 19 (cut1 45 t).2.1 && decide (val (cut1 45 t).1 ≤ val (cut1 45 t).2.1)) then some (val (cut1 45 t).1, val (cut1 45 t).2.1) else none)
  else if good 19 (cut1 45 t).1 then some (val (cut1 45 t).1, val (cut1 45 t).1) else none
/-- The numbers from f on, so many. -/
def rb (f : Nat) : Nat → Nat
  | 0 => 0
  | m + 1 => rb f m ||| 2 ^ (f + m)
/-- What spans are, one after another, and an error's number. -/
def pieces (acc : Nat) : List (List UInt8) → Nat × Int
  | [] => (acc, 0)
  | t :: r => match spanOf t with
    | none => (0, 4)
    | some (f, l) => if 63 < l then (0, 1) else pieces (acc ||| rb f.toNat (l - f + 1).toNat) r
def parseOut (l : List UInt8) : Nat × Int := if 300 < l.length then (0, 2) else if l = [] then (0, 0) else pieces 0 (splitC 44 l)
theorem dig_not (n : Nat) (c : UInt8) (hc : isDig c = false) : c ∉ Lib.decDigits n := by
  intro hm
  have := List.all_eq_true.1 (decN_all n).1 c hm
  rw [hc] at this; cases this
theorem good19 (n : Nat) (h : n < 64) : good 19 (Lib.decDigits n) = true := by
  have h1 := decN_good n 1 (by omega) (by omega)
  obtain ⟨a, b, c⟩ := (good_iff _ _).1 h1
  exact (good_iff _ _).2 ⟨a, Int.le_trans b (by omega), c⟩
theorem cut1_at (c : UInt8) (l r : List UInt8) (h : c ∉ l) : cut1 c (l ++ c :: r) = (l, r, true) := by
  induction l with
  | nil => simp [cut1]
  | cons b l ih =>
    simp at h
    rw [List.cons_append, cut1, if_neg (fun e => h.1 e.symm), ih h.2]
theorem cut1_not (c : UInt8) (l : List UInt8) (h : c ∉ l) : cut1 c l = (l, [], false) := by
  induction l with
  | nil => rfl
  | cons b l ih =>
    simp at h
    rw [cut1, if_neg (fun e => h.1 e.symm), ih h.2]
theorem spanOf_txt (f l : Nat) (h : f ≤ l) (hl : l < 64) : spanOf (spanTxt (f, l)) = some ((f : Int), (l : Int)) := by
  have v1 : val (Lib.decDigits f) = f := (decN_all f).2
  have v2 : val (Lib.decDigits l) = l := (decN_all l).2
  unfold spanTxt
  by_cases e : f = l
  · subst e
    rw [if_pos rfl]
    unfold spanOf
    rw [cut1_not 45 _ (dig_not f 45 (by decide)), good19 f hl, v1]; simp
  · rw [if_neg e]
    unfold spanOf
    rw [List.append_assoc, List.singleton_append, cut1_at 45 _ _ (dig_not f 45 (by decide)), good19 f (by omega), good19 l hl, v1, v2]
    have : (f : Int) ≤ l := by omega
    simp [this]
theorem rb_bit (f m i : Nat) : (rb f m).testBit i = decide (f ≤ i ∧ i < f + m) := by
  induction m with
  | zero => simp [rb]
  | succ m ih =>
    rw [rb, Nat.testBit_or, ih, Nat.testBit_two_pow]
    rw [Bool.eq_iff_iff]
    simp
    omega
def orSpans (acc : Nat) (l : List (Nat × Nat)) : Nat := l.foldl (fun s p => s ||| rb p.1 (p.2 - p.1 + 1)) acc
theorem pieces_spans (l : List (Nat × Nat)) (h : ∀ p ∈ l, p.1 ≤ p.2 ∧ p.2 < 64) (acc : Nat) : pieces acc (l.map spanTxt) = (orSpans acc l, 0) := by
  induction l generalizing acc with
  | nil => rfl
  | cons p r ih =>
    have hp := h p (by simp)
    rw [List.map_cons, pieces, show spanTxt p = spanTxt (p.1, p.2) from rfl, spanOf_txt p.1 p.2 hp.1 hp.2]
    simp only
    rw [if_neg (by omega), ih (fun q hq => h q (by simp [hq]))]
    rw [show ((p.1 : Nat) : Int).toNat = p.1 by omega, show (((p.2 : Nat) : Int) - (p.1 : Nat) + 1).toNat = p.2 - p.1 + 1 by omega]
    rfl
theorem run_bits (A k i : Nat) (hk : A.testBit k = true) (h1 : runStart A k ≤ i) (h2 : i ≤ k) : A.testBit i = true := by
  induction k with
  | zero => obtain rfl : i = 0 := by omega
            exact hk
  | succ k ih =>
    by_cases e : i = k + 1
    · subst e; exact hk
    · unfold runStart at h1
      by_cases hb : A.testBit k = true
      · rw [if_pos hb] at h1; exact ih hb h1 (by omega)
      · rw [if_neg hb] at h1; omega
theorem orSpans_bit (A k i : Nat) : (orSpans 0 (spansTo A k)).testBit i = (A.testBit i && decide (i < if A.testBit k then runStart A k else k)) := by
  induction k with
  | zero =>
    have e : (if A.testBit 0 then runStart A 0 else 0) = 0 := by split <;> rfl
    rw [e]
    simp [spansTo, orSpans]
  | succ k ih =>
    by_cases hb : A.testBit k = true
    · rw [if_pos hb] at ih
      by_cases hq : A.testBit (k + 1) = true
      · rw [if_pos hq, show spansTo A (k + 1) = spansTo A k by simp [spansTo, hq], ih, runStart, if_pos hb]
      · have hq' : A.testBit (k + 1) = false := by simpa using hq
        rw [if_neg hq, show spansTo A (k + 1) = spansTo A k ++ [(runStart A k, k)] by simp [spansTo, hb, hq']]
        have e : orSpans 0 (spansTo A k ++ [(runStart A k, k)]) = orSpans 0 (spansTo A k) ||| rb (runStart A k) (k - runStart A k + 1) := by simp [orSpans]
        rw [e, Nat.testBit_or, ih, rb_bit]
        have hr := runStart_le' A k
        by_cases h1 : i < runStart A k
        · rw [decide_eq_true h1, decide_eq_false (by omega), decide_eq_true (show i < k + 1 by omega)]; simp
        · by_cases h2 : i ≤ k
          · rw [run_bits A k i hb (by omega) h2, decide_eq_true (show runStart A k ≤ i ∧ i < runStart A k + (k - runStart A k + 1) by omega), decide_eq_true (show i < k + 1 by omega)]; simp
          · rw [decide_eq_false h1, decide_eq_false (show ¬ (runStart A k ≤ i ∧ i < runStart A k + (k - runStart A k + 1)) by omega), decide_eq_false (show ¬ i < k + 1 by omega)]; simp
    · have hb' : A.testBit k = false := by simpa using hb
      rw [if_neg hb] at ih
      rw [show spansTo A (k + 1) = spansTo A k by simp [spansTo, hb'], ih]
      have e : (if A.testBit (k + 1) then runStart A (k + 1) else k + 1) = k + 1 := by
        split
        · rw [runStart, if_neg hb]
        · rfl
      rw [e]
      by_cases h1 : i = k
      · subst h1; rw [hb']; simp
      · have : decide (i < k) = decide (i < k + 1) := by
          by_cases h2 : i < k
          · rw [decide_eq_true h2, decide_eq_true (by omega)]
          · rw [decide_eq_false h2, decide_eq_false (by omega)]
        rw [this]
theorem bit_high (A : Nat) (hA : A < 18446744073709551616) (i : Nat) (h : 64 ≤ i) : A.testBit i = false :=
  Nat.testBit_lt_two_pow (Nat.lt_of_lt_of_le hA (Nat.pow_le_pow_right (n := 2) (by omega) h))
theorem orSpans_all (A : Nat) (hA : A < 18446744073709551616) : orSpans 0 (spansTo A 64) = A := by
  apply Nat.eq_of_testBit_eq
  intro i
  rw [orSpans_bit, bit_high A hA 64 (Nat.le_refl _)]
  by_cases h : i < 64
  · rw [decide_eq_true (by simpa using h), Bool.and_true]
  · rw [bit_high A hA i (by omega)]; rfl
/-- A SET'S TEXT IS READ AS IT. -/
theorem parse_txt (A : Nat) (hA : A < 18446744073709551616) : parseOut (txt A) = (A, 0) := by
  unfold parseOut
  have hl := txt_len A
  rw [if_neg (by omega)]
  by_cases he : spansTo A 64 = []
  · have h0 : txt A = [] := by unfold txt; rw [he]; rfl
    rw [if_pos h0]
    have := orSpans_all A hA
    rw [he] at this
    rw [← this]; rfl
  · have hne : txt A ≠ [] := fun e => he ((joined_nil _).1 e)
    rw [if_neg hne]
    have hs : splitC 44 (txt A) = (spansTo A 64).map spanTxt := by
      refine splitC_join 44 _ ?_ (by simpa using he)
      intro x hx
      obtain ⟨p, _, rfl⟩ := List.mem_map.1 hx
      unfold spanTxt
      have d := fun n => dig_not n 44 (by decide)
      split
      · exact d _
      · simp; exact ⟨d _, d _⟩
    rw [hs, pieces_spans _ (fun p hp => spansTo_mem A 64 p hp), orSpans_all A hA]
theorem txt_inj (A B : Nat) (hA : A < 18446744073709551616) (hB : B < 18446744073709551616) : txt A = txt B ↔ A = B := by
  constructor
  · intro h
    have h1 := parse_txt A hA
    rw [h, parse_txt B hB] at h1
    exact (Prod.mk.inj h1).1.symm
  · rintro rfl; rfl
/-- How many. -/
theorem count_andor (A B k : Nat) : (listTo A k).length + (listTo B k).length = (listTo (A &&& B) k).length + (listTo (A ||| B) k).length := by
  induction k with
  | zero => rfl
  | succ k ih =>
    rw [listTo_succ, listTo_succ, listTo_succ, listTo_succ, Nat.testBit_and, Nat.testBit_or]
    cases A.testBit k <;> cases B.testBit k <;> simp <;> omega
end Ost
end Go.Proofs.YtlljniaobbbjgaaGreatDoor
namespace Go.Proofs.YtlljniaobbbjgaaGreatDoor.S1
open Go.RowKit
theorem errV_zero : errV 0 = .nilIface := rfl
theorem errV_pos {f : Int} (h : 0 < f) : errV f = .iface 80 (.int .i64 f) := by unfold errV; rw [if_neg (by omega)]
set_option maxHeartbeats 400000 in
theorem same_zero (w : World) : Calls Tryz.prog 10 #[.nilIface, .int .i64 0] w fun e w' => e = .returned (.bool true) ∧ w' = w := by
  go_enter Tryz.func10, Tryz.ntmps10
  go_wp2_with fail
  go_ret
  exact ⟨rfl, rfl⟩
theorem run_assert (f : Int) (w : World) : (Instr.typeAssert (.iface 80 (.int .i64 f)) 27 80 true).run Tryz.prog w = .ok (.tuple #[.int .i64 f, .bool true]) w := by kernel_rfl
set_option maxRecDepth 100000 in
set_option maxHeartbeats 400000 in
theorem same_pos (f : Int) (w : World) (h : 0 < f) : Calls Tryz.prog 10 #[.iface 80 (.int .i64 f), .int .i64 f] w fun e w' => e = .returned (.bool true) ∧ w' = w := by
  have hta := run_assert f
  go_enter Tryz.func10, Tryz.ntmps10
  go_wp2_with fail
  go_ret
  exact ⟨rfl, rfl⟩
theorem same_any (f : Int) (w : World) (h : 0 ≤ f) : Calls Tryz.prog 10 #[errV f, .int .i64 f] w fun e w' => e = .returned (.bool true) ∧ w' = w := by
  by_cases h0 : f = 0
  · subst h0; exact same_zero w
  · rw [errV_pos (by omega)]; exact same_pos f w (by omega)
end Go.Proofs.YtlljniaobbbjgaaGreatDoor.S1
namespace Go.Proofs.YtlljniaobbbjgaaGreatDoor
open Go.RowKit
/-- All lies as it lay, but what K names; there may be more. -/
structure Apart (K : Nat → Prop) (W W' : World) : Prop where
  os : W'.os = W.os
  tape : W'.tape = W.tape
  output : W'.output = W.output
  size : W.heap.size ≤ W'.heap.size
  block : ∀ j, j < W.heap.size → ¬ K j → W'.heap[j]? = W.heap[j]?
theorem Apart.refl (K : Nat → Prop) (W : World) : Apart K W W := ⟨rfl, rfl, rfl, Nat.le_refl _, fun _ _ _ => rfl⟩
theorem Apart.trans {K : Nat → Prop} {A B C : World} (h : Apart K A B) (k : Apart K B C) : Apart K A C :=
  ⟨k.os.trans h.os, k.tape.trans h.tape, k.output.trans h.output, Nat.le_trans h.size k.size, fun j hj hk => (k.block j (Nat.lt_of_lt_of_le hj h.size) hk).trans (h.block j hj hk)⟩
theorem Apart.wide {K K' : Nat → Prop} {A B : World} (h : Apart K A B) (hk : ∀ j, K j → K' j) : Apart K' A B :=
  ⟨h.os, h.tape, h.output, h.size, fun j hj hn => h.block j hj fun e => hn (hk j e)⟩
theorem Apart.of_below {K : Nat → Prop} {W W' : World} (h : Below W.heap.size W W') : Apart K W W' := ⟨h.os, h.tape, h.output, h.size, fun j hj _ => h.block j hj⟩
theorem Apart.alloc (K : Nat → Prop) (W : World) (o : Obj) : Apart K W (W.alloc o) := .of_below ((Below.refl _ W).alloc (Nat.le_refl _) o)
theorem Apart.drewN (K : Nat → Prop) (W : World) (n : Nat) : Apart K W (W.drewN n) := ⟨rfl, rfl, rfl, Nat.le_refl _, fun _ _ _ => rfl⟩
theorem Apart.putObj {K : Nat → Prop} {l : Nat} (hl : K l) (W : World) (o : Obj) : Apart K W (W.putObj l o) :=
  have hg := grownBy_putObj' W l o
  ⟨hg.os, hg.tape, hg.output, hg.size, fun j hj hn => hg.block j hj fun e => hn (by cases e; exact hl)⟩
theorem Apart.setCell {K : Nat → Prop} {b : Nat} (hb : K b) (W : World) (j : Nat) (v : Value) : Apart K W (W.setCell ⟨b, j, none⟩ v) :=
  ⟨rfl, rfl, rfl, (KeepsWalks.setCell W _ v).size, fun k _ hn => Below.heap_setCell _ _ _ k fun e => hn (by rw [e]; exact hb)⟩
section
variable {F : Fence} {n : Nat} {P : Program}
/-- An iterator that hands out just these, one behind the other, and writes what K names alone. -/
def IterW (F : Fence) (n : Nat) (P : Program) (gf : Nat) (lb : Array Value) (K : Nat → Prop) (ts : List (Array Value)) (w : World) : Prop :=
  ∀ (l : Nat) (J : Nat → World → Prop) (Jx : World → Prop) (W : World), (∀ j, K j → W.heap[j]? = w.heap[j]?) → (∀ k A B, J k A → Apart K A B → J k B) →
    (∀ k A, (hk : k < ts.length) → J k A → YieldAt F (n - 1) P l ts[k] A fun e B => (e = .returned (.bool true) ∧ J (k + 1) B ∧ ∀ j, K j → B.heap[j]? = A.heap[j]?) ∨ (e = .returned (.bool false) ∧ Jx B)) →
    J 0 W → CallsIn F n P gf (#[.func (.yield l) #[] #[]] ++ lb) W fun e B => (∃ v, e = .returned v) ∧ (J ts.length B ∨ Jx B)
/-- What a round's body keeps, and how it may be left. -/
def RoundEnds (K : Nat → Prop) (L : Nat) (R : World → Prop) (X : Code → World → Prop) (W : World) : Exit → Act → World → Prop
  | .normal, _, W' => (∀ j, (K j ∨ j = L ∨ j = L + 1) → W'.heap[j]? = W.heap[j]?) ∧ R W'
  | .ret, _, W' => (∀ j, (K j ∨ j = L ∨ j = L + 1) → W'.heap[j]? = W.heap[j]?) ∧ X .ret W'
  | .exit id, _, W' => (∀ j, (K j ∨ j = L ∨ j = L + 1) → W'.heap[j]? = W.heap[j]?) ∧ X (.exit id) W'
  | _, _, _ => False
theorem wpIn_rangeW {g : Operand} {ps : Array Tmp} {assign body : Code} {Q : Exit → Act → World → Prop} {a : Act} {w : World} (hro : F.round = none) (h1 : 1 ≤ n) {gf : Nat} {lb : Array Value}
    (hg : a.eval g = .func (.func gf) #[] lb) (hFg : F.fn gf) (eg : ∀ args w, (callFunc gf args).run P w = .ok (.enter gf args) w)
    {K : Nat → Prop} {ts : List (Array Value)} (hK : ∀ j, K j → j < w.heap.size) (hseq : IterW F (n - 1) P gf lb K ts w) (hps : ∀ x ∈ ts, x.size = ps.size)
    (I : Nat → World → Prop) (Ix : Code → World → Prop) (hI : ∀ k A B, I k A → Apart (fun j => K j ∨ j = w.heap.size + 1) A B → I k B) (hIx : ∀ c A B, Ix c A → Apart (fun j => K j ∨ j = w.heap.size + 1) A B → Ix c B) (h0 : I 0 w) (a₁ : Nat → Act)
    (hassign : ∀ (l k : Nat) (hk : k < ts.length) (W : World) (R : Act → World → Prop), R (a₁ k) W → assign.wpIn (F.inRound l) (n - 1 - 1) P (Exit.then R (fun _ _ _ => False)) { tmps := (ps.zip ts[k]).foldl (fun t (p, v) => t.setIfInBounds p v) a.tmps, defers := [] } W)
    (hbody : ∀ (l k : Nat) (W : World), k < ts.length → w.heap.size + 1 < W.heap.size → I k W → body.wpIn (F.inRound l) (n - 1 - 1) P (RoundEnds K w.heap.size (I (k + 1)) Ix W) (a₁ k) W)
    (hdone : ∀ (W : World), I ts.length W → W.heap[w.heap.size]? = some (.deferred (some [])) → Q .normal { a with defers := { target := .collected w.heap.size, args := #[] } :: a.defers } W)
    (hstop : ∀ (c : Code) (W : World), Ix c W → W.heap[w.heap.size]? = some (.deferred (some [])) → c.wpIn F n P Q { a with defers := { target := .collected w.heap.size, args := #[] } :: a.defers } W) :
    (Code.rangeFunc g ps assign body).wpIn F n P Q a w := by
  refine wpIn_rangeFunc fun fn hfn => ?_
  rw [hro]
  generalize hrc : (fun (st : LoopState) (pe : Option Code) => ({ state := st, pending := pe, fn := fn, tmps := a.tmps, params := ps, assign := assign, body := body, defers := w.heap.size } : Loop)) = rc
  have hst : ∀ st pe, (rc st pe).state = st := fun _ _ => by rw [← hrc]
  have hup : ∀ st pe st' pe', ({ rc st pe with state := st', pending := pe' } : Loop) = rc st' pe' := fun _ _ _ _ => by rw [← hrc]
  have hup1 : ∀ st pe st', ({ rc st pe with state := st' } : Loop) = rc st' pe := fun _ _ _ => by rw [← hrc]
  let L := w.heap.size + 1
  let U := (w.alloc (.deferred (some []))).alloc (.loop (rc .ready none))
  have hUl : U.heap[L]? = some (.loop (rc .ready none)) := by
    have := World.alloc_heap_new (w.alloc (.deferred (some []))) (.loop (rc .ready none))
    rwa [World.size_alloc] at this
  have hUd : U.heap[w.heap.size]? = some (.deferred (some [])) := (Below.heap_alloc _ _ _ (by simp)).trans (World.alloc_heap_new w _)
  have hAU : Apart (fun j => K j ∨ j = L) w U := (Apart.alloc _ _ _).trans (Apart.alloc _ _ _)
  have hKU : ∀ j, K j → U.heap[j]? = w.heap[j]? := fun j hj => by
    have := hK j hj
    exact (Below.heap_alloc _ _ _ (by simp; omega)).trans (Below.heap_alloc _ _ _ this)
  have hKL : ∀ j, K j → j ≠ L ∧ j ≠ w.heap.size := fun j hj => by
    have := hK j hj
    exact ⟨by show j ≠ w.heap.size + 1; omega, by omega⟩
  let J : Nat → World → Prop := fun k W => I k W ∧ W.heap[L]? = some (.loop (rc .ready none)) ∧ W.heap[w.heap.size]? = some (.deferred (some []))
  let Jx : World → Prop := fun W => ∃ c, Ix c W ∧ W.heap[L]? = some (.loop (rc .done (some c))) ∧ W.heap[w.heap.size]? = some (.deferred (some []))
  have keep : ∀ {A B : World} {o : Obj} {j : Nat}, Apart K A B → ¬ K j → A.heap[j]? = some o → B.heap[j]? = some o := fun h hj ho => (h.block _ (Array.getElem?_eq_some_iff.1 ho).1 hj).trans ho
  have hnL : ¬ K L := fun e => (hKL L e).1 rfl
  have hnD : ¬ K w.heap.size := fun e => (hKL _ e).2 rfl
  refine ⟨L, [{ target := .collected w.heap.size, args := #[] }], U, { target := .fn (.func gf) lb, args := #[.func (.yield L) #[] #[]] }, U, gf, #[.func (.yield L) #[] #[]] ++ lb, U, ?_, ?_, ?_, ?_, fun _ => h1, ?_⟩
  · show _ = Result.ok _ ((w.alloc (.deferred (some []))).alloc (.loop (rc .ready none)))
    rw [← hrc]; exact run_enterLoop_outer _ _ _ _ _
  · simp only [resolve, hg]; simp [go_sem]
  · intro f' hf'; simp [Target.leads] at hf'; subst hf'; exact hFg
  · simp [invoke, go_sem, eg]
  · refine (hseq L J Jx U hKU (fun k A B ⟨hi, hl, hd⟩ hab => ⟨hI k A B hi (hab.wide fun _ => .inl), keep hab hnL hl, keep hab hnD hd⟩) ?_ ⟨hI 0 w U h0 hAU, hUl, hUd⟩).mono ?_
    · rintro k A hk ⟨hi, hl, hd⟩
      have hlt : L < A.heap.size := (Array.getElem?_eq_some_iff.1 hl).1
      have hy := run_yield (P := P) (args := ts[k]) hl (by rw [← hrc]; exact hps _ (List.getElem_mem hk))
      rw [← hrc] at hy
      refine ⟨fn, _, assign, body, hy, roundIn_of_wpIn hfn (hassign L k hk A _ ⟨_, run_beginRound hl (hst _ _), ?_⟩)⟩
      rw [hup1]
      let A2 := A.putObj L (.loop (rc .busy none))
      have hl2 : A2.heap[L]? = some (.loop (rc .busy none)) := World.putObj_heap_same hlt
      have hd2 : A2.heap[w.heap.size]? = some (.deferred (some [])) := (World.putObj_heap_other (by show w.heap.size ≠ w.heap.size + 1; omega)).trans hd
      have hK2 : ∀ j, K j → A2.heap[j]? = A.heap[j]? := fun j hj => World.putObj_heap_other (hKL j hj).1
      have hi2 : I k A2 := hI k A A2 hi (Apart.putObj (.inr rfl) _ _)
      refine wpIn_mono (hbody L k A2 hk (Nat.lt_of_lt_of_le hlt (grownBy_putObj' A L _).size) hi2) ?_
      have fin : ∀ (jump : Option Code) (B : World), (∀ j, (K j ∨ j = w.heap.size ∨ j = w.heap.size + 1) → B.heap[j]? = A2.heap[j]?) →
          (Instr.endRound L jump).run P B = .ok (.bool jump.isNone) (B.putObj L (.loop (rc (if jump.isNone then .ready else .done) jump))) ∧
          (B.putObj L (.loop (rc (if jump.isNone then .ready else .done) jump))).heap[L]? = some (.loop (rc (if jump.isNone then .ready else .done) jump)) ∧
          (B.putObj L (.loop (rc (if jump.isNone then .ready else .done) jump))).heap[w.heap.size]? = some (.deferred (some [])) ∧
          ∀ j, K j → (B.putObj L (.loop (rc (if jump.isNone then .ready else .done) jump))).heap[j]? = A.heap[j]? := fun jump B hb => by
        have hl3 : B.heap[L]? = some (.loop (rc .busy none)) := (hb L (.inr (.inr rfl))).trans hl2
        have hr := run_endRound (P := P) jump hl3
        rw [hup] at hr
        exact ⟨hr, World.putObj_heap_same (Array.getElem?_eq_some_iff.1 hl3).1, (World.putObj_heap_other (by show w.heap.size ≠ w.heap.size + 1; omega)).trans ((hb _ (.inr (.inl rfl))).trans hd2),
          fun j hj => (World.putObj_heap_other (hKL j hj).1).trans ((hb j (.inl hj)).trans (hK2 j hj))⟩
      rintro e a3 B hp
      cases e with
      | normal =>
        obtain ⟨hb, hi3⟩ := hp
        obtain ⟨hr, f1, f2, f3⟩ := fin none B hb
        exact ⟨_, _, hr, .inl ⟨rfl, ⟨hI _ _ _ hi3 (Apart.putObj (.inr rfl) _ _), f1, f2⟩, f3⟩⟩
      | ret =>
        obtain ⟨hb, hx⟩ := hp
        obtain ⟨hr, f1, f2, _⟩ := fin (some .ret) B hb
        exact ⟨_, _, hr, .inr ⟨rfl, .ret, hIx _ _ _ hx (Apart.putObj (.inr rfl) _ _), f1, f2⟩⟩
      | exit id =>
        obtain ⟨hb, hx⟩ := hp
        obtain ⟨hr, f1, f2, _⟩ := fin (some (.exit id)) B hb
        exact ⟨_, _, hr, .inr ⟨rfl, .exit id, hIx _ _ _ hx (Apart.putObj (.inr rfl) _ _), f1, f2⟩⟩
      | goto t => exact hp.elim
      | panic ch => exact hp.elim
      | outgrown => exact hp.elim
    · rintro e B ⟨⟨v, rfl⟩, (⟨hi, hl, hd⟩ | ⟨c, hx, hl, hd⟩)⟩
      · have hr := run_endLoop (P := P) hl (by rw [hst]; simp)
        rw [hup1] at hr
        refine ⟨_, _, hr, ?_⟩
        have hp : (rc .ready none).pending = none := by rw [← hrc]
        rw [hp]
        exact hdone _ (hI _ _ _ hi (Apart.putObj (.inr rfl) _ _)) ((World.putObj_heap_other (by show w.heap.size ≠ w.heap.size + 1; omega)).trans hd)
      · have hr := run_endLoop (P := P) hl (by rw [hst]; simp)
        rw [hup1] at hr
        refine ⟨_, _, hr, ?_⟩
        have hp : (rc .done (some c)).pending = some c := by rw [← hrc]
        rw [hp]
        exact hstop c _ (hIx _ _ _ hx (Apart.putObj (.inr rfl) _ _)) ((World.putObj_heap_other (by show w.heap.size ≠ w.heap.size + 1; omega)).trans hd)
end
end Go.Proofs.YtlljniaobbbjgaaGreatDoor
namespace Go.Proofs.YtlljniaobbbjgaaGreatDoor
open Go.ChangeShapes Go.WideShapes Go.ChangeAt Go.RowKit
open Dvs (Dv dv0 dv nth)
theorem ownD : ownKnob Tryz.prog.godebug = none := by kernel_rfl
theorem laidOutD : laidOutB Tryz.prog = true := by kernel_rfl
/-- A slice of values of so many cells each, each such as is told. -/
def RowsOf (W : World) (v : Value) (N : Nat) (p : List Value → Prop) : Prop :=
  ∃ ao len c, v = .slice ao len c ∧ len ≤ maxLen ∧ (0 < len → ∃ b o, ao = some ⟨b, o, none⟩ ∧ b < W.heap.size ∧ ∀ k, k < len → ∃ cs : List Value, cs.length = N ∧ (∀ j, j < N → W.cell? ⟨b, o + k * N + j, none⟩ = cs[j]?) ∧ p cs)
theorem RowsOf.below {W W' : World} {v : Value} {N : Nat} {p q : List Value → Prop} (h : RowsOf W v N p) (hb : Below W.heap.size W W') (hp : ∀ cs, p cs → q cs) : RowsOf W' v N q := by
  obtain ⟨ao, len, c, hv, hm, hr⟩ := h
  refine ⟨ao, len, c, hv, hm, fun h0 => ?_⟩
  obtain ⟨b, o, ha, hlt, hc⟩ := hr h0
  refine ⟨b, o, ha, Nat.lt_of_lt_of_le hlt hb.size, fun k hk => ?_⟩
  obtain ⟨cs, hl, hcs, hpc⟩ := hc k hk
  exact ⟨cs, hl, fun j hj => (hb.cell (p := ⟨b, o + k * N + j, none⟩) hlt).trans (hcs j hj), hp cs hpc⟩
section
variable {H : Type} {enc : TypeId × Value → H} {P : Program} {W : World}
theorem trod_field {base : Nat} {spare : Nat → Bool} {held : Bool} {fuel : Nat} {t : TypeId} {cs : List Value} {x : DataW H × List MemPlace} {fs : Array Field} (ht : P.underlying t = some (.struct fs)) (h : DataW.trod enc P W base spare held fuel t cs = some x) (i : Nat) (ty : TypeId) (off N : Nat) (hc : P.cellsOf ty = N) (hf : (fs[i]?).map (fun f => (f.type, f.offset)) = some (ty, off)) :
    ∃ n y, DataW.trod enc P W base spare held n ty ((cs.drop off).take N) = some y := by
  obtain ⟨xs, n, _, _, _, hlen, hx⟩ := DataW.trod_struct ht h
  obtain ⟨f, hg, e⟩ := Option.map_eq_some_iff.1 hf
  cases e
  subst hc
  have hi : i < xs.length := by rw [hlen]; exact (Array.getElem?_eq_some_iff.1 hg).1
  exact ⟨n, xs[i], by rw [hx i f hg]; exact List.getElem?_eq_getElem hi⟩
theorem rows_of_trod {t e : TypeId} {N fuel : Nat} {v : Value} {x : DataW H × List MemPlace} {p : List Value → Prop} (ht : P.underlying t = some (.slice e)) (hN : P.cellsOf e = N) (h0 : 0 < N)
    (h : DataW.trod enc P W 0 (fun _ => true) true fuel t [v] = some x) (hp : ∀ n cs y, cs.length = N → DataW.trod enc P W 0 (fun _ => true) true n e cs = some y → p cs) : RowsOf W v N p := by
  rcases Deep.open_slice ht h with ⟨hcs, _⟩ | ⟨a, len, cap, m, n, D, Pl, hcs, _, hl, hm, hmm, _, hx⟩
  · simp at hcs
    subst hcs
    exact ⟨none, 0, 0, rfl, Nat.zero_le _, fun h => by omega⟩
  · simp at hcs
    subst hcs
    rw [if_pos rfl] at hmm
    subst hmm
    rw [hN] at hx
    refine ⟨some a, len, _, rfl, Nat.le_trans hl hm, fun hpos => ?_⟩
    obtain ⟨b, off, spot⟩ := a
    obtain ⟨cs0, h10, _⟩ := hx 0 (by omega)
    obtain ⟨_, hlen0, hc0⟩ := World.cells?_some h10
    have hc := hc0 0 (by omega)
    rw [List.getElem?_eq_getElem (by omega)] at hc
    have hspot : spot = none := by simpa [Addr.add] using World.cell?_spot hc
    subst hspot
    refine ⟨b, off, rfl, ?_, fun k hk => ?_⟩
    · rw [Deep.add_add, Addr.add_lit] at hc
      exact World.block_lt_of_cell? W _ hc
    · obtain ⟨cs, h1, h2⟩ := hx k (by omega)
      obtain ⟨_, hlen, hcell⟩ := World.cells?_some h1
      refine ⟨cs, hlen, fun j hj => ?_, hp n cs _ hlen h2⟩
      have := hcell j hj
      rw [Deep.add_add, Addr.add_lit, ← Nat.add_assoc] at this
      exact this
end
theorem c_string : Tryz.prog.cellsOf 9 = 1 := by kernel_rfl
theorem c_int : Tryz.prog.cellsOf 3 = 1 := by kernel_rfl
theorem c_bool : Tryz.prog.cellsOf 4 = 1 := by kernel_rfl
theorem c_Amount : Tryz.prog.cellsOf 53 = 2 := by kernel_rfl
theorem c_Need : Tryz.prog.cellsOf 115 = 2 := by kernel_rfl
theorem c_Cont : Tryz.prog.cellsOf 56 = 6 := by kernel_rfl
theorem c_Pod : Tryz.prog.cellsOf 59 = 3 := by kernel_rfl
theorem c_ints : Tryz.prog.cellsOf 62 = 1 := by kernel_rfl
theorem c_needs : Tryz.prog.cellsOf 54 = 1 := by kernel_rfl
theorem c_conts : Tryz.prog.cellsOf 57 = 1 := by kernel_rfl
def intP (cs : List Value) : Prop := ∃ x : Int, cs = [.int .i64 x]
def pairP (cs : List Value) : Prop := ∃ (s : ByteArray) (x : Int), cs = [.string s, .int .i64 x]
def contP (W : World) (cs : List Value) : Prop := ∃ (nm : ByteArray) (a b c d : Int) (v : Value), cs = [.string nm, .int .i64 a, .int .i64 b, .int .i64 c, .int .i64 d, v] ∧ RowsOf W v 2 pairP
def actP (W : World) (cs : List Value) : Prop := ∃ (kind s : ByteArray) (a b : Int) (m : Nat) (lv : Value) (nm : ByteArray) (pr : Int) (cv uv : Value),
  cs = [.string kind, .string s, .int .i64 a, .int .i64 b, .int .u8 m, lv, .string nm, .int .i64 pr, cv, uv] ∧ m < 256 ∧ RowsOf W lv 1 intP ∧ RowsOf W cv 6 (contP W) ∧ RowsOf W uv 2 pairP
theorem contP.below {W W' : World} {cs : List Value} (h : contP W cs) (hb : Below W.heap.size W W') : contP W' cs := by
  obtain ⟨nm, a, b, c, d, v, rfl, hv⟩ := h
  exact ⟨nm, a, b, c, d, v, rfl, hv.below hb fun _ h => h⟩
theorem actP.below {W W' : World} {cs : List Value} (h : actP W cs) (hb : Below W.heap.size W W') : actP W' cs := by
  obtain ⟨kind, s, a, b, m, lv, nm, pr, cv, uv, rfl, hm, h1, h2, h3⟩ := h
  exact ⟨kind, s, a, b, m, lv, nm, pr, cv, uv, rfl, hm, h1.below hb fun _ h => h, h2.below hb fun _ h => h.below hb, h3.below hb fun _ h => h⟩
theorem acts_below {W W' : World} {v : Value} (h : RowsOf W v 10 (actP W)) (hb : Below W.heap.size W W') : RowsOf W' v 10 (actP W') := h.below hb fun _ h => h.below hb
section
variable {H : Type} {enc : TypeId × Value → H} {W : World}
theorem int_of_trod {n : Nat} {cs : List Value} {y : DataW H × List MemPlace} (h : DataW.trod enc Tryz.prog W 0 (fun _ => true) true n 3 cs = some y) : intP cs := by
  obtain ⟨p, e, _, _⟩ := DataW.trod_int Tryz.underlying3 h
  exact ⟨p, e⟩
theorem str_of_trod {n : Nat} {cs : List Value} {y : DataW H × List MemPlace} (h : DataW.trod enc Tryz.prog W 0 (fun _ => true) true n 9 cs = some y) : ∃ s : ByteArray, cs = [.string s] := by
  obtain ⟨p, e, _⟩ := DataW.trod_string Tryz.underlying9 h
  exact ⟨p, e⟩
theorem ints_of_trod {n : Nat} {v : Value} {y : DataW H × List MemPlace} (h : DataW.trod enc Tryz.prog W 0 (fun _ => true) true n 62 [v] = some y) : RowsOf W v 1 intP :=
  rows_of_trod Tryz.underlying62 c_int (by decide) h fun _ _ _ _ h => int_of_trod h
set_option maxRecDepth 100000 in
theorem need_of_trod {n : Nat} {cs : List Value} {y : DataW H × List MemPlace} (hl : cs.length = 2) (h : DataW.trod enc Tryz.prog W 0 (fun _ => true) true n 115 cs = some y) : pairP cs := by
  obtain ⟨_, _, h0⟩ := trod_field Tryz.underlying115 h 0 9 0 _ c_string rfl
  obtain ⟨_, _, h1⟩ := trod_field Tryz.underlying115 h 1 3 1 _ c_int rfl
  match cs, hl with
  | [a, b], _ =>
    obtain ⟨s, e0⟩ := str_of_trod h0
    obtain ⟨x, e1⟩ := int_of_trod h1
    simp at e0 e1
    exact ⟨s, x, by rw [e0, e1]⟩
set_option maxRecDepth 100000 in
theorem amount_of_trod {n : Nat} {cs : List Value} {y : DataW H × List MemPlace} (hl : cs.length = 2) (h : DataW.trod enc Tryz.prog W 0 (fun _ => true) true n 53 cs = some y) : ∃ a b : Int, cs = [.int .i64 a, .int .i64 b] := by
  obtain ⟨_, _, h0⟩ := trod_field Tryz.underlying53 h 0 3 0 _ c_int rfl
  obtain ⟨_, _, h1⟩ := trod_field Tryz.underlying53 h 1 3 1 _ c_int rfl
  match cs, hl with
  | [a, b], _ =>
    obtain ⟨s, e0⟩ := int_of_trod h0
    obtain ⟨x, e1⟩ := int_of_trod h1
    simp at e0 e1
    exact ⟨s, x, by rw [e0, e1]⟩
set_option maxRecDepth 100000 in
theorem cont_of_trod {n : Nat} {cs : List Value} {y : DataW H × List MemPlace} (hl : cs.length = 6) (h : DataW.trod enc Tryz.prog W 0 (fun _ => true) true n 56 cs = some y) : contP W cs := by
  obtain ⟨_, _, h0⟩ := trod_field Tryz.underlying56 h 0 9 0 _ c_string rfl
  obtain ⟨_, _, h1⟩ := trod_field Tryz.underlying56 h 1 53 1 _ c_Amount rfl
  obtain ⟨_, _, h2⟩ := trod_field Tryz.underlying56 h 2 53 3 _ c_Amount rfl
  obtain ⟨_, _, h3⟩ := trod_field Tryz.underlying56 h 3 54 5 _ c_needs rfl
  match cs, hl with
  | [a, b, c, d, e, f], _ =>
    obtain ⟨s, e0⟩ := str_of_trod h0
    obtain ⟨x1, x2, e1⟩ := amount_of_trod rfl h1
    obtain ⟨x3, x4, e2⟩ := amount_of_trod rfl h2
    have h4 := rows_of_trod Tryz.underlying54 c_Need (by decide) h3 fun _ _ _ hl h => need_of_trod hl h
    simp at e0 e1 e2
    exact ⟨s, x1, x2, x3, x4, f, by rw [e0, e1.1, e1.2, e2.1, e2.2], h4⟩
set_option maxRecDepth 100000 in
theorem pod_of_trod {n : Nat} {cs : List Value} {y : DataW H × List MemPlace} (hl : cs.length = 3) (h : DataW.trod enc Tryz.prog W 0 (fun _ => true) true n 59 cs = some y) : ∃ (nm : ByteArray) (pr : Int) (cv : Value), cs = [.string nm, .int .i64 pr, cv] ∧ RowsOf W cv 6 (contP W) := by
  obtain ⟨_, _, h0⟩ := trod_field Tryz.underlying59 h 0 9 0 _ c_string rfl
  obtain ⟨_, _, h1⟩ := trod_field Tryz.underlying59 h 1 3 1 _ c_int rfl
  obtain ⟨_, _, h2⟩ := trod_field Tryz.underlying59 h 2 57 2 _ c_conts rfl
  match cs, hl with
  | [a, b, c], _ =>
    obtain ⟨s, e0⟩ := str_of_trod h0
    obtain ⟨x, e1⟩ := int_of_trod h1
    have h4 := rows_of_trod Tryz.underlying57 c_Cont (by decide) h2 fun _ _ _ hl h => cont_of_trod hl h
    simp at e0 e1
    exact ⟨s, x, c, by rw [e0, e1], h4⟩
def devP (cs : List Value) : Prop := ∃ d : Dv, cs = [.string d.kind, .int .i64 d.node, .bool d.sick]
end
/-- A slice of devices that is read. -/
def DevsAt (w : World) (v : Value) (g o : Nat) (ds : List Dv) : Prop :=
  ∃ ao c, v = .slice ao ds.length c ∧ (0 < ds.length → ao = some ⟨g, o, none⟩ ∧ g < w.heap.size ∧ ∀ k, k < ds.length → w.cell? ⟨g, o + k * 3, none⟩ = some (.string (dv ds k).kind) ∧ w.cell? ⟨g, o + k * 3 + 1, none⟩ = some (.int .i64 (dv ds k).node) ∧ w.cell? ⟨g, o + k * 3 + 2, none⟩ = some (.bool (dv ds k).sick))
/-- A slice of numbers that is read. -/
def NumsAt (w : World) (v : Value) (g o : Nat) (l : List Int) : Prop :=
  ∃ ao c, v = .slice ao l.length c ∧ (0 < l.length → ao = some ⟨g, o, none⟩ ∧ g < w.heap.size ∧ ∀ k, k < l.length → w.cell? ⟨g, o + k, none⟩ = some (.int .i64 (nth l k)))
theorem devs_of_rows {W : World} {v : Value} (h : RowsOf W v 3 devP) : ∃ ds g o, DevsAt W v g o ds ∧ (0 < ds.length → g < W.heap.size) := by
  obtain ⟨ao, len, c, rfl, hm, hr⟩ := h
  by_cases h0 : len = 0
  · subst h0
    exact ⟨[], 0, 0, ⟨ao, c, rfl, fun h => by simp at h⟩, fun h => by simp at h⟩
  · obtain ⟨b, o, rfl, hlt, hc⟩ := hr (by omega)
    obtain ⟨f, hf⟩ := Deep.choose_lt (α := Dv) (n := len) (p := fun k d => W.cell? ⟨b, o + k * 3, none⟩ = some (.string d.kind) ∧ W.cell? ⟨b, o + k * 3 + 1, none⟩ = some (.int .i64 d.node) ∧ W.cell? ⟨b, o + k * 3 + 2, none⟩ = some (.bool d.sick)) (fun k hk => by
      obtain ⟨cs, _, hcs, d, rfl⟩ := hc k hk
      exact ⟨d, hcs 0 (by decide), hcs 1 (by decide), hcs 2 (by decide)⟩)
    refine ⟨(List.range len).map f, b, o, ⟨_, c, by simp, fun _ => ⟨rfl, hlt, fun k hk => ?_⟩⟩, fun _ => hlt⟩
    have hk' : k < len := by simpa using hk
    have e : dv ((List.range len).map f) k = f k := by simp [dv, hk']
    rw [e]
    exact hf k hk'
theorem nums_of_rows {W : World} {v : Value} (h : RowsOf W v 1 intP) : ∃ l g o, NumsAt W v g o l ∧ (0 < l.length → g < W.heap.size) := by
  obtain ⟨ao, len, c, rfl, hm, hr⟩ := h
  by_cases h0 : len = 0
  · subst h0
    exact ⟨[], 0, 0, ⟨ao, c, rfl, fun h => by simp at h⟩, fun h => by simp at h⟩
  · obtain ⟨b, o, rfl, hlt, hc⟩ := hr (by omega)
    obtain ⟨f, hf⟩ := Deep.choose_lt (α := Int) (n := len) (p := fun k d => W.cell? ⟨b, o + k, none⟩ = some (.int .i64 d)) (fun k hk => by
      obtain ⟨cs, _, hcs, d, rfl⟩ := hc k hk
      have := hcs 0 (by decide)
      rw [Nat.mul_one] at this
      exact ⟨d, this⟩)
    refine ⟨(List.range len).map f, b, o, ⟨_, c, by simp, fun _ => ⟨rfl, hlt, fun k hk => ?_⟩⟩, fun _ => hlt⟩
    have hk' : k < len := by simpa using hk
    have e : nth ((List.range len).map f) k = f k := by simp [nth, hk']
    rw [e]
    exact hf k hk'
end Go.Proofs.YtlljniaobbbjgaaGreatDoor
namespace Go.Proofs.YtlljniaobbbjgaaGreatDoor
open Go.RowKit
/-- A piece of code that is left at its end alone. -/
def NormalAtW (R : Act → World → Prop) : Exit → Act → World → Prop
  | .normal, a, w => R a w
  | _, _, _ => False
theorem NormalAtW.mk {R : Act → World → Prop} {a : Act} {w : World} (h : R a w) : NormalAtW R .normal a w := h
theorem noneOut (R : Act → World → Prop) : ¬ LetsOut (NormalAtW R) := by
  rintro ⟨a, w, h⟩
  exact h
section
variable {P : Program} {ops : Array Oper} {Q : Exit → Act → World → Prop} {l n : Nat}
theorem ops_in (hnd : ∀ (i : Nat) (o : Oper) c, ops[i]? = some o → o.op ≠ Op.defer c) (hLO : ¬ LetsOut Q) : ∀ (is : List Nat) (a : Act) (w : World), wpOps P ops Q is a w → wpOpsIn (Fence.wide.inRound l) n P ops Q is a w := by
  intro is
  induction is with
  | nil => intro a w h; exact h
  | cons i r ih =>
    intro a w h
    unfold wpOps at h
    unfold wpOpsIn
    cases ho : ops[i]? with
    | none => rw [ho] at h; exact ih a w h
    | some o =>
      rw [ho] at h
      dsimp only at h ⊢
      split at h
      · rename_i hw
        rw [if_pos hw]
        rcases h with h | h
        · refine ⟨fun _ _ => trivial, ?_⟩
          rw [Oper.semAt_eq _ _ _ (fun c => hnd i o c ho)]
          unfold Oper.wp at h
          generalize (execOp a.eval o).run P w = res at h ⊢
          cases res with
          | ok nx w' =>
            cases nx with
            | value v => exact ih _ _ h
            | skip => exact ih _ _ h
            | defer d => exact ih _ _ h
            | enter f args =>
              refine ⟨(fun e => by cases e), CallsIn.inRound l (callsIn_wide.2 (Calls.mono h ?_))⟩
              rintro e w'' hq
              cases e with
              | returned v => exact ih _ _ hq
              | panicked ch => exact hq
              | outgrown => exact hq
            | row rn args =>
              exact ⟨(fun e => by cases e), fun c cs _ => by
                obtain ⟨v, w'', hr, hs⟩ := h c cs
                exact ⟨v, w'', ih _ _ hr, stepsIn_wide.2 hs⟩⟩
            | _ => exact h.elim
          | halt ht w' =>
            cases ht with
            | panic v => exact h
            | _ => exact h.elim
        · exact absurd h.2 hLO
      · rename_i hw
        rw [if_neg hw]
        exact ⟨fun _ _ => trivial, ih _ _ h⟩
theorem wpIn_round_held {S : World → Prop} {id : Nat} {a : Act} {w : World} (hm : P.follows .mixedOrders = true) (hnd : ∀ (i : Nat) (o : Oper) c, ops[i]? = some o → o.op ≠ Op.defer c) (hLO : ¬ LetsOut Q)
    (h : wpAnyH P .any ops Q S ops.size (Array.replicate ops.size false) a w.drew) : (Code.region id ops true).wpIn (Fence.wide.inRound l) n P Q a w :=
  wpIn_region_draw fun t => by
    simp only [Region.schedule, hm, Bool.true_or, if_true]
    exact ops_in hnd hLO _ _ _ (wpAny_sound ops.size t _ a _ (wpAny_of_held _ _ _ _ h))
theorem wpIn_normalAtV {F : Fence} {c : Code} {R : Act → World → Prop} {a : Act} {w : World} (h : Code.wpIn F n P c (NormalAtW R) a w) (hq : ∀ a w, R a w → Q .normal a w) : Code.wpIn F n P c Q a w :=
  wpIn_mono h fun e a w h => by
    cases e with
    | normal => exact hq _ _ h
    | _ => exact h.elim
end
end Go.Proofs.YtlljniaobbbjgaaGreatDoor
namespace Go.Proofs.YtlljniaobbbjgaaGreatDoor
open Go.RowKit
open Dvs (Dv dv0 dv nth isLet isNum okB allTo nameMay)
set_option maxHeartbeats 400000 in
theorem letter_any (x : UInt8) (w : World) : Calls Tryz.prog 107 #[.int .u8 x.toNat] w fun e w' => e = .returned (.bool (isLet x)) ∧ w' = w := by
  unfold isLet
  by_cases h1 : 97 ≤ x.toNat
  all_goals by_cases h2 : x.toNat ≤ 122
  · go_enter Tryz.func107, Tryz.ntmps107
    go_wp2_with fail
    go_ret
    refine ⟨?_, rfl⟩
    simp [h1, h2]
    try omega
  · go_enter Tryz.func107, Tryz.ntmps107
    go_wp2_with fail
    go_ret
    refine ⟨?_, rfl⟩
    simp [h1, h2]
    try omega
  · go_enter Tryz.func107, Tryz.ntmps107
    go_wp2_with fail
    go_ret
    refine ⟨?_, rfl⟩
    simp
    try omega
  · omega
theorem digit_bool (x : UInt8) (w : World) : Calls Tryz.prog 106 #[.int .u8 x.toNat] w fun e w' => (∃ n, e = .returned (.tuple #[.int .i64 n, .bool (isNum x)])) ∧ w' = w := by
  cases h : isNum x
  · exact (digit_no x w h).mono fun e w' ⟨he, hw⟩ => ⟨⟨_, he⟩, hw⟩
  · exact (digit_yes x w h).mono fun e w' ⟨he, hw⟩ => ⟨⟨_, he⟩, hw⟩
set_option maxHeartbeats 1000000 in
theorem name_any (s : ByteArray) (w : World) : Calls Tryz.prog 83 #[.string s] w fun e w' => e = .returned (.bool (nameMay s)) ∧ w' = w := by
  by_cases he : s.size = 0
  · have hem : s.toList.isEmpty = true := by rw [Ost.toList_isEmpty]; simp [he]
    rw [Dvs.nameMay_none he]
    clear he
    go_enter Tryz.func83, Tryz.ntmps83
    go_wp2_with fail
    go_ret
    exact ⟨rfl, rfl⟩
  have hem : s.toList.isEmpty = false := by rw [Ost.toList_isEmpty]; simp [he]
  by_cases h8 : 8 < s.size
  · rw [Dvs.nameMay_long h8]
    go_enter Tryz.func83, Tryz.ntmps83
    go_wp2_with fail
    go_ret
    exact ⟨rfl, rfl⟩
  have h8' : s.size ≤ 8 := by omega
  rw [Dvs.nameMay_all (by omega) h8']
  clear h8 he
  go_enter Tryz.func83, Tryz.ntmps83
  go_wp2_with fail
  go_loop [15] (fun i => ∃ k : Nat, k ≤ s.size ∧ i = .int .i64 k ∧ Hid (allTo (okB s) k = true)) (fun i => s.size - (intOf i).toNat)
  case atStart => exact ⟨0, Nat.zero_le _, rfl, rfl⟩
  case round =>
    obtain ⟨k, hk, rfl, HA⟩ := hrel
    by_cases hlt : k < s.size
    · have HO := hideIt (Dvs.okB_at s k hlt)
      rcases two (isLet s[k]) with hl | hl
      · have HN : Hid (allTo (okB s) (k + 1) = true) := Dvs.allTo_yes HA.out (by rw [HO.out, hl]; rfl)
        go_wp2_with fail
        refine (digit_bool _ _).mono ?_
        rintro e w1 ⟨⟨n, rfl⟩, rfl⟩
        go_wp2_with fail
        refine (letter_any _ _).mono ?_
        rintro e w1 ⟨rfl, rfl⟩
        rw [hl]
        go_wp2_with fail
        go_round
        case rel => exact ⟨k + 1, by omega, by go_num, HN⟩
        case measure => simp [intOf]; omega
      · rcases two (isNum s[k]) with hn | hn
        · by_cases h0 : 0 < k
          · have HN : Hid (allTo (okB s) (k + 1) = true) := Dvs.allTo_yes HA.out (by rw [HO.out, hl, hn, decide_eq_true h0]; rfl)
            go_wp2_with fail
            refine (digit_bool _ _).mono ?_
            rintro e w1 ⟨⟨n, rfl⟩, rfl⟩
            rw [hn]
            go_wp2_with fail
            refine (letter_any _ _).mono ?_
            rintro e w1 ⟨rfl, rfl⟩
            rw [hl]
            go_wp2_with fail
            go_round
            case rel => exact ⟨k + 1, by omega, by go_num, HN⟩
            case measure => simp [intOf]; omega
          · have HN : Hid (allTo (okB s) s.size = false) := Dvs.allTo_no (k := k) (by rw [HO.out, hl, hn, decide_eq_false h0]; rfl) hlt
            have hk0 : k = 0 := by omega
            subst hk0
            go_wp2_with fail
            refine (digit_bool _ _).mono ?_
            rintro e w1 ⟨⟨n, rfl⟩, rfl⟩
            rw [hn]
            go_wp2_with fail
            refine (letter_any _ _).mono ?_
            rintro e w1 ⟨rfl, rfl⟩
            rw [hl]
            go_wp2_with fail
            go_ret
            exact ⟨congrArg (fun b => Ending.returned (.bool b)) HN.out.symm, rfl⟩
        · have HN : Hid (allTo (okB s) s.size = false) := Dvs.allTo_no (k := k) (by rw [HO.out, hl, hn]; rfl) hlt
          go_wp2_with fail
          refine (digit_bool _ _).mono ?_
          rintro e w1 ⟨⟨n, rfl⟩, rfl⟩
          rw [hn]
          go_wp2_with fail
          refine (letter_any _ _).mono ?_
          rintro e w1 ⟨rfl, rfl⟩
          rw [hl]
          go_wp2_with fail
          go_ret
          exact ⟨congrArg (fun b => Ending.returned (.bool b)) HN.out.symm, rfl⟩
    · have hke : k = s.size := by omega
      have HN : Hid (allTo (okB s) s.size = true) := by rw [← hke]; exact HA
      clear hke HA
      go_wp2_with fail
      go_ret
      exact ⟨congrArg (fun b => Ending.returned (.bool b)) HN.out.symm, rfl⟩
set_option maxHeartbeats 1000000 in
theorem may_any (s : ByteArray) (w : World) : Calls Tryz.prog 52 #[.string s] w fun e w' => e = .returned (.bool (nameMay s)) ∧ w' = w := by
  by_cases he : s.size = 0
  · rw [Dvs.nameMay_none he]
    go_enter Tryz.func52, Tryz.ntmps52
    go_wp2_with fail
    all_goals
      go_ret
      exact ⟨rfl, rfl⟩
  have he' : 1 ≤ s.size := by omega
  by_cases h8 : 8 < s.size
  · rw [Dvs.nameMay_long h8]
    clear he
    go_enter Tryz.func52, Tryz.ntmps52
    go_wp2_with fail
    all_goals
      go_ret
      exact ⟨rfl, rfl⟩
  have h8' : s.size ≤ 8 := by omega
  rw [Dvs.nameMay_all (by omega) h8']
  clear h8 he
  have HB := hideIt (Dvs.okB_at s 0 (by omega))
  by_cases hf : 97 ≤ s[0].toNat ∧ s[0].toNat ≤ 122
  · obtain ⟨f1, f2⟩ := hf
    have HF := hideIt f1
    go_enter Tryz.func52, Tryz.ntmps52
    go_wp2_with fail
    go_loop [3] (fun i => ∃ k : Nat, k ≤ s.size ∧ i = .int .i64 k ∧ Hid (allTo (okB s) k = true)) (fun i => s.size - (intOf i).toNat)
    case atStart => exact ⟨0, Nat.zero_le _, rfl, rfl⟩
    case round =>
      obtain ⟨k, hk, rfl, HA⟩ := hrel
      by_cases hlt : k < s.size
      · have HO := hideIt (Dvs.okB_at s k hlt)
        have HD : Hid (s[k].toNat ≤ 57 → 0 < k) := fun h => by
          rcases Nat.eq_zero_or_pos k with e | e
          · subst e; have := HF.out; omega
          · exact e
        clear f1 f2
        unfold isLet isNum at HO
        have key : (97 ≤ s[k].toNat ∧ s[k].toNat ≤ 122) ∨ (97 ≤ s[k].toNat ∧ 122 < s[k].toNat) ∨ (s[k].toNat < 97 ∧ 48 ≤ s[k].toNat ∧ s[k].toNat ≤ 57) ∨ (s[k].toNat < 97 ∧ 48 ≤ s[k].toNat ∧ 57 < s[k].toNat) ∨ (s[k].toNat < 97 ∧ s[k].toNat < 48) := by omega
        rcases key with ⟨g1, g2⟩ | ⟨g1, g2⟩ | ⟨g1, g2, g3⟩ | ⟨g1, g2, g3⟩ | ⟨g1, g2⟩
        · have b0 : decide ((s[k].toNat : Int) ≤ 122) = true := by simp; omega
          have HN : Hid (allTo (okB s) (k + 1) = true) := Dvs.allTo_yes HA.out (by rw [HO.out]; simp; omega)
          clear HO HD
          go_wp2_with fail
          go_round
          case rel => exact ⟨k + 1, by omega, by go_num, HN⟩
          case measure => simp [intOf]; omega
        · have b0 : decide ((s[k].toNat : Int) ≤ 122) = false := by simp; omega
          have b1 : decide ((s[k].toNat : Int) ≤ 57) = false := by simp; omega
          have HN : Hid (allTo (okB s) s.size = false) := Dvs.allTo_no (k := k) (by rw [HO.out]; simp; omega) hlt
          clear HO HD
          go_wp2_with fail
          go_ret
          exact ⟨congrArg (fun b => Ending.returned (.bool b)) HN.out.symm, rfl⟩
        · have b0 : decide ((s[k].toNat : Int) ≤ 57) = true := by simp; omega
          have HN : Hid (allTo (okB s) (k + 1) = true) := Dvs.allTo_yes HA.out (by rw [HO.out]; have := HD.out g3; simp; omega)
          clear HO HD
          go_wp2_with fail
          go_round
          case rel => exact ⟨k + 1, by omega, by go_num, HN⟩
          case measure => simp [intOf]; omega
        · have b0 : decide ((s[k].toNat : Int) ≤ 57) = false := by simp; omega
          have HN : Hid (allTo (okB s) s.size = false) := Dvs.allTo_no (k := k) (by rw [HO.out]; simp; omega) hlt
          clear HO HD
          go_wp2_with fail
          go_ret
          exact ⟨congrArg (fun b => Ending.returned (.bool b)) HN.out.symm, rfl⟩
        · have HN : Hid (allTo (okB s) s.size = false) := Dvs.allTo_no (k := k) (by rw [HO.out]; simp; omega) hlt
          clear HO HD
          go_wp2_with fail
          go_ret
          exact ⟨congrArg (fun b => Ending.returned (.bool b)) HN.out.symm, rfl⟩
      · have hke : k = s.size := by omega
        have HN : Hid (allTo (okB s) s.size = true) := by rw [← hke]; exact HA
        clear hke HA
        go_wp2_with fail
        go_ret
        exact ⟨congrArg (fun b => Ending.returned (.bool b)) HN.out.symm, rfl⟩
  · have HN : Hid (allTo (okB s) s.size = false) := Dvs.allTo_no (k := 0) (by rw [HB.out]; unfold isLet; simp; omega) (by omega)
    have key : s[0].toNat < 97 ∨ (97 ≤ s[0].toNat ∧ 122 < s[0].toNat) := by omega
    clear hf HB
    rcases key with g1 | ⟨g1, g2⟩
    all_goals
      go_enter Tryz.func52, Tryz.ntmps52
      go_wp2_with fail
      all_goals
        go_ret
        exact ⟨congrArg (fun b => Ending.returned (.bool b)) HN.out.symm, rfl⟩
end Go.Proofs.YtlljniaobbbjgaaGreatDoor
namespace Go.Proofs.YtlljniaobbbjgaaGreatDoor
open Go.RowKit
theorem results_cellV {fn : Func} {p : Tmp} {ty : TypeId} (h : fn.results = #[.cell p ty]) (tmps : Array Value) (P : Program) (w : World) :
    (results fn tmps).run P w = ((asAddr (tmps.getD p undef)).run P w).andThen fun a w₁ => (loadVar ty a).run P w₁ := by
  simp only [results, h]
  simp [Sem.run_bind, Result.andThen]
/-- A file, and its draft. -/
structure Sd where
  ft : Bool
  fb : ByteArray
  dt : Bool
  db : ByteArray
def Sd.agg (s : Sd) : Value := .agg #[.bool s.ft, .string s.fb, .bool s.dt, .string s.db]
/-- A Write of these bytes, or a Move. -/
structure Chg where
  wr : Bool
  bs : ByteArray
def Chg.agg (c : Chg) : Value := .agg #[.bool c.wr, .string c.bs]
/-- What a change makes of it. -/
def Chg.on (c : Chg) (s : Sd) : Sd := if c.wr = true then ⟨s.ft, s.fb, true, c.bs⟩ else ⟨s.dt, s.db, false, ⟨#[]⟩⟩
set_option maxRecDepth 100000 in
set_option maxHeartbeats 1000000 in
theorem on_any (c : Chg) (s : Sd) (w : World) : Calls Tryz.prog 50 #[c.agg, s.agg] w fun e w' => e = .returned (c.on s).agg ∧ Below w.heap.size w w' := by
  obtain ⟨wr, bs⟩ := c
  obtain ⟨ft, fb, dt, db⟩ := s
  unfold Chg.agg Sd.agg
  dsimp only
  have hb := (((Below.refl w.heap.size w).alloc (Nat.le_refl _) (.cells #[.bool wr, .string bs] 111)).alloc (by simp) (.cells #[.bool ft, .string fb, .bool dt, .string db] 90))
  cases wr with
  | true =>
    have HB := hideIt (hb.alloc hb.size (.cells #[.bool ft, .string fb, .bool true, .string bs] 90))
    clear hb
    go_enter Tryz.func50, Tryz.ntmps50
    go_wp2_with fail
    refine bodyPost_ret (v := .agg #[.bool ft, .string fb, .bool true, .string bs]) ?_ rfl ⟨rfl, HB.out⟩
    rw [results_cellV rfl]
    go_simp
  | false =>
    have HB := hideIt (hb.alloc hb.size (.cells #[.bool dt, .string db, .bool false, .string ⟨#[]⟩] 90))
    clear hb
    go_enter Tryz.func50, Tryz.ntmps50
    go_wp2_with fail
    refine bodyPost_ret (v := .agg #[.bool dt, .string db, .bool false, .string ⟨#[]⟩]) ?_ rfl ⟨rfl, HB.out⟩
    rw [results_cellV rfl]
    go_simp
end Go.Proofs.YtlljniaobbbjgaaGreatDoor
namespace Go.Proofs.YtlljniaobbbjgaaGreatDoor
open Go.RowKit
open Dvs (Dv dv0 dv nth)
/-- It answers yes or no. -/
def Ans (e : Ending) : Prop := ∃ b, e = .returned (.bool b)
set_option maxRecDepth 100000 in
set_option maxHeartbeats 2000000 in
theorem lightPod_any (nm : ByteArray) (pr : Int) (cv : Value) (w : World) (h : RowsOf w cv 6 (contP w)) : Calls Tryz.prog 25 #[.agg #[.string nm, .int .i64 pr, cv]] w fun e w' => Ans e ∧ Below w.heap.size w w' := by
  have HB0 := hideIt ((Below.refl w.heap.size w).alloc (Nat.le_refl _) (.cells #[.string nm, .int .i64 pr, cv] 59))
  have HH := hideIt h
  obtain ⟨ao, len, c, rfl, hm, _⟩ := h
  clear hm
  by_cases h30 : 30 < nm.size
  · go_enter Tryz.func25, Tryz.ntmps25
    go_wp2_with fail
    go_ret
    exact ⟨⟨_, rfl⟩, HB0.out⟩
  have h30' : nm.size ≤ 30 := by omega
  clear h30
  by_cases h5 : 5 < len
  · go_enter Tryz.func25, Tryz.ntmps25
    go_wp2_with fail
    go_ret
    exact ⟨⟨_, rfl⟩, HB0.out⟩
  have h5' : len ≤ 5 := by omega
  have hd1 : decide (30 < (nm.size : Int)) = false := decide_eq_false (by omega)
  have hd2 : decide (5 < (len : Int)) = false := decide_eq_false (by omega)
  clear h5 h30'
  go_enter Tryz.func25, Tryz.ntmps25
  go_wp2_with fail
  go_loopw [3] (fun i wr => ∃ k : Nat, k ≤ len ∧ i = .int .i64 k ∧ Below w.heap.size w wr ∧ wr.cell? ⟨w.heap.size, 2, none⟩ = some (.slice ao len c)) (fun i _ => len - (intOf i).toNat)
  case atStart => exact ⟨0, by omega, rfl, HB0.out, by simp⟩
  case round =>
    obtain ⟨k, hk, rfl, hB, hcv⟩ := hrel
    by_cases hlt : k < len
    · obtain ⟨ao', len', c', hv, _, hr⟩ := HH.out.below hB fun _ h => h.below hB
      cases hv
      obtain ⟨b, o, rfl, hlb, hcs⟩ := hr (by omega)
      obtain ⟨cs, _, hc, cn, x1, x2, x3, x4, dv, rfl, hdv⟩ := hcs k hlt
      have c0 : wr.cell? ⟨b, o + k * 6, none⟩ = some (.string cn) := hc 0 (by decide)
      have c1 : wr.cell? ⟨b, o + k * 6 + 1, none⟩ = some (.int .i64 x1) := hc 1 (by decide)
      have c2 : wr.cell? ⟨b, o + k * 6 + 2, none⟩ = some (.int .i64 x2) := hc 2 (by decide)
      have c3 : wr.cell? ⟨b, o + k * 6 + 3, none⟩ = some (.int .i64 x3) := hc 3 (by decide)
      have c4 : wr.cell? ⟨b, o + k * 6 + 4, none⟩ = some (.int .i64 x4) := hc 4 (by decide)
      have c5 : wr.cell? ⟨b, o + k * 6 + 5, none⟩ = some dv := hc 5 (by decide)
      have hB1 := hideIt (hB.alloc hB.size (.cells #[.string cn, .int .i64 x1, .int .i64 x2, .int .i64 x3, .int .i64 x4, dv] 56))
      have HD := hideIt (hdv.below ((Below.refl wr.heap.size wr).alloc (Nat.le_refl _) (.cells #[.string cn, .int .i64 x1, .int .i64 x2, .int .i64 x3, .int .i64 x4, dv] 56)) fun _ h => h)
      have hcv1 := Lib.cell?_alloc_some (.cells #[.string cn, .int .i64 x1, .int .i64 x2, .int .i64 x3, .int .i64 x4, dv] 56) hcv
      have hsz := hB.size
      obtain ⟨da, dl, dc, rfl, _, _⟩ := hdv
      clear hc hcs hr hB
      by_cases g30 : 30 < cn.size
      · go_wp2_with fail
        go_ret
        exact ⟨⟨_, rfl⟩, hB1.out⟩
      have g30' : cn.size ≤ 30 := by omega
      clear g30
      by_cases g5 : 5 < dl
      · go_wp2_with fail
        go_ret
        exact ⟨⟨_, rfl⟩, hB1.out⟩
      have g5' : dl ≤ 5 := by omega
      have e1 : decide (30 < (cn.size : Int)) = false := decide_eq_false (by omega)
      have e2 : decide (5 < (dl : Int)) = false := decide_eq_false (by omega)
      clear g5 g30'
      go_wp2_with fail
      go_loop [5] (fun i => ∃ q : Nat, q ≤ dl ∧ i = .int .i64 q) (fun i => dl - (intOf i).toNat)
      case atStart => exact ⟨0, by omega, rfl⟩
      case round =>
        obtain ⟨q, hq, rfl⟩ := hrel
        by_cases hql : q < dl
        · obtain ⟨ao2, len2, c2', hv2, _, hr2⟩ := HD.out
          cases hv2
          obtain ⟨b2, o2, rfl, hlb2, hcs2⟩ := hr2 (by omega)
          obtain ⟨cs2, _, hc2, s2, y2, rfl⟩ := hcs2 q hql
          have d0 := hc2 0 (by decide)
          simp only [Nat.add_zero, List.getElem?_cons_zero] at d0
          clear hc2 hcs2 hr2
          by_cases k30 : 30 < s2.size
          · go_wp2_with fail
            go_ret
            exact ⟨⟨_, rfl⟩, hB1.out⟩
          have k30' : s2.size ≤ 30 := by omega
          clear k30
          go_wp2_with fail
          go_round
          case rel => exact ⟨q + 1, by omega, by go_num⟩
          case measure => simp [intOf]; omega
        · have hqe : q = dl := by omega
          subst hqe
          go_wp2_with fail
          go_roundw
          case rel => exact ⟨k + 1, by omega, by go_num, hB1.out, hcv1⟩
          case measure => simp [intOf]; omega
    · have hke : k = len := by omega
      subst hke
      have hB1 := hideIt hB
      clear hB
      go_wp2_with fail
      go_ret
      exact ⟨⟨_, rfl⟩, hB1.out⟩
end Go.Proofs.YtlljniaobbbjgaaGreatDoor
namespace Go.Proofs.YtlljniaobbbjgaaGreatDoor.S1
open Go.RowKit
theorem two (b : Bool) : b = true ∨ b = false := by cases b <;> simp
theorem hideIt {p : Prop} (h : p) : Hid p := h
def unitV (c : List UInt8 × Int) : Value := .tuple #[.string ⟨c.1.toArray⟩, .int .i64 c.2]
def numErr (p : Int × Int) : Value := .tuple #[.int .i64 p.1, errV p.2]
theorem cutUnit_le (l : List UInt8) : (Ost.cutUnit l).1.length ≤ l.length := by
  unfold Ost.cutUnit
  repeat' split
  all_goals first | exact trim_le _ _ | exact Nat.le_refl _
theorem cutUnit_size (l : List UInt8) : (Ost.cutUnit l).2 = 1 ∨ (Ost.cutUnit l).2 = 1024 ∨ (Ost.cutUnit l).2 = 1048576 ∨ (Ost.cutUnit l).2 = 1073741824 ∨ (Ost.cutUnit l).2 = 1099511627776 := by
  unfold Ost.cutUnit
  repeat' split
  all_goals simp
end Go.Proofs.YtlljniaobbbjgaaGreatDoor.S1
namespace Go.Proofs.YtlljniaobbbjgaaGreatDoor
namespace Sv
open Qos (Nd Ct Pd nd ct pd podF leS)
open Dvs (first nameMay)
/-- What a container was given. -/
structure Gv where
  cp : Nat
  dv : List Int
def gv0 : Gv := ⟨0, []⟩
instance : Inhabited Gv := ⟨gv0⟩
def gv (l : List Gv) (k : Nat) : Gv := l.getD k gv0
/-- A pod, and what its containers were given. -/
structure Hd where
  pod : Pd
  gs : List Gv
def hd0 : Hd := ⟨Qos.pd0, []⟩
instance : Inhabited Hd := ⟨hd0⟩
def hd (l : List Hd) (k : Nat) : Hd := l.getD k hd0
def dec (n : Int) : List UInt8 := Lib.decDigits n.toNat
def orNo (l : List UInt8) : List UInt8 := if l = [] then [45] else l
def needTxt (d : Nd) : List UInt8 := d.kind.data.toList ++ [58] ++ dec d.many
def needsTxt (ds : List Nd) : List UInt8 := orNo (Lib.join (ds.map needTxt) [44])
def devsTxt (dv : List Int) : List UInt8 := orNo (Lib.join (dv.map dec) [44])
def setTxt (A : Nat) : List UInt8 := orNo (Ost.txt A)
def contWs (c : Ct) : List (List UInt8) := [[99, 111, 110, 116], c.nm.data.toList, dec c.am, dec c.ab, dec c.cm, dec c.cb, needsTxt c.ds]
def givenWs (g : Gv) : List (List UInt8) := [setTxt g.cp, devsTxt g.dv]
def podWs (p : Pd) : List (List UInt8) := [[112, 111, 100], p.nm.data.toList, dec p.pr]
def lineTxt (ws : List (List UInt8)) : List UInt8 := Lib.join ws [32] ++ [10]
def contLine (c : Ct) (g : Gv) : List UInt8 := lineTxt (contWs c ++ givenWs g)
def podLine (p : Pd) : List UInt8 := lineTxt (podWs p)
/-- The lines of the first containers. -/
def contsTo (h : Hd) : Nat → List UInt8
  | 0 => []
  | k + 1 => contsTo h k ++ contLine (ct h.pod.cs k) (gv h.gs k)
def podTxt (h : Hd) : List UInt8 := podLine h.pod ++ contsTo h h.pod.cs.length
def bodyTo (hs : List Hd) : Nat → List UInt8
  | 0 => []
  | k + 1 => bodyTo hs k ++ podTxt (hd hs k)
def body (hs : List Hd) : List UInt8 := bodyTo hs hs.length
def sumTxt (b : List UInt8) : List UInt8 := [115, 117, 109, 32] ++ Lib.decDigits (fnv b) ++ [10]
def heldTxt (hs : List Hd) : List UInt8 := body hs ++ sumTxt (body hs)
/-- What is wrong with the j-th device. -/
def devF1 (dv : List Int) (j : Nat) : Nat := if dv.getD j 0 < 0 ∨ 15 < dv.getD j 0 ∨ (0 < j ∧ dv.getD j 0 ≤ dv.getD (j - 1) 0) then 3 else 0
def devF (dv : List Int) : Nat := if 16 < dv.length then 2 else first (devF1 dv) dv.length
def gsF (gs : List Gv) : Nat := first (fun k => devF (gv gs k).dv) gs.length
/-- What is wrong with one behind one of a name. -/
def behindF (h : Hd) (lowB : Bool) : Nat :=
  if podF h.pod ≠ 0 then podF h.pod else if lowB = true ∨ h.gs.length ≠ h.pod.cs.length then 3 else gsF h.gs
def lowAt (hs : List Hd) (i : Nat) : Bool := decide (0 < i) && leS (hd hs i).pod.nm (hd hs (i - 1)).pod.nm
def oneF (hs : List Hd) (i : Nat) : Nat := behindF (hd hs i) (lowAt hs i)
def heldF (hs : List Hd) : Nat := if 12 < hs.length then 2 else first (oneF hs) hs.length
/-- What may be held. -/
def OkG (g : Gv) : Prop := g.cp < 18446744073709551616 ∧ g.dv.length ≤ 16 ∧ ∀ x ∈ g.dv, 0 ≤ x ∧ x ≤ 15
def OkN (d : Nd) : Prop := nameMay d.kind = true ∧ 1 ≤ d.many ∧ d.many ≤ 16
def OkC (c : Ct) : Prop := nameMay c.nm = true ∧ (0 ≤ c.am ∧ c.am ≤ 1000000) ∧ (0 ≤ c.ab ∧ c.ab ≤ 1125899906842624) ∧ (0 ≤ c.cm ∧ c.cm ≤ 1000000) ∧ (0 ≤ c.cb ∧ c.cb ≤ 1125899906842624) ∧ c.ds.length ≤ 3 ∧ ∀ d ∈ c.ds, OkN d
def OkP (p : Pd) : Prop := nameMay p.nm = true ∧ (0 ≤ p.pr ∧ p.pr ≤ 1000) ∧ p.cs.length ≤ 3 ∧ ∀ c ∈ p.cs, OkC c
def OkH (h : Hd) : Prop := OkP h.pod ∧ h.gs.length = h.pod.cs.length ∧ ∀ g ∈ h.gs, OkG g
def OkL (hs : List Hd) : Prop := hs.length ≤ 12 ∧ ∀ h ∈ hs, OkH h
theorem nd_in {ds : List Nd} {d : Nd} (h : d ∈ ds) : ∃ k, k < ds.length ∧ nd ds k = d := by
  obtain ⟨k, hk, rfl⟩ := List.getElem_of_mem h
  exact ⟨k, hk, by simp [nd, hk]⟩
theorem ct_in {ds : List Ct} {d : Ct} (h : d ∈ ds) : ∃ k, k < ds.length ∧ ct ds k = d := by
  obtain ⟨k, hk, rfl⟩ := List.getElem_of_mem h
  exact ⟨k, hk, by simp [ct, hk]⟩
theorem gv_in {ds : List Gv} {d : Gv} (h : d ∈ ds) : ∃ k, k < ds.length ∧ gv ds k = d := by
  obtain ⟨k, hk, rfl⟩ := List.getElem_of_mem h
  exact ⟨k, hk, by simp [gv, hk]⟩
theorem hd_in {ds : List Hd} {d : Hd} (h : d ∈ ds) : ∃ k, k < ds.length ∧ hd ds k = d := by
  obtain ⟨k, hk, rfl⟩ := List.getElem_of_mem h
  exact ⟨k, hk, by simp [hd, hk]⟩
theorem int_in {ds : List Int} {d : Int} (h : d ∈ ds) : ∃ k, k < ds.length ∧ ds.getD k 0 = d := by
  obtain ⟨k, hk, rfl⟩ := List.getElem_of_mem h
  exact ⟨k, hk, by simp [hk]⟩
theorem mem_ct {ds : List Ct} {k : Nat} (h : k < ds.length) : ct ds k ∈ ds := by simp [ct, h]
theorem mem_nd {ds : List Nd} {k : Nat} (h : k < ds.length) : nd ds k ∈ ds := by simp [nd, h]
theorem mem_gv {ds : List Gv} {k : Nat} (h : k < ds.length) : gv ds k ∈ ds := by simp [gv, h]
theorem mem_hd {ds : List Hd} {k : Nat} (h : k < ds.length) : hd ds k ∈ ds := by simp [hd, h]
theorem okN_of {ds : List Nd} (h : first (Qos.needF ds) ds.length = 0) : ∀ d ∈ ds, OkN d := by
  intro d hd
  obtain ⟨k, hk, rfl⟩ := nd_in hd
  have := Dvs.first_all h k hk
  unfold Qos.needF at this
  split at this
  · cases this
  · rename_i h1
    split at this
    · cases this
    · rename_i h2
      rw [not_or] at h1 h2
      exact ⟨by simpa using h1.1, by omega, by omega⟩
theorem okC_of {cs : List Ct} {k : Nat} (h : Qos.contF cs k = 0) : OkC (ct cs k) := by
  have h1 := Qos.cont_mild h
  unfold Qos.contF at h
  split at h
  · cases h
  rename_i hn
  split at h
  · cases h
  split at h
  · cases h
  split at h
  · cases h
  split at h
  · cases h
  rename_i h3
  have a := Qos.amt_in h1.1
  have b := Qos.amt_in h1.2.1
  exact ⟨by simpa using hn, a.1, a.2, b.1, b.2, by omega, okN_of h⟩
theorem okP_of {p : Pd} (h : podF p = 0) : OkP p := by
  obtain ⟨h1, h2, h3, h4⟩ := Qos.pod_len h
  refine ⟨h1, h2, h3.2, fun c hc => ?_⟩
  obtain ⟨k, hk, rfl⟩ := ct_in hc
  exact okC_of (Dvs.first_all h4 k hk)
theorem okD_of {dv : List Int} (h : devF dv = 0) : dv.length ≤ 16 ∧ ∀ x ∈ dv, 0 ≤ x ∧ x ≤ 15 := by
  unfold devF at h
  split at h
  · cases h
  refine ⟨by omega, fun x hx => ?_⟩
  obtain ⟨k, hk, rfl⟩ := int_in hx
  have := Dvs.first_all h k hk
  unfold devF1 at this
  split at this
  · cases this
  · omega
theorem okH_of {h : Hd} {b : Bool} (e : behindF h b = 0) (hc : ∀ g ∈ h.gs, g.cp < 18446744073709551616) : OkH h := by
  unfold behindF at e
  split at e
  · exact absurd e (by assumption)
  rename_i h1
  split at e
  · cases e
  rename_i h2
  rw [not_or] at h2
  refine ⟨okP_of (by omega), by omega, fun g hg => ?_⟩
  obtain ⟨k, hk, rfl⟩ := gv_in hg
  exact ⟨hc _ hg, okD_of (Dvs.first_all e k hk)⟩
theorem okL_of {hs : List Hd} (e : heldF hs = 0) (hc : ∀ h ∈ hs, ∀ g ∈ h.gs, g.cp < 18446744073709551616) : OkL hs := by
  unfold heldF at e
  split at e
  · cases e
  refine ⟨by omega, fun h hh => ?_⟩
  obtain ⟨k, hk, rfl⟩ := hd_in hh
  exact okH_of (Dvs.first_all e k hk) (hc _ hh)
theorem name_size {s : ByteArray} (h : nameMay s = true) : 0 < s.data.toList.length ∧ s.data.toList.length ≤ 8 := by
  have e : s.data.toList.length = s.size := by simp
  rw [e]
  simp only [nameMay, Bool.and_eq_true, decide_eq_true_eq] at h
  exact ⟨h.1.1, h.1.2⟩
theorem dd_le (n : Nat) (h : n < 18446744073709551616) : (Lib.decDigits n).length ≤ 20 := by rw [Lib.decDigits_length]; exact Lib.nDigits_le20 _ h
theorem dec_le (n : Int) (h : n ≤ 1125899906842624) : (dec n).length ≤ 20 := dd_le _ (by omega)
theorem join_le (c : UInt8) (m : Nat) : ∀ (xs : List (List UInt8)), (∀ x ∈ xs, x.length ≤ m) → (Lib.join xs [c]).length ≤ xs.length * (m + 1) := by
  intro xs h
  have key : ∀ r : List (List UInt8), (∀ x ∈ r, x.length ≤ m) → Lib.lens r ≤ r.length * m := by
    intro r
    induction r with
    | nil => intro _; simp [Lib.lens]
    | cons x r ih =>
      intro h
      have h1 := ih fun y hy => h y (by simp [hy])
      have h2 := h x (by simp)
      simp only [Lib.lens, List.map_cons, List.sum_cons, List.length_cons, Nat.add_mul, Nat.one_mul] at h1 ⊢
      omega
  cases xs with
  | nil => simp [Lib.join_nil]
  | cons x r =>
    rw [Lib.join_length]
    have h1 := key _ h
    simp only [List.length_cons, List.length_nil, Nat.mul_add, Nat.add_mul, Nat.one_mul, Nat.mul_one, Nat.zero_add] at h1 ⊢
    omega
theorem orNo_le {l : List UInt8} {m : Nat} (h : l.length ≤ m) : (orNo l).length ≤ m + 1 := by
  unfold orNo; split
  · simp
  · omega
theorem needTxt_le {d : Nd} (h : OkN d) : (needTxt d).length ≤ 29 := by
  have h1 := name_size h.1
  have h2 := dec_le d.many (by have := h.2.2; omega)
  simp only [needTxt, List.length_append, List.length_cons, List.length_nil]
  omega
theorem needsTxt_le {ds : List Nd} (h : ∀ d ∈ ds, OkN d) (hl : ds.length ≤ 3) : (needsTxt ds).length ≤ 91 := by
  refine orNo_le (Nat.le_trans (join_le 44 29 _ fun x hx => ?_) ?_)
  · obtain ⟨d, hd, rfl⟩ := List.mem_map.1 hx
    exact needTxt_le (h d hd)
  · rw [List.length_map]; omega
theorem devsTxt_le {dv : List Int} (h : ∀ x ∈ dv, 0 ≤ x ∧ x ≤ 15) (hl : dv.length ≤ 16) : (devsTxt dv).length ≤ 337 := by
  refine orNo_le (Nat.le_trans (join_le 44 20 _ fun x hx => ?_) ?_)
  · obtain ⟨d, hd, rfl⟩ := List.mem_map.1 hx
    exact dec_le d (by have := h d hd; omega)
  · rw [List.length_map]; omega
theorem setTxt_le (A : Nat) : (setTxt A).length ≤ 301 := orNo_le (Ost.txt_len A)
theorem contWs_le {c : Ct} (h : OkC c) : ∀ x ∈ contWs c, x.length ≤ 100 := by
  obtain ⟨h1, h2, h3, h4, h5, h6, h7⟩ := h
  have a := name_size h1
  have b1 := dec_le c.am (by omega)
  have b2 := dec_le c.ab (by omega)
  have b3 := dec_le c.cm (by omega)
  have b4 := dec_le c.cb (by omega)
  have b5 := needsTxt_le h7 h6
  intro x hx
  simp only [contWs, List.mem_cons, List.not_mem_nil, or_false] at hx
  rcases hx with rfl | rfl | rfl | rfl | rfl | rfl | rfl <;> first | omega | simp
theorem givenWs_le {g : Gv} (h : OkG g) : ∀ x ∈ givenWs g, x.length ≤ 400 := by
  have a := setTxt_le g.cp
  have b := devsTxt_le h.2.2 h.2.1
  intro x hx
  simp only [givenWs, List.mem_cons, List.not_mem_nil, or_false] at hx
  rcases hx with rfl | rfl <;> omega
theorem podWs_le {p : Pd} (h : OkP p) : ∀ x ∈ podWs p, x.length ≤ 100 := by
  have a := name_size h.1
  have b := dec_le p.pr (by have := h.2.1; omega)
  intro x hx
  simp only [podWs, List.mem_cons, List.not_mem_nil, or_false] at hx
  rcases hx with rfl | rfl | rfl <;> first | omega | simp
theorem contLine_le {c : Ct} {g : Gv} (hc : OkC c) (hg : OkG g) : (contLine c g).length ≤ 4000 := by
  have := join_le 32 400 (contWs c ++ givenWs g) fun x hx => by
    rcases List.mem_append.1 hx with h | h
    · have := contWs_le hc x h; omega
    · exact givenWs_le hg x h
  simp only [contLine, lineTxt, List.length_append, List.length_cons, List.length_nil] at this ⊢
  simp only [contWs, givenWs, List.length_cons, List.length_nil] at this
  simp only [contWs, givenWs]
  omega
theorem podLine_le {p : Pd} (h : OkP p) : (podLine p).length ≤ 400 := by
  have := join_le 32 100 (podWs p) (podWs_le h)
  simp only [podLine, lineTxt, List.length_append, List.length_cons, List.length_nil]
  simp only [podWs, List.length_cons, List.length_nil] at this ⊢
  omega
theorem okC_at {h : Hd} (e : OkH h) {k : Nat} (hk : k < h.pod.cs.length) : OkC (ct h.pod.cs k) ∧ OkG (gv h.gs k) :=
  ⟨e.1.2.2.2 _ (mem_ct hk), e.2.2 _ (mem_gv (by rw [e.2.1]; exact hk))⟩
theorem contsTo_le {h : Hd} (e : OkH h) : ∀ k, k ≤ h.pod.cs.length → (contsTo h k).length ≤ k * 4000 := by
  intro k
  induction k with
  | zero => intro _; simp [contsTo]
  | succ k ih =>
    intro hk
    have h1 := ih (by omega)
    obtain ⟨h2, h3⟩ := okC_at e (k := k) (by omega)
    have := contLine_le h2 h3
    rw [contsTo, List.length_append]
    omega
theorem podTxt_le {h : Hd} (e : OkH h) : (podTxt h).length ≤ 13000 := by
  have h1 := contsTo_le e _ (Nat.le_refl _)
  have h2 := podLine_le e.1
  have h3 := e.1.2.2.1
  rw [podTxt, List.length_append]
  omega
theorem bodyTo_le {hs : List Hd} (e : OkL hs) : ∀ k, k ≤ hs.length → (bodyTo hs k).length ≤ k * 13000 := by
  intro k
  induction k with
  | zero => intro _; simp [bodyTo]
  | succ k ih =>
    intro hk
    have h1 := ih (by omega)
    have h2 := podTxt_le (e.2 _ (mem_hd (k := k) (by omega)))
    rw [bodyTo, List.length_append]
    omega
theorem body_le {hs : List Hd} (e : OkL hs) : (body hs).length ≤ 156000 := by
  have := bodyTo_le e _ (Nat.le_refl _)
  have h2 := e.1
  unfold body
  omega
theorem sumTxt_le (b : List UInt8) : (sumTxt b).length ≤ 25 := by
  have := dd_le (fnv b) (Nat.lt_of_lt_of_le (fnv_lt b) (by omega))
  simp only [sumTxt, List.length_append, List.length_cons, List.length_nil]
  omega
end Sv
end Go.Proofs.YtlljniaobbbjgaaGreatDoor
