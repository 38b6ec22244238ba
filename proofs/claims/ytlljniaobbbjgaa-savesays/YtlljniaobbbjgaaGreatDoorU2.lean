/- TBase, Math4, VS1, Same, Amt2, Txt, VI1, VI4, VD1, DEnv, SMath2, SetW2 -/
import Derived.Test.YtlljniaobbbjgaaGreatDoorRows
import Derived.Test.YtlljniaobbbjgaaGreatDoorU1
import Derived.WalkKit
import Derived.WalkSpells
import Derived.WalkLawsBesides
import Derived.Deep.QuietTactic
import Derived.BigQuiet
import Derived.Lib.ItoaNum
import Derived.Deep.RegionWith
import Derived.Lib.ItoaLen
import Derived.RangeFuncNested
import Derived.RangeFuncBound
import Derived.RangeFuncCalls
import Derived.RangeFuncLeaves
import Derived.RangeFuncBox
import Derived.RangeFuncWrites
import Derived.Shelf.Abstract
import Derived.Shelf.RegionOpen
import Derived.OwnWalkIn
import Derived.TacticsInMore
import Derived.LoopNIn
import Derived.LoopIn
import Derived.OrdersHeld
import Derived.OrdersIn
import Derived.ProofKit
import Derived.OpenShut
import Derived.ChangeOld
import Derived.Deep.Strs
import Derived.Deep.Slices
import Derived.Carry
import Derived.JoinedOf
import Derived.JoinedAt
namespace Go.Proofs.YtlljniaobbbjgaaGreatDoor
open Go.RowKit
theorem two (b : Bool) : b = true ∨ b = false := by cases b <;> simp
theorem hideIt {p : Prop} (h : p) : Hid p := h
/-- An error's number as Go's value. -/
def errV (n : Int) : Value := if n = 0 then .nilIface else .iface 80 (.int .i64 n)
theorem below_drewN {B : Nat} {a w : World} (h : Below B a w) (n : Nat) : Below B a (w.drewN n) := ⟨h.os, h.tape, h.output, h.size, h.block⟩
theorem or_step (s n : Nat) (hs : s < 18446744073709551616) (hn : n < 64) : bits BinOp.or IntKind.u64 (s : Int) (IntKind.u64.wrap (2 ^ n)) = ((s ||| 2 ^ n : Nat) : Int) := by
  have hp : 2 ^ n < 18446744073709551616 := Nat.pow_lt_pow_right (a := 2) (by omega) hn
  rw [show (2 ^ n : Int) = ((2 ^ n : Nat) : Int) by simp]
  generalize 2 ^ n = q at hp ⊢
  rw [IntKind.wrap_u64, show (q : Int) % 18446744073709551616 = (q : Int) by omega]
  exact bits_or_u64_nat s q hs hp
theorem or_lt (a b : Nat) (ha : a < 18446744073709551616) (hb : b < 18446744073709551616) : a ||| b < 18446744073709551616 := Nat.or_lt_two_pow (n := 64) ha hb
theorem pow_lt64 (n : Nat) (h : n < 64) : 2 ^ n < 18446744073709551616 := Nat.pow_lt_pow_right (a := 2) (by omega) h
theorem bit_eq (A n : Nat) (hA : A < 18446744073709551616) : (bits BinOp.and IntKind.u64 ((A : Int) / 2 ^ n) 1 == 1) = A.testBit n := by
  have e : ((A : Int) / 2 ^ n) = ((A / 2 ^ n : Nat) : Int) := by simp
  have hlt : A / 2 ^ n < 18446744073709551616 := Nat.lt_of_le_of_lt (Nat.div_le_self _ _) hA
  rw [e, show (1 : Int) = ((1 : Nat) : Int) from rfl, bits_and_u64_nat _ _ hlt (by omega), Nat.testBit_eq_decide_div_mod_eq, Nat.and_one_is_mod]
  rw [Bool.eq_iff_iff]; simp; omega
end Go.Proofs.YtlljniaobbbjgaaGreatDoor
namespace Go.Proofs.YtlljniaobbbjgaaGreatDoor
namespace Ost
def decN (n : Nat) : List UInt8 := Lib.decDigits n
theorem decN_small (n : Nat) (h : n < 10) : decN n = [UInt8.ofNat (48 + n)] := Lib.decDigits_one h
theorem decN_big (n : Nat) (h : ¬ n < 10) : decN n = decN (n / 10) ++ [UInt8.ofNat (48 + n % 10)] := by
  unfold decN; rw [Lib.decDigits, dif_neg h]
theorem dig_ofNat (d : Nat) (h : d < 10) : isDig (UInt8.ofNat (48 + d)) = true ∧ ((UInt8.ofNat (48 + d)).toNat : Int) - 48 = d := by
  have e : (UInt8.ofNat (48 + d)).toNat = 48 + d := by simp; omega
  exact ⟨by rw [isDig_iff, e]; omega, by rw [e]; omega⟩
theorem decN_ne (n : Nat) : decN n ≠ [] := by
  by_cases h : n < 10
  · rw [decN_small n h]; simp
  · rw [decN_big n h]; simp
theorem decN_all (n : Nat) : allDig (decN n) = true ∧ val (decN n) = n := by
  induction n using Nat.strongRecOn with
  | ind n ih =>
    by_cases h : n < 10
    · obtain ⟨h1, h2⟩ := dig_ofNat n h
      rw [decN_small n h]
      exact ⟨by show (isDig _ && true) = true; rw [h1]; rfl, by show step 0 _ = _; unfold step; omega⟩
    · obtain ⟨h1, h2⟩ := dig_ofNat (n % 10) (by omega)
      obtain ⟨i1, i2⟩ := ih (n / 10) (by omega)
      rw [decN_big n h]
      exact ⟨by rw [allDig_snoc, i1, h1]; rfl, by rw [val_snoc, i2]; unfold step; omega⟩
theorem decN_head (n : Nat) : ¬ (1 < (decN n).length ∧ (decN n).headD 0 = 48) := by
  have key : 0 < n → (decN n).headD 0 ≠ 48 := by
    induction n using Nat.strongRecOn with
    | ind n ih =>
      intro h0
      by_cases h : n < 10
      · rw [decN_small n h]
        simp only [List.headD_cons]
        intro e
        have e2 := congrArg UInt8.toNat e
        have e3 : (UInt8.ofNat (48 + n)).toNat = 48 + n := by simp; omega
        rw [e3] at e2
        simp at e2; omega
      · rw [decN_big n h]
        have := ih (n / 10) (by omega) (by omega)
        cases hd : decN (n / 10) with
        | nil => exact absurd hd (decN_ne _)
        | cons a r => rw [hd] at this; simpa using this
  by_cases h0 : 0 < n
  · exact fun h => key h0 h.2
  · have : n = 0 := by omega
    subst this
    rw [decN_small 0 (by omega)]; simp
theorem decN_num (n : Nat) : isNum (decN n) = true := (isNum_iff _).2 ⟨decN_ne n, decN_head n, (decN_all n).1⟩
theorem decN_len (k n : Nat) (h : n < 10 ^ (k + 1)) : (decN n).length ≤ k + 1 := by
  induction k generalizing n with
  | zero => rw [decN_small n (by simpa using h)]; simp
  | succ k ih =>
    by_cases hs : n < 10
    · rw [decN_small n hs]; simp
    · rw [decN_big n hs, List.length_append]
      have := ih (n / 10) (by rw [Nat.pow_succ] at h; omega)
      simp; omega
theorem decN_good (n : Nat) (k : Nat) (hk : k + 1 ≤ 18) (h : n < 10 ^ (k + 1)) : good ((k + 1 : Nat) : Int) (decN n) = true := by
  rw [good_of_num _ _ (by omega), decN_num n]
  have := decN_len k n h
  simp; omega
theorem last_dig (l : List UInt8) (h : allDig l = true) (c : UInt8) (hc : isDig c = false) : l.getLast? ≠ some c := by
  intro e
  have hm := List.mem_of_getLast? e
  have := List.all_eq_true.1 h c hm
  rw [hc] at this; cases this
theorem no_suffix (l : List UInt8) (h : allDig l = true) (p : List UInt8) (c : UInt8) (hc : isDig c = false) : Lib.hasSuffix l (p ++ [c]) = false := by
  rw [Lib.hasSuffix, ← Bool.not_eq_true, List.isSuffixOf_iff_suffix]
  rintro ⟨u, rfl⟩
  have := last_dig _ h c hc
  simp at this
theorem cut1_digits (l : List UInt8) (h : allDig l = true) (c : UInt8) (hc : isDig c = false) : cut1 c l = (l, [], false) := by
  induction l with
  | nil => rfl
  | cons b r ih =>
    simp only [allDig, List.all_cons, Bool.and_eq_true] at h
    rw [cut1, if_neg (fun e => by rw [e, hc] at h; cases h.1), ih h.2]
theorem suffix_append (l p : List UInt8) : Lib.hasSuffix (l ++ p) p = true := by
  rw [Lib.hasSuffix, List.isSuffixOf_iff_suffix]; exact ⟨l, rfl⟩
theorem trim_append (l p : List UInt8) : Lib.trimSuffix (l ++ p) p = l := by
  rw [Lib.trimSuffix, if_pos (suffix_append l p)]; simp
theorem suffix_other (l : List UInt8) (a b c : UInt8) (h : b ≠ a) : Lib.hasSuffix (l ++ [a, c]) [b, c] = false := by
  rw [Lib.hasSuffix, ← Bool.not_eq_true, List.isSuffixOf_iff_suffix]
  rintro ⟨u, hu⟩
  have := (List.append_inj' hu rfl).2
  simp at this
  exact h this
/-- Whole processors. -/
theorem milli_whole (q : Nat) (h : q ≤ 1000) : milliOut (decN q) = ((q : Int) * 1000, 0) := by
  have hd := (decN_all q).1
  have h1 : Lib.hasSuffix (decN q) [109] = false := no_suffix _ hd [] 109 (by decide)
  have h2 := cut1_digits _ hd 46 (by decide)
  have hg : good 6 (decN q) = true := decN_good q 5 (by omega) (by omega)
  rw [milliOut, milliRaw, h1, h2, hg, (decN_all q).2]
  simp [bound]
  omega
theorem milli_m (q : Nat) (h : q ≤ 1000000) : milliOut (decN q ++ [109]) = ((q : Int), 0) := by
  have hg : good 9 (decN q) = true := decN_good q 8 (by omega) (by omega)
  rw [milliOut, milliRaw, suffix_append, trim_append, hg, (decN_all q).2]
  simp [bound]
  omega
theorem milliOut_ok (l : List UInt8) (k : Int) (h : milliOut l = (k, 0)) : 0 ≤ k ∧ k ≤ 1000000 := by
  have key : ∀ v, milliRaw l = some v → 0 ≤ v := by
    intro v hv
    unfold milliRaw at hv
    split at hv
    · split at hv
      · rename_i hg
        obtain ⟨⟨_, _, h3⟩, _⟩ := (good_iff _ _).1 hg
        cases hv; exact val_nonneg _ h3
      · cases hv
    · split at hv
      · rename_i hg
        obtain ⟨⟨_, _, h3⟩, _⟩ := (good_iff _ _).1 hg
        have hv1 := val_nonneg _ h3
        split at hv
        · split at hv
          · rename_i hp
            unfold placesOk at hp
            rw [Bool.and_eq_true, decide_eq_true_eq] at hp
            have hb := val_pad_bound _ hp.2 3 (by omega) hp.1.2
            rw [List.take_of_length_le (by rw [pad_length _ hp.1.2]; omega)] at hb
            cases hv; omega
          · cases hv
        · cases hv; omega
      · cases hv
  unfold milliOut bound at h
  split at h
  · simp at h
  · rename_i v hv
    have := key v hv
    split at h
    · simp at h
    · simp at h; omega
theorem bytesOut_ok (l : List UInt8) (k : Int) (h : bytesOut l = (k, 0)) (hz : (cutUnit l).2 = 1 ∨ (cutUnit l).2 = 1024 ∨ (cutUnit l).2 = 1048576 ∨ (cutUnit l).2 = 1073741824 ∨ (cutUnit l).2 = 1099511627776) : 0 ≤ k ∧ k ≤ 1125899906842624 := by
  unfold bytesOut at h
  split at h
  · rename_i hg
    obtain ⟨⟨_, _, h3⟩, _⟩ := (good_iff _ _).1 hg
    have hv1 := val_nonneg _ h3
    split at h
    · simp at h
    · rename_i hb
      simp at h
      subst h
      generalize val (cutUnit l).1 = v at *
      rcases hz with e | e | e | e | e <;> rw [e] at hb ⊢ <;> omega
  · simp at h
/-- How many of a unit. -/
theorem bytes_unit (q : Nat) (k : Nat) (u : List UInt8) (z : Int) (hk : (k = 0 ∧ u = [] ∧ z = 1) ∨ (k = 1 ∧ u = [75, 105] ∧ z = 1024) ∨ (k = 2 ∧ u = [77, 105] ∧ z = 1048576) ∨ (k = 3 ∧ u = [71, 105] ∧ z = 1073741824) ∨ (k = 4 ∧ u = [84, 105] ∧ z = 1099511627776))
    (h : (q : Int) * z ≤ 1125899906842624) : bytesOut (decN q ++ u) = ((q : Int) * z, 0) := by
  have hd := (decN_all q).1
  have hc : cutUnit (decN q ++ u) = (decN q, z) := by
    rcases hk with ⟨_, rfl, rfl⟩ | ⟨_, rfl, rfl⟩ | ⟨_, rfl, rfl⟩ | ⟨_, rfl, rfl⟩ | ⟨_, rfl, rfl⟩
    · rw [List.append_nil]
      have n1 : ∀ c, Lib.hasSuffix (decN q) [c, 105] = false := fun c => no_suffix _ hd [c] 105 (by decide)
      simp [cutUnit, n1]
    · rw [cutUnit, if_pos (suffix_append _ _), trim_append]
    · rw [cutUnit, suffix_other _ 77 75 105 (by decide), if_neg (by decide), if_pos (suffix_append _ _), trim_append]
    · rw [cutUnit, suffix_other _ 71 75 105 (by decide), if_neg (by decide), suffix_other _ 71 77 105 (by decide), if_neg (by decide), if_pos (suffix_append _ _), trim_append]
    · rw [cutUnit, suffix_other _ 84 75 105 (by decide), if_neg (by decide), suffix_other _ 84 77 105 (by decide), if_neg (by decide), suffix_other _ 84 71 105 (by decide), if_neg (by decide), if_pos (suffix_append _ _), trim_append]
  have hq : (q : Int) ≤ 1125899906842624 := by
    rcases hk with ⟨_, rfl, rfl⟩ | ⟨_, rfl, rfl⟩ | ⟨_, rfl, rfl⟩ | ⟨_, rfl, rfl⟩ | ⟨_, rfl, rfl⟩ <;> omega
  have hg : good 16 (decN q) = true := decN_good q 15 (by omega) (by omega)
  rw [bytesOut, hc, hg, (decN_all q).2, if_pos rfl]
  show (if 1125899906842624 / z < (q : Int) then ((0 : Int), (1 : Int)) else ((q : Int) * z, 0)) = _
  rw [if_neg]
  rcases hk with ⟨_, rfl, rfl⟩ | ⟨_, rfl, rfl⟩ | ⟨_, rfl, rfl⟩ | ⟨_, rfl, rfl⟩ | ⟨_, rfl, rfl⟩ <;> omega
end Ost
end Go.Proofs.YtlljniaobbbjgaaGreatDoor
namespace Go.Proofs.YtlljniaobbbjgaaGreatDoor
open Go.RowKit
theorem byte_at (s : ByteArray) (k : Nat) (h2 : k < s.data.toList.length) : s.data.toList[k] = s[k]'(by simpa using h2) := by simp [ByteArray.getElem_eq_getElem_data]
set_option maxHeartbeats 400000 in
theorem sum_any (s : ByteArray) (w : World) (hs : s.size ≤ maxLen) :
    Calls Tryz.prog 20 #[.string s] w fun e w' => e = .returned (.int .u32 (Sv.fnv s.data.toList : Nat)) ∧ w' = w := by
  unfold maxLen at hs
  have HL : Hid (s.data.toList.length = s.size) := by unfold Hid; simp
  go_enter Tryz.func20, Tryz.ntmps20
  go_wp2_with fail
  go_loop [3, 7] (fun h i => ∃ k : Nat, k ≤ s.size ∧ i = .int .i64 k ∧ h = .int .u32 (Sv.fnv (s.data.toList.take k) : Nat)) (fun _ i => s.size - (intOf i).toNat)
  case atStart => exact ⟨0, by omega, rfl, by simp [Sv.fnv]⟩
  case round =>
    obtain ⟨k, hk, rfl, rfl⟩ := hrel
    by_cases hlt : k < s.size
    · have hlt2 : k < s.data.toList.length := by rw [HL.out]; exact hlt
      have HN := hideIt (Sv.fnv_take hlt2)
      rw [byte_at s k hlt2] at HN
      have hh := Sv.fnv_lt (s.data.toList.take k)
      generalize Sv.fnv (s.data.toList.take k) = H at *
      have hb : s[k].toNat < 4294967296 := by have := s[k].toNat_lt; omega
      have hx := Sv.xor_u32 hh hb
      have hm := Sv.step_u32 H s[k]
      go_wp2_with fail
      go_round
      case rel => exact ⟨k + 1, by omega, rfl, by rw [HN.out]⟩
      case measure => simp [intOf]; omega
    · have hke : k = s.size := by omega
      subst hke
      have HE : Hid (s.data.toList.take s.size = s.data.toList) := by unfold Hid; rw [← HL.out, List.take_length]
      go_wp2_with fail
      go_ret
      exact ⟨congrArg (fun l => Ending.returned (.int .u32 (Sv.fnv l : Nat))) HE.out, rfl⟩
set_option maxHeartbeats 400000 in
theorem refSum_any (s : ByteArray) (w : World) (hs : s.size ≤ maxLen) :
    Calls Tryz.prog 21 #[.string s] w fun e w' => e = .returned (.int .i64 (Sv.fnv s.data.toList : Nat)) ∧ w' = w := by
  unfold maxLen at hs
  have HL : Hid (s.data.toList.length = s.size) := by unfold Hid; simp
  go_enter Tryz.func21, Tryz.ntmps21
  go_wp2_with fail
  go_loop [3, 4] (fun h i => ∃ k : Nat, k ≤ s.size ∧ i = .int .i64 k ∧ h = .int .i64 (Sv.fnv (s.data.toList.take k) : Nat)) (fun _ i => s.size - (intOf i).toNat)
  case atStart => exact ⟨0, by omega, rfl, by simp [Sv.fnv]⟩
  case round =>
    obtain ⟨k, hk, rfl, rfl⟩ := hrel
    by_cases hlt : k < s.size
    · have hlt2 : k < s.data.toList.length := by rw [HL.out]; exact hlt
      have HN := hideIt (Sv.fnv_take hlt2)
      rw [byte_at s k hlt2] at HN
      have hh := Sv.fnv_lt (s.data.toList.take k)
      generalize Sv.fnv (s.data.toList.take k) = H at *
      have hb : s[k].toNat < 4294967296 := by have := s[k].toNat_lt; omega
      have hx := Sv.xor_i64 hh hb
      obtain ⟨hm, hm2⟩ := Sv.step_i64 hh s[k]
      have hm3 : (0 : Int) ≤ ((H ^^^ s[k].toNat : Nat) : Int) * 16777619 := by omega
      go_wp2_with fail
      go_round
      case rel => exact ⟨k + 1, by omega, rfl, by rw [HN.out]⟩
      case measure => simp [intOf]; omega
    · have hke : k = s.size := by omega
      subst hke
      have HE : Hid (s.data.toList.take s.size = s.data.toList) := by unfold Hid; rw [← HL.out, List.take_length]
      go_wp2_with fail
      go_ret
      exact ⟨congrArg (fun l => Ending.returned (.int .i64 (Sv.fnv l : Nat))) HE.out, rfl⟩
end Go.Proofs.YtlljniaobbbjgaaGreatDoor
namespace Go.Proofs.YtlljniaobbbjgaaGreatDoor.S1
open Go.RowKit
theorem errV_zero : errV 0 = .nilIface := rfl
theorem errV_pos {f : Int} (h : 0 < f) : errV f = .iface 80 (.int .i64 f) := by unfold errV; rw [if_neg (by omega)]
set_option maxHeartbeats 400000 in
theorem same_zero (w : World) : Calls Tryz.prog 10 #[.nilIface, .int .i64 0] w fun e w' => e = .returned (.bool true) ∧ w' = w := by
  go_enter Tryz.func10, Tryz.ntmps10
  go_wp2_with fail
  go_ret
  exact ⟨rfl, rfl⟩
theorem run_assert (f : Int) (w : World) : (Instr.typeAssert (.iface 80 (.int .i64 f)) 27 80 true).run Tryz.prog w = .ok (.tuple #[.int .i64 f, .bool true]) w := by kernel_rfl
set_option maxRecDepth 100000 in
set_option maxHeartbeats 400000 in
theorem same_pos (f : Int) (w : World) (h : 0 < f) : Calls Tryz.prog 10 #[.iface 80 (.int .i64 f), .int .i64 f] w fun e w' => e = .returned (.bool true) ∧ w' = w := by
  have hta := run_assert f
  go_enter Tryz.func10, Tryz.ntmps10
  go_wp2_with fail
  go_ret
  exact ⟨rfl, rfl⟩
theorem same_any (f : Int) (w : World) (h : 0 ≤ f) : Calls Tryz.prog 10 #[errV f, .int .i64 f] w fun e w' => e = .returned (.bool true) ∧ w' = w := by
  by_cases h0 : f = 0
  · subst h0; exact same_zero w
  · rw [errV_pos (by omega)]; exact same_pos f w (by omega)
end Go.Proofs.YtlljniaobbbjgaaGreatDoor.S1
namespace Go.Proofs.YtlljniaobbbjgaaGreatDoor.S1
open Go.RowKit
theorem two (b : Bool) : b = true ∨ b = false := by cases b <;> simp
theorem hideIt {p : Prop} (h : p) : Hid p := h
def unitV (c : List UInt8 × Int) : Value := .tuple #[.string ⟨c.1.toArray⟩, .int .i64 c.2]
def numErr (p : Int × Int) : Value := .tuple #[.int .i64 p.1, errV p.2]
theorem cutUnit_le (l : List UInt8) : (Ost.cutUnit l).1.length ≤ l.length := by
  unfold Ost.cutUnit
  repeat' split
  all_goals first | exact trim_le _ _ | exact Nat.le_refl _
theorem cutUnit_size (l : List UInt8) : (Ost.cutUnit l).2 = 1 ∨ (Ost.cutUnit l).2 = 1024 ∨ (Ost.cutUnit l).2 = 1048576 ∨ (Ost.cutUnit l).2 = 1073741824 ∨ (Ost.cutUnit l).2 = 1099511627776 := by
  unfold Ost.cutUnit
  repeat' split
  all_goals simp
end Go.Proofs.YtlljniaobbbjgaaGreatDoor.S1
namespace Go.Proofs.YtlljniaobbbjgaaGreatDoor.S1
open Go.RowKit
/-- The library's table that strconv.Itoa reads. -/
def Tab (w : World) : Prop := Lib.TabIs Tryz.prog w "internal/strconv.uint64pow10" .u64 Lib.pow10Tab
theorem gTab : Tryz.prog.globalNamed "internal/strconv.uint64pow10" = some 1 := by kernel_rfl
theorem Tab.below {w w' : World} (h : Tab w) (hb : Below w.heap.size w w') (hB : 1 < w.heap.size) : Tab w' := var?_below hb gTab hB h
theorem below_grow (B : Nat) (w : World) (hB : B ≤ w.heap.size) (k : Nat) (os : Array Obj) : Below B w (Sort.grow (w.drewN k) os) :=
  ⟨rfl, rfl, rfl, by simp [Sort.grow], fun i hi => by
    show (w.heap ++ os)[i]? = _
    rw [Array.getElem?_append_left (by omega)]⟩
def dec (n : Int) : List UInt8 := Lib.decDigits n.toNat
theorem itoa_any (n : Int) (w : World) (h0 : 0 ≤ n) (h1 : n ≤ 9223372036854775807) (ht : Tab w) :
    Calls Tryz.prog 56 #[.int .i64 n] w fun e w' => e = .returned (.string ⟨(dec n).toArray⟩) ∧ Below w.heap.size w w' := by
  refine (Tryz.strconv_Itoa n (by omega) h1 w ht).mono ?_
  rintro e w' ⟨he, k, os, rfl⟩
  refine ⟨?_, below_grow _ w (Nat.le_refl _) k os⟩
  rw [he, Lib.itoa, if_neg (by omega)]; rfl
theorem dec_len (n : Int) (h1 : n ≤ 9223372036854775807) : (dec n).length ≤ 20 := by
  unfold dec; rw [Lib.decDigits_length]; exact Lib.nDigits_le20 _ (by omega)
def txtErr (p : List UInt8 × Int) : Value := .tuple #[.string ⟨p.1.toArray⟩, errV p.2]
/-- Thousandths as they are told, and an error's number. -/
def milliText (n : Int) : List UInt8 × Int :=
  if n < 0 ∨ 1000000 < n then ([], 1) else if n % 1000 = 0 then (dec (n / 1000), 0) else (dec n ++ [109], 0)
theorem str_append (a b : List UInt8) : (ByteArray.mk a.toArray) ++ (ByteArray.mk b.toArray) = ByteArray.mk (a ++ b).toArray := by
  apply ByteArray.ext; simp
/-- The greatest unit of which it is a whole number: how many of it, and which. -/
def red : Nat → Int → Int × Nat
  | 0, n => (n, 0)
  | f + 1, n => if n ≠ 0 ∧ n % 1024 = 0 then ((red f (n / 1024)).1, (red f (n / 1024)).2 + 1) else (n, 0)
def unitTxt : Nat → List UInt8
  | 0 => []
  | 1 => [75, 105]
  | 2 => [77, 105]
  | 3 => [71, 105]
  | _ => [84, 105]
def bytesText (n : Int) : List UInt8 × Int :=
  if n < 0 ∨ 1125899906842624 < n then ([], 1) else (dec (red 4 n).1 ++ unitTxt (red 4 n).2, 0)
theorem red_step (k : Nat) (v : Int) (n : Int) (hk : k < 4) (h1 : v ≠ 0) (h2 : v % 1024 = 0) (h : red 4 n = ((red (4 - k) v).1, (red (4 - k) v).2 + k)) :
    red 4 n = ((red (4 - (k + 1)) (v / 1024)).1, (red (4 - (k + 1)) (v / 1024)).2 + (k + 1)) := by
  rw [h, show 4 - k = (4 - (k + 1)) + 1 by omega, red, if_pos ⟨h1, h2⟩]
  simp; omega
theorem red_stop (k : Nat) (v : Int) (n : Int) (hk : k ≤ 4) (h1 : ¬ (v ≠ 0 ∧ v % 1024 = 0 ∧ k < 4)) (h : red 4 n = ((red (4 - k) v).1, (red (4 - k) v).2 + k)) :
    red 4 n = (v, k) := by
  rw [h]
  by_cases h4 : k < 4
  · rw [show 4 - k = (4 - (k + 1)) + 1 by omega, red, if_neg (fun h => h1 ⟨h.1, h.2, h4⟩)]; simp
  · rw [show 4 - k = 0 by omega, red]; simp
theorem unitTxt_len (k : Nat) : (unitTxt k).length ≤ 2 := by
  unfold unitTxt; split <;> simp
end Go.Proofs.YtlljniaobbbjgaaGreatDoor.S1
namespace Go.Proofs.YtlljniaobbbjgaaGreatDoor
open Go.RowKit
/-- All lies as it lay, but what K names; there may be more. -/
structure Apart (K : Nat → Prop) (W W' : World) : Prop where
  os : W'.os = W.os
  tape : W'.tape = W.tape
  output : W'.output = W.output
  size : W.heap.size ≤ W'.heap.size
  block : ∀ j, j < W.heap.size → ¬ K j → W'.heap[j]? = W.heap[j]?
theorem Apart.refl (K : Nat → Prop) (W : World) : Apart K W W := ⟨rfl, rfl, rfl, Nat.le_refl _, fun _ _ _ => rfl⟩
theorem Apart.trans {K : Nat → Prop} {A B C : World} (h : Apart K A B) (k : Apart K B C) : Apart K A C :=
  ⟨k.os.trans h.os, k.tape.trans h.tape, k.output.trans h.output, Nat.le_trans h.size k.size, fun j hj hk => (k.block j (Nat.lt_of_lt_of_le hj h.size) hk).trans (h.block j hj hk)⟩
theorem Apart.wide {K K' : Nat → Prop} {A B : World} (h : Apart K A B) (hk : ∀ j, K j → K' j) : Apart K' A B :=
  ⟨h.os, h.tape, h.output, h.size, fun j hj hn => h.block j hj fun e => hn (hk j e)⟩
theorem Apart.of_below {K : Nat → Prop} {W W' : World} (h : Below W.heap.size W W') : Apart K W W' := ⟨h.os, h.tape, h.output, h.size, fun j hj _ => h.block j hj⟩
theorem Apart.alloc (K : Nat → Prop) (W : World) (o : Obj) : Apart K W (W.alloc o) := .of_below ((Below.refl _ W).alloc (Nat.le_refl _) o)
theorem Apart.drewN (K : Nat → Prop) (W : World) (n : Nat) : Apart K W (W.drewN n) := ⟨rfl, rfl, rfl, Nat.le_refl _, fun _ _ _ => rfl⟩
theorem Apart.putObj {K : Nat → Prop} {l : Nat} (hl : K l) (W : World) (o : Obj) : Apart K W (W.putObj l o) :=
  have hg := grownBy_putObj' W l o
  ⟨hg.os, hg.tape, hg.output, hg.size, fun j hj hn => hg.block j hj fun e => hn (by cases e; exact hl)⟩
theorem Apart.setCell {K : Nat → Prop} {b : Nat} (hb : K b) (W : World) (j : Nat) (v : Value) : Apart K W (W.setCell ⟨b, j, none⟩ v) :=
  ⟨rfl, rfl, rfl, (KeepsWalks.setCell W _ v).size, fun k _ hn => Below.heap_setCell _ _ _ k fun e => hn (by rw [e]; exact hb)⟩
section
variable {F : Fence} {n : Nat} {P : Program}
/-- An iterator that hands out just these, one behind the other, and writes what K names alone. -/
def IterW (F : Fence) (n : Nat) (P : Program) (gf : Nat) (lb : Array Value) (K : Nat → Prop) (ts : List (Array Value)) (w : World) : Prop :=
  ∀ (l : Nat) (J : Nat → World → Prop) (Jx : World → Prop) (W : World), (∀ j, K j → W.heap[j]? = w.heap[j]?) → (∀ k A B, J k A → Apart K A B → J k B) →
    (∀ k A, (hk : k < ts.length) → J k A → YieldAt F (n - 1) P l ts[k] A fun e B => (e = .returned (.bool true) ∧ J (k + 1) B ∧ ∀ j, K j → B.heap[j]? = A.heap[j]?) ∨ (e = .returned (.bool false) ∧ Jx B)) →
    J 0 W → CallsIn F n P gf (#[.func (.yield l) #[] #[]] ++ lb) W fun e B => (∃ v, e = .returned v) ∧ (J ts.length B ∨ Jx B)
/-- What a round's body keeps, and how it may be left. -/
def RoundEnds (K : Nat → Prop) (L : Nat) (R : World → Prop) (X : Code → World → Prop) (W : World) : Exit → Act → World → Prop
  | .normal, _, W' => (∀ j, (K j ∨ j = L ∨ j = L + 1) → W'.heap[j]? = W.heap[j]?) ∧ R W'
  | .ret, _, W' => (∀ j, (K j ∨ j = L ∨ j = L + 1) → W'.heap[j]? = W.heap[j]?) ∧ X .ret W'
  | .exit id, _, W' => (∀ j, (K j ∨ j = L ∨ j = L + 1) → W'.heap[j]? = W.heap[j]?) ∧ X (.exit id) W'
  | _, _, _ => False
theorem wpIn_rangeW {g : Operand} {ps : Array Tmp} {assign body : Code} {Q : Exit → Act → World → Prop} {a : Act} {w : World} (hro : F.round = none) (h1 : 1 ≤ n) {gf : Nat} {lb : Array Value}
    (hg : a.eval g = .func (.func gf) #[] lb) (hFg : F.fn gf) (eg : ∀ args w, (callFunc gf args).run P w = .ok (.enter gf args) w)
    {K : Nat → Prop} {ts : List (Array Value)} (hK : ∀ j, K j → j < w.heap.size) (hseq : IterW F (n - 1) P gf lb K ts w) (hps : ∀ x ∈ ts, x.size = ps.size)
    (I : Nat → World → Prop) (Ix : Code → World → Prop) (hI : ∀ k A B, I k A → Apart (fun j => K j ∨ j = w.heap.size + 1) A B → I k B) (hIx : ∀ c A B, Ix c A → Apart (fun j => K j ∨ j = w.heap.size + 1) A B → Ix c B) (h0 : I 0 w) (a₁ : Nat → Act)
    (hassign : ∀ (l k : Nat) (hk : k < ts.length) (W : World) (R : Act → World → Prop), R (a₁ k) W → assign.wpIn (F.inRound l) (n - 1 - 1) P (Exit.then R (fun _ _ _ => False)) { tmps := (ps.zip ts[k]).foldl (fun t (p, v) => t.setIfInBounds p v) a.tmps, defers := [] } W)
    (hbody : ∀ (l k : Nat) (W : World), k < ts.length → w.heap.size + 1 < W.heap.size → I k W → body.wpIn (F.inRound l) (n - 1 - 1) P (RoundEnds K w.heap.size (I (k + 1)) Ix W) (a₁ k) W)
    (hdone : ∀ (W : World), I ts.length W → W.heap[w.heap.size]? = some (.deferred (some [])) → Q .normal { a with defers := { target := .collected w.heap.size, args := #[] } :: a.defers } W)
    (hstop : ∀ (c : Code) (W : World), Ix c W → W.heap[w.heap.size]? = some (.deferred (some [])) → c.wpIn F n P Q { a with defers := { target := .collected w.heap.size, args := #[] } :: a.defers } W) :
    (Code.rangeFunc g ps assign body).wpIn F n P Q a w := by
  refine wpIn_rangeFunc fun fn hfn => ?_
  rw [hro]
  generalize hrc : (fun (st : LoopState) (pe : Option Code) => ({ state := st, pending := pe, fn := fn, tmps := a.tmps, params := ps, assign := assign, body := body, defers := w.heap.size } : Loop)) = rc
  have hst : ∀ st pe, (rc st pe).state = st := fun _ _ => by rw [← hrc]
  have hup : ∀ st pe st' pe', ({ rc st pe with state := st', pending := pe' } : Loop) = rc st' pe' := fun _ _ _ _ => by rw [← hrc]
  have hup1 : ∀ st pe st', ({ rc st pe with state := st' } : Loop) = rc st' pe := fun _ _ _ => by rw [← hrc]
  let L := w.heap.size + 1
  let U := (w.alloc (.deferred (some []))).alloc (.loop (rc .ready none))
  have hUl : U.heap[L]? = some (.loop (rc .ready none)) := by
    have := World.alloc_heap_new (w.alloc (.deferred (some []))) (.loop (rc .ready none))
    rwa [World.size_alloc] at this
  have hUd : U.heap[w.heap.size]? = some (.deferred (some [])) := (Below.heap_alloc _ _ _ (by simp)).trans (World.alloc_heap_new w _)
  have hAU : Apart (fun j => K j ∨ j = L) w U := (Apart.alloc _ _ _).trans (Apart.alloc _ _ _)
  have hKU : ∀ j, K j → U.heap[j]? = w.heap[j]? := fun j hj => by
    have := hK j hj
    exact (Below.heap_alloc _ _ _ (by simp; omega)).trans (Below.heap_alloc _ _ _ this)
  have hKL : ∀ j, K j → j ≠ L ∧ j ≠ w.heap.size := fun j hj => by
    have := hK j hj
    exact ⟨by show j ≠ w.heap.size + 1; omega, by omega⟩
  let J : Nat → World → Prop := fun k W => I k W ∧ W.heap[L]? = some (.loop (rc .ready none)) ∧ W.heap[w.heap.size]? = some (.deferred (some []))
  let Jx : World → Prop := fun W => ∃ c, Ix c W ∧ W.heap[L]? = some (.loop (rc .done (some c))) ∧ W.heap[w.heap.size]? = some (.deferred (some []))
  have keep : ∀ {A B : World} {o : Obj} {j : Nat}, Apart K A B → ¬ K j → A.heap[j]? = some o → B.heap[j]? = some o := fun h hj ho => (h.block _ (Array.getElem?_eq_some_iff.1 ho).1 hj).trans ho
  have hnL : ¬ K L := fun e => (hKL L e).1 rfl
  have hnD : ¬ K w.heap.size := fun e => (hKL _ e).2 rfl
  refine ⟨L, [{ target := .collected w.heap.size, args := #[] }], U, { target := .fn (.func gf) lb, args := #[.func (.yield L) #[] #[]] }, U, gf, #[.func (.yield L) #[] #[]] ++ lb, U, ?_, ?_, ?_, ?_, fun _ => h1, ?_⟩
  · show _ = Result.ok _ ((w.alloc (.deferred (some []))).alloc (.loop (rc .ready none)))
    rw [← hrc]; exact run_enterLoop_outer _ _ _ _ _
  · simp only [resolve, hg]; simp [go_sem]
  · intro f' hf'; simp [Target.leads] at hf'; subst hf'; exact hFg
  · simp [invoke, go_sem, eg]
  · refine (hseq L J Jx U hKU (fun k A B ⟨hi, hl, hd⟩ hab => ⟨hI k A B hi (hab.wide fun _ => .inl), keep hab hnL hl, keep hab hnD hd⟩) ?_ ⟨hI 0 w U h0 hAU, hUl, hUd⟩).mono ?_
    · rintro k A hk ⟨hi, hl, hd⟩
      have hlt : L < A.heap.size := (Array.getElem?_eq_some_iff.1 hl).1
      have hy := run_yield (P := P) (args := ts[k]) hl (by rw [← hrc]; exact hps _ (List.getElem_mem hk))
      rw [← hrc] at hy
      refine ⟨fn, _, assign, body, hy, roundIn_of_wpIn hfn (hassign L k hk A _ ⟨_, run_beginRound hl (hst _ _), ?_⟩)⟩
      rw [hup1]
      let A2 := A.putObj L (.loop (rc .busy none))
      have hl2 : A2.heap[L]? = some (.loop (rc .busy none)) := World.putObj_heap_same hlt
      have hd2 : A2.heap[w.heap.size]? = some (.deferred (some [])) := (World.putObj_heap_other (by show w.heap.size ≠ w.heap.size + 1; omega)).trans hd
      have hK2 : ∀ j, K j → A2.heap[j]? = A.heap[j]? := fun j hj => World.putObj_heap_other (hKL j hj).1
      have hi2 : I k A2 := hI k A A2 hi (Apart.putObj (.inr rfl) _ _)
      refine wpIn_mono (hbody L k A2 hk (Nat.lt_of_lt_of_le hlt (grownBy_putObj' A L _).size) hi2) ?_
      have fin : ∀ (jump : Option Code) (B : World), (∀ j, (K j ∨ j = w.heap.size ∨ j = w.heap.size + 1) → B.heap[j]? = A2.heap[j]?) →
          (Instr.endRound L jump).run P B = .ok (.bool jump.isNone) (B.putObj L (.loop (rc (if jump.isNone then .ready else .done) jump))) ∧
          (B.putObj L (.loop (rc (if jump.isNone then .ready else .done) jump))).heap[L]? = some (.loop (rc (if jump.isNone then .ready else .done) jump)) ∧
          (B.putObj L (.loop (rc (if jump.isNone then .ready else .done) jump))).heap[w.heap.size]? = some (.deferred (some [])) ∧
          ∀ j, K j → (B.putObj L (.loop (rc (if jump.isNone then .ready else .done) jump))).heap[j]? = A.heap[j]? := fun jump B hb => by
        have hl3 : B.heap[L]? = some (.loop (rc .busy none)) := (hb L (.inr (.inr rfl))).trans hl2
        have hr := run_endRound (P := P) jump hl3
        rw [hup] at hr
        exact ⟨hr, World.putObj_heap_same (Array.getElem?_eq_some_iff.1 hl3).1, (World.putObj_heap_other (by show w.heap.size ≠ w.heap.size + 1; omega)).trans ((hb _ (.inr (.inl rfl))).trans hd2),
          fun j hj => (World.putObj_heap_other (hKL j hj).1).trans ((hb j (.inl hj)).trans (hK2 j hj))⟩
      rintro e a3 B hp
      cases e with
      | normal =>
        obtain ⟨hb, hi3⟩ := hp
        obtain ⟨hr, f1, f2, f3⟩ := fin none B hb
        exact ⟨_, _, hr, .inl ⟨rfl, ⟨hI _ _ _ hi3 (Apart.putObj (.inr rfl) _ _), f1, f2⟩, f3⟩⟩
      | ret =>
        obtain ⟨hb, hx⟩ := hp
        obtain ⟨hr, f1, f2, _⟩ := fin (some .ret) B hb
        exact ⟨_, _, hr, .inr ⟨rfl, .ret, hIx _ _ _ hx (Apart.putObj (.inr rfl) _ _), f1, f2⟩⟩
      | exit id =>
        obtain ⟨hb, hx⟩ := hp
        obtain ⟨hr, f1, f2, _⟩ := fin (some (.exit id)) B hb
        exact ⟨_, _, hr, .inr ⟨rfl, .exit id, hIx _ _ _ hx (Apart.putObj (.inr rfl) _ _), f1, f2⟩⟩
      | goto t => exact hp.elim
      | panic ch => exact hp.elim
      | outgrown => exact hp.elim
    · rintro e B ⟨⟨v, rfl⟩, (⟨hi, hl, hd⟩ | ⟨c, hx, hl, hd⟩)⟩
      · have hr := run_endLoop (P := P) hl (by rw [hst]; simp)
        rw [hup1] at hr
        refine ⟨_, _, hr, ?_⟩
        have hp : (rc .ready none).pending = none := by rw [← hrc]
        rw [hp]
        exact hdone _ (hI _ _ _ hi (Apart.putObj (.inr rfl) _ _)) ((World.putObj_heap_other (by show w.heap.size ≠ w.heap.size + 1; omega)).trans hd)
      · have hr := run_endLoop (P := P) hl (by rw [hst]; simp)
        rw [hup1] at hr
        refine ⟨_, _, hr, ?_⟩
        have hp : (rc .done (some c)).pending = some c := by rw [← hrc]
        rw [hp]
        exact hstop c _ (hIx _ _ _ hx (Apart.putObj (.inr rfl) _ _)) ((World.putObj_heap_other (by show w.heap.size ≠ w.heap.size + 1; omega)).trans hd)
end
end Go.Proofs.YtlljniaobbbjgaaGreatDoor
namespace Go.Proofs.YtlljniaobbbjgaaGreatDoor
open Go.RowKit
/-- A piece of code that is left at its end alone. -/
def NormalAtW (R : Act → World → Prop) : Exit → Act → World → Prop
  | .normal, a, w => R a w
  | _, _, _ => False
theorem NormalAtW.mk {R : Act → World → Prop} {a : Act} {w : World} (h : R a w) : NormalAtW R .normal a w := h
theorem noneOut (R : Act → World → Prop) : ¬ LetsOut (NormalAtW R) := by
  rintro ⟨a, w, h⟩
  exact h
section
variable {P : Program} {ops : Array Oper} {Q : Exit → Act → World → Prop} {l n : Nat}
theorem ops_in (hnd : ∀ (i : Nat) (o : Oper) c, ops[i]? = some o → o.op ≠ Op.defer c) (hLO : ¬ LetsOut Q) : ∀ (is : List Nat) (a : Act) (w : World), wpOps P ops Q is a w → wpOpsIn (Fence.wide.inRound l) n P ops Q is a w := by
  intro is
  induction is with
  | nil => intro a w h; exact h
  | cons i r ih =>
    intro a w h
    unfold wpOps at h
    unfold wpOpsIn
    cases ho : ops[i]? with
    | none => rw [ho] at h; exact ih a w h
    | some o =>
      rw [ho] at h
      dsimp only at h ⊢
      split at h
      · rename_i hw
        rw [if_pos hw]
        rcases h with h | h
        · refine ⟨fun _ _ => trivial, ?_⟩
          rw [Oper.semAt_eq _ _ _ (fun c => hnd i o c ho)]
          unfold Oper.wp at h
          generalize (execOp a.eval o).run P w = res at h ⊢
          cases res with
          | ok nx w' =>
            cases nx with
            | value v => exact ih _ _ h
            | skip => exact ih _ _ h
            | defer d => exact ih _ _ h
            | enter f args =>
              refine ⟨(fun e => by cases e), CallsIn.inRound l (callsIn_wide.2 (Calls.mono h ?_))⟩
              rintro e w'' hq
              cases e with
              | returned v => exact ih _ _ hq
              | panicked ch => exact hq
              | outgrown => exact hq
            | row rn args =>
              exact ⟨(fun e => by cases e), fun c cs _ => by
                obtain ⟨v, w'', hr, hs⟩ := h c cs
                exact ⟨v, w'', ih _ _ hr, stepsIn_wide.2 hs⟩⟩
            | _ => exact h.elim
          | halt ht w' =>
            cases ht with
            | panic v => exact h
            | _ => exact h.elim
        · exact absurd h.2 hLO
      · rename_i hw
        rw [if_neg hw]
        exact ⟨fun _ _ => trivial, ih _ _ h⟩
theorem wpIn_round_held {S : World → Prop} {id : Nat} {a : Act} {w : World} (hm : P.follows .mixedOrders = true) (hnd : ∀ (i : Nat) (o : Oper) c, ops[i]? = some o → o.op ≠ Op.defer c) (hLO : ¬ LetsOut Q)
    (h : wpAnyH P .any ops Q S ops.size (Array.replicate ops.size false) a w.drew) : (Code.region id ops true).wpIn (Fence.wide.inRound l) n P Q a w :=
  wpIn_region_draw fun t => by
    simp only [Region.schedule, hm, Bool.true_or, if_true]
    exact ops_in hnd hLO _ _ _ (wpAny_sound ops.size t _ a _ (wpAny_of_held _ _ _ _ h))
theorem wpIn_normalAtV {F : Fence} {c : Code} {R : Act → World → Prop} {a : Act} {w : World} (h : Code.wpIn F n P c (NormalAtW R) a w) (hq : ∀ a w, R a w → Q .normal a w) : Code.wpIn F n P c Q a w :=
  wpIn_mono h fun e a w h => by
    cases e with
    | normal => exact hq _ _ h
    | _ => exact h.elim
end
end Go.Proofs.YtlljniaobbbjgaaGreatDoor
namespace Go.Proofs.YtlljniaobbbjgaaGreatDoor
open Go.RowKit
theorem results_cellV {fn : Func} {p : Tmp} {ty : TypeId} (h : fn.results = #[.cell p ty]) (tmps : Array Value) (P : Program) (w : World) :
    (results fn tmps).run P w = ((asAddr (tmps.getD p undef)).run P w).andThen fun a w₁ => (loadVar ty a).run P w₁ := by
  simp only [results, h]
  simp [Sem.run_bind, Result.andThen]
/-- A file, and its draft. -/
structure Sd where
  ft : Bool
  fb : ByteArray
  dt : Bool
  db : ByteArray
def Sd.agg (s : Sd) : Value := .agg #[.bool s.ft, .string s.fb, .bool s.dt, .string s.db]
/-- A Write of these bytes, or a Move. -/
structure Chg where
  wr : Bool
  bs : ByteArray
def Chg.agg (c : Chg) : Value := .agg #[.bool c.wr, .string c.bs]
/-- What a change makes of it. -/
def Chg.on (c : Chg) (s : Sd) : Sd := if c.wr = true then ⟨s.ft, s.fb, true, c.bs⟩ else ⟨s.dt, s.db, false, ⟨#[]⟩⟩
set_option maxRecDepth 100000 in
set_option maxHeartbeats 1000000 in
theorem on_any (c : Chg) (s : Sd) (w : World) : Calls Tryz.prog 50 #[c.agg, s.agg] w fun e w' => e = .returned (c.on s).agg ∧ Below w.heap.size w w' := by
  obtain ⟨wr, bs⟩ := c
  obtain ⟨ft, fb, dt, db⟩ := s
  unfold Chg.agg Sd.agg
  dsimp only
  have hb := (((Below.refl w.heap.size w).alloc (Nat.le_refl _) (.cells #[.bool wr, .string bs] 111)).alloc (by simp) (.cells #[.bool ft, .string fb, .bool dt, .string db] 90))
  cases wr with
  | true =>
    have HB := hideIt (hb.alloc hb.size (.cells #[.bool ft, .string fb, .bool true, .string bs] 90))
    clear hb
    go_enter Tryz.func50, Tryz.ntmps50
    go_wp2_with fail
    refine bodyPost_ret (v := .agg #[.bool ft, .string fb, .bool true, .string bs]) ?_ rfl ⟨rfl, HB.out⟩
    rw [results_cellV rfl]
    go_simp
  | false =>
    have HB := hideIt (hb.alloc hb.size (.cells #[.bool dt, .string db, .bool false, .string ⟨#[]⟩] 90))
    clear hb
    go_enter Tryz.func50, Tryz.ntmps50
    go_wp2_with fail
    refine bodyPost_ret (v := .agg #[.bool dt, .string db, .bool false, .string ⟨#[]⟩]) ?_ rfl ⟨rfl, HB.out⟩
    rw [results_cellV rfl]
    go_simp
end Go.Proofs.YtlljniaobbbjgaaGreatDoor
namespace Go.Proofs.YtlljniaobbbjgaaGreatDoor
open Go.ChangeShapes Go.WideShapes Go.ChangeAt Go.RowKit
open Dvs (Dv dv0 dv nth)
theorem ownD : ownKnob Tryz.prog.godebug = none := by kernel_rfl
theorem laidOutD : laidOutB Tryz.prog = true := by kernel_rfl
/-- A slice of values of so many cells each, each such as is told. -/
def RowsOf (W : World) (v : Value) (N : Nat) (p : List Value → Prop) : Prop :=
  ∃ ao len c, v = .slice ao len c ∧ len ≤ maxLen ∧ (0 < len → ∃ b o, ao = some ⟨b, o, none⟩ ∧ b < W.heap.size ∧ ∀ k, k < len → ∃ cs : List Value, cs.length = N ∧ (∀ j, j < N → W.cell? ⟨b, o + k * N + j, none⟩ = cs[j]?) ∧ p cs)
theorem RowsOf.below {W W' : World} {v : Value} {N : Nat} {p q : List Value → Prop} (h : RowsOf W v N p) (hb : Below W.heap.size W W') (hp : ∀ cs, p cs → q cs) : RowsOf W' v N q := by
  obtain ⟨ao, len, c, hv, hm, hr⟩ := h
  refine ⟨ao, len, c, hv, hm, fun h0 => ?_⟩
  obtain ⟨b, o, ha, hlt, hc⟩ := hr h0
  refine ⟨b, o, ha, Nat.lt_of_lt_of_le hlt hb.size, fun k hk => ?_⟩
  obtain ⟨cs, hl, hcs, hpc⟩ := hc k hk
  exact ⟨cs, hl, fun j hj => (hb.cell (p := ⟨b, o + k * N + j, none⟩) hlt).trans (hcs j hj), hp cs hpc⟩
section
variable {H : Type} {enc : TypeId × Value → H} {P : Program} {W : World}
theorem trod_field {base : Nat} {spare : Nat → Bool} {held : Bool} {fuel : Nat} {t : TypeId} {cs : List Value} {x : DataW H × List MemPlace} {fs : Array Field} (ht : P.underlying t = some (.struct fs)) (h : DataW.trod enc P W base spare held fuel t cs = some x) (i : Nat) (ty : TypeId) (off N : Nat) (hc : P.cellsOf ty = N) (hf : (fs[i]?).map (fun f => (f.type, f.offset)) = some (ty, off)) :
    ∃ n y, DataW.trod enc P W base spare held n ty ((cs.drop off).take N) = some y := by
  obtain ⟨xs, n, _, _, _, hlen, hx⟩ := DataW.trod_struct ht h
  obtain ⟨f, hg, e⟩ := Option.map_eq_some_iff.1 hf
  cases e
  subst hc
  have hi : i < xs.length := by rw [hlen]; exact (Array.getElem?_eq_some_iff.1 hg).1
  exact ⟨n, xs[i], by rw [hx i f hg]; exact List.getElem?_eq_getElem hi⟩
theorem rows_of_trod {t e : TypeId} {N fuel : Nat} {v : Value} {x : DataW H × List MemPlace} {p : List Value → Prop} (ht : P.underlying t = some (.slice e)) (hN : P.cellsOf e = N) (h0 : 0 < N)
    (h : DataW.trod enc P W 0 (fun _ => true) true fuel t [v] = some x) (hp : ∀ n cs y, cs.length = N → DataW.trod enc P W 0 (fun _ => true) true n e cs = some y → p cs) : RowsOf W v N p := by
  rcases Deep.open_slice ht h with ⟨hcs, _⟩ | ⟨a, len, cap, m, n, D, Pl, hcs, _, hl, hm, hmm, _, hx⟩
  · simp at hcs
    subst hcs
    exact ⟨none, 0, 0, rfl, Nat.zero_le _, fun h => by omega⟩
  · simp at hcs
    subst hcs
    rw [if_pos rfl] at hmm
    subst hmm
    rw [hN] at hx
    refine ⟨some a, len, _, rfl, Nat.le_trans hl hm, fun hpos => ?_⟩
    obtain ⟨b, off, spot⟩ := a
    obtain ⟨cs0, h10, _⟩ := hx 0 (by omega)
    obtain ⟨_, hlen0, hc0⟩ := World.cells?_some h10
    have hc := hc0 0 (by omega)
    rw [List.getElem?_eq_getElem (by omega)] at hc
    have hspot : spot = none := by simpa [Addr.add] using World.cell?_spot hc
    subst hspot
    refine ⟨b, off, rfl, ?_, fun k hk => ?_⟩
    · rw [Deep.add_add, Addr.add_lit] at hc
      exact World.block_lt_of_cell? W _ hc
    · obtain ⟨cs, h1, h2⟩ := hx k (by omega)
      obtain ⟨_, hlen, hcell⟩ := World.cells?_some h1
      refine ⟨cs, hlen, fun j hj => ?_, hp n cs _ hlen h2⟩
      have := hcell j hj
      rw [Deep.add_add, Addr.add_lit, ← Nat.add_assoc] at this
      exact this
end
theorem c_string : Tryz.prog.cellsOf 9 = 1 := by kernel_rfl
theorem c_int : Tryz.prog.cellsOf 3 = 1 := by kernel_rfl
theorem c_bool : Tryz.prog.cellsOf 4 = 1 := by kernel_rfl
theorem c_Amount : Tryz.prog.cellsOf 53 = 2 := by kernel_rfl
theorem c_Need : Tryz.prog.cellsOf 115 = 2 := by kernel_rfl
theorem c_Cont : Tryz.prog.cellsOf 56 = 6 := by kernel_rfl
theorem c_Pod : Tryz.prog.cellsOf 59 = 3 := by kernel_rfl
theorem c_ints : Tryz.prog.cellsOf 62 = 1 := by kernel_rfl
theorem c_needs : Tryz.prog.cellsOf 54 = 1 := by kernel_rfl
theorem c_conts : Tryz.prog.cellsOf 57 = 1 := by kernel_rfl
def intP (cs : List Value) : Prop := ∃ x : Int, cs = [.int .i64 x]
def pairP (cs : List Value) : Prop := ∃ (s : ByteArray) (x : Int), cs = [.string s, .int .i64 x]
def contP (W : World) (cs : List Value) : Prop := ∃ (nm : ByteArray) (a b c d : Int) (v : Value), cs = [.string nm, .int .i64 a, .int .i64 b, .int .i64 c, .int .i64 d, v] ∧ RowsOf W v 2 pairP
def actP (W : World) (cs : List Value) : Prop := ∃ (kind s : ByteArray) (a b : Int) (m : Nat) (lv : Value) (nm : ByteArray) (pr : Int) (cv uv : Value),
  cs = [.string kind, .string s, .int .i64 a, .int .i64 b, .int .u8 m, lv, .string nm, .int .i64 pr, cv, uv] ∧ m < 256 ∧ RowsOf W lv 1 intP ∧ RowsOf W cv 6 (contP W) ∧ RowsOf W uv 2 pairP
theorem contP.below {W W' : World} {cs : List Value} (h : contP W cs) (hb : Below W.heap.size W W') : contP W' cs := by
  obtain ⟨nm, a, b, c, d, v, rfl, hv⟩ := h
  exact ⟨nm, a, b, c, d, v, rfl, hv.below hb fun _ h => h⟩
theorem actP.below {W W' : World} {cs : List Value} (h : actP W cs) (hb : Below W.heap.size W W') : actP W' cs := by
  obtain ⟨kind, s, a, b, m, lv, nm, pr, cv, uv, rfl, hm, h1, h2, h3⟩ := h
  exact ⟨kind, s, a, b, m, lv, nm, pr, cv, uv, rfl, hm, h1.below hb fun _ h => h, h2.below hb fun _ h => h.below hb, h3.below hb fun _ h => h⟩
theorem acts_below {W W' : World} {v : Value} (h : RowsOf W v 10 (actP W)) (hb : Below W.heap.size W W') : RowsOf W' v 10 (actP W') := h.below hb fun _ h => h.below hb
section
variable {H : Type} {enc : TypeId × Value → H} {W : World}
theorem int_of_trod {n : Nat} {cs : List Value} {y : DataW H × List MemPlace} (h : DataW.trod enc Tryz.prog W 0 (fun _ => true) true n 3 cs = some y) : intP cs := by
  obtain ⟨p, e, _, _⟩ := DataW.trod_int Tryz.underlying3 h
  exact ⟨p, e⟩
theorem str_of_trod {n : Nat} {cs : List Value} {y : DataW H × List MemPlace} (h : DataW.trod enc Tryz.prog W 0 (fun _ => true) true n 9 cs = some y) : ∃ s : ByteArray, cs = [.string s] := by
  obtain ⟨p, e, _⟩ := DataW.trod_string Tryz.underlying9 h
  exact ⟨p, e⟩
theorem ints_of_trod {n : Nat} {v : Value} {y : DataW H × List MemPlace} (h : DataW.trod enc Tryz.prog W 0 (fun _ => true) true n 62 [v] = some y) : RowsOf W v 1 intP :=
  rows_of_trod Tryz.underlying62 c_int (by decide) h fun _ _ _ _ h => int_of_trod h
set_option maxRecDepth 100000 in
theorem need_of_trod {n : Nat} {cs : List Value} {y : DataW H × List MemPlace} (hl : cs.length = 2) (h : DataW.trod enc Tryz.prog W 0 (fun _ => true) true n 115 cs = some y) : pairP cs := by
  obtain ⟨_, _, h0⟩ := trod_field Tryz.underlying115 h 0 9 0 _ c_string rfl
  obtain ⟨_, _, h1⟩ := trod_field Tryz.underlying115 h 1 3 1 _ c_int rfl
  match cs, hl with
  | [a, b], _ =>
    obtain ⟨s, e0⟩ := str_of_trod h0
    obtain ⟨x, e1⟩ := int_of_trod h1
    simp at e0 e1
    exact ⟨s, x, by rw [e0, e1]⟩
set_option maxRecDepth 100000 in
theorem amount_of_trod {n : Nat} {cs : List Value} {y : DataW H × List MemPlace} (hl : cs.length = 2) (h : DataW.trod enc Tryz.prog W 0 (fun _ => true) true n 53 cs = some y) : ∃ a b : Int, cs = [.int .i64 a, .int .i64 b] := by
  obtain ⟨_, _, h0⟩ := trod_field Tryz.underlying53 h 0 3 0 _ c_int rfl
  obtain ⟨_, _, h1⟩ := trod_field Tryz.underlying53 h 1 3 1 _ c_int rfl
  match cs, hl with
  | [a, b], _ =>
    obtain ⟨s, e0⟩ := int_of_trod h0
    obtain ⟨x, e1⟩ := int_of_trod h1
    simp at e0 e1
    exact ⟨s, x, by rw [e0, e1]⟩
set_option maxRecDepth 100000 in
theorem cont_of_trod {n : Nat} {cs : List Value} {y : DataW H × List MemPlace} (hl : cs.length = 6) (h : DataW.trod enc Tryz.prog W 0 (fun _ => true) true n 56 cs = some y) : contP W cs := by
  obtain ⟨_, _, h0⟩ := trod_field Tryz.underlying56 h 0 9 0 _ c_string rfl
  obtain ⟨_, _, h1⟩ := trod_field Tryz.underlying56 h 1 53 1 _ c_Amount rfl
  obtain ⟨_, _, h2⟩ := trod_field Tryz.underlying56 h 2 53 3 _ c_Amount rfl
  obtain ⟨_, _, h3⟩ := trod_field Tryz.underlying56 h 3 54 5 _ c_needs rfl
  match cs, hl with
  | [a, b, c, d, e, f], _ =>
    obtain ⟨s, e0⟩ := str_of_trod h0
    obtain ⟨x1, x2, e1⟩ := amount_of_trod rfl h1
    obtain ⟨x3, x4, e2⟩ := amount_of_trod rfl h2
    have h4 := rows_of_trod Tryz.underlying54 c_Need (by decide) h3 fun _ _ _ hl h => need_of_trod hl h
    simp at e0 e1 e2
    exact ⟨s, x1, x2, x3, x4, f, by rw [e0, e1.1, e1.2, e2.1, e2.2], h4⟩
set_option maxRecDepth 100000 in
theorem pod_of_trod {n : Nat} {cs : List Value} {y : DataW H × List MemPlace} (hl : cs.length = 3) (h : DataW.trod enc Tryz.prog W 0 (fun _ => true) true n 59 cs = some y) : ∃ (nm : ByteArray) (pr : Int) (cv : Value), cs = [.string nm, .int .i64 pr, cv] ∧ RowsOf W cv 6 (contP W) := by
  obtain ⟨_, _, h0⟩ := trod_field Tryz.underlying59 h 0 9 0 _ c_string rfl
  obtain ⟨_, _, h1⟩ := trod_field Tryz.underlying59 h 1 3 1 _ c_int rfl
  obtain ⟨_, _, h2⟩ := trod_field Tryz.underlying59 h 2 57 2 _ c_conts rfl
  match cs, hl with
  | [a, b, c], _ =>
    obtain ⟨s, e0⟩ := str_of_trod h0
    obtain ⟨x, e1⟩ := int_of_trod h1
    have h4 := rows_of_trod Tryz.underlying57 c_Cont (by decide) h2 fun _ _ _ hl h => cont_of_trod hl h
    simp at e0 e1
    exact ⟨s, x, c, by rw [e0, e1], h4⟩
def devP (cs : List Value) : Prop := ∃ d : Dv, cs = [.string d.kind, .int .i64 d.node, .bool d.sick]
end
/-- A slice of devices that is read. -/
def DevsAt (w : World) (v : Value) (g o : Nat) (ds : List Dv) : Prop :=
  ∃ ao c, v = .slice ao ds.length c ∧ (0 < ds.length → ao = some ⟨g, o, none⟩ ∧ g < w.heap.size ∧ ∀ k, k < ds.length → w.cell? ⟨g, o + k * 3, none⟩ = some (.string (dv ds k).kind) ∧ w.cell? ⟨g, o + k * 3 + 1, none⟩ = some (.int .i64 (dv ds k).node) ∧ w.cell? ⟨g, o + k * 3 + 2, none⟩ = some (.bool (dv ds k).sick))
/-- A slice of numbers that is read. -/
def NumsAt (w : World) (v : Value) (g o : Nat) (l : List Int) : Prop :=
  ∃ ao c, v = .slice ao l.length c ∧ (0 < l.length → ao = some ⟨g, o, none⟩ ∧ g < w.heap.size ∧ ∀ k, k < l.length → w.cell? ⟨g, o + k, none⟩ = some (.int .i64 (nth l k)))
theorem devs_of_rows {W : World} {v : Value} (h : RowsOf W v 3 devP) : ∃ ds g o, DevsAt W v g o ds ∧ (0 < ds.length → g < W.heap.size) := by
  obtain ⟨ao, len, c, rfl, hm, hr⟩ := h
  by_cases h0 : len = 0
  · subst h0
    exact ⟨[], 0, 0, ⟨ao, c, rfl, fun h => by simp at h⟩, fun h => by simp at h⟩
  · obtain ⟨b, o, rfl, hlt, hc⟩ := hr (by omega)
    obtain ⟨f, hf⟩ := Deep.choose_lt (α := Dv) (n := len) (p := fun k d => W.cell? ⟨b, o + k * 3, none⟩ = some (.string d.kind) ∧ W.cell? ⟨b, o + k * 3 + 1, none⟩ = some (.int .i64 d.node) ∧ W.cell? ⟨b, o + k * 3 + 2, none⟩ = some (.bool d.sick)) (fun k hk => by
      obtain ⟨cs, _, hcs, d, rfl⟩ := hc k hk
      exact ⟨d, hcs 0 (by decide), hcs 1 (by decide), hcs 2 (by decide)⟩)
    refine ⟨(List.range len).map f, b, o, ⟨_, c, by simp, fun _ => ⟨rfl, hlt, fun k hk => ?_⟩⟩, fun _ => hlt⟩
    have hk' : k < len := by simpa using hk
    have e : dv ((List.range len).map f) k = f k := by simp [dv, hk']
    rw [e]
    exact hf k hk'
theorem nums_of_rows {W : World} {v : Value} (h : RowsOf W v 1 intP) : ∃ l g o, NumsAt W v g o l ∧ (0 < l.length → g < W.heap.size) := by
  obtain ⟨ao, len, c, rfl, hm, hr⟩ := h
  by_cases h0 : len = 0
  · subst h0
    exact ⟨[], 0, 0, ⟨ao, c, rfl, fun h => by simp at h⟩, fun h => by simp at h⟩
  · obtain ⟨b, o, rfl, hlt, hc⟩ := hr (by omega)
    obtain ⟨f, hf⟩ := Deep.choose_lt (α := Int) (n := len) (p := fun k d => W.cell? ⟨b, o + k, none⟩ = some (.int .i64 d)) (fun k hk => by
      obtain ⟨cs, _, hcs, d, rfl⟩ := hc k hk
      have := hcs 0 (by decide)
      rw [Nat.mul_one] at this
      exact ⟨d, this⟩)
    refine ⟨(List.range len).map f, b, o, ⟨_, c, by simp, fun _ => ⟨rfl, hlt, fun k hk => ?_⟩⟩, fun _ => hlt⟩
    have hk' : k < len := by simpa using hk
    have e : nth ((List.range len).map f) k = f k := by simp [nth, hk']
    rw [e]
    exact hf k hk'
end Go.Proofs.YtlljniaobbbjgaaGreatDoor
namespace Go.Proofs.YtlljniaobbbjgaaGreatDoor
namespace Ost
theorem spansTo_half (A k : Nat) : 2 * (spansTo A k).length ≤ k + 1 ∧ (A.testBit k = true → 2 * (spansTo A k).length ≤ k) := by
  induction k with
  | zero => simp [spansTo]
  | succ k ih =>
    unfold spansTo
    by_cases h : A.testBit k = true
    · by_cases h1 : A.testBit (k + 1) = true
      · simp [h, h1]; omega
      · have h1' : A.testBit (k + 1) = false := by simpa using h1
        simp [h, h1']
        have := ih.2 h
        omega
    · have h' : A.testBit k = false := by simpa using h
      simp [h']; omega
theorem dd_two (n : Nat) (h : n < 100) : (Lib.decDigits n).length ≤ 2 := decN_len 1 n (by omega)
theorem spanTxt_len (f l : Nat) (hf : f < 64) (hl : l < 64) : (spanTxt (f, l)).length ≤ 5 := by
  have h1 := dd_two f (by omega)
  have h2 := dd_two l (by omega)
  unfold spanTxt
  split
  · exact Nat.le_trans h1 (by omega)
  · simp; omega
theorem runStart_le' (A k : Nat) : runStart A k ≤ k := by
  induction k with
  | zero => exact Nat.le_refl _
  | succ k ih => unfold runStart; split <;> omega
theorem spansTo_mem (A k : Nat) (p : Nat × Nat) (h : p ∈ spansTo A k) : p.1 ≤ p.2 ∧ p.2 < k := by
  induction k with
  | zero => simp [spansTo] at h
  | succ k ih =>
    unfold spansTo at h
    split at h
    · rcases List.mem_append.1 h with h | h
      · have := ih h; omega
      · simp at h; subst h; exact ⟨runStart_le' A k, by omega⟩
    · have := ih h; omega
theorem joined_len (l : List (Nat × Nat)) (h : ∀ p ∈ l, p.1 ≤ p.2 ∧ p.2 < 64) : (joined l).length ≤ 6 * l.length := by
  have key : ∀ r : List (Nat × Nat), (∀ p ∈ r.reverse, p.1 ≤ p.2 ∧ p.2 < 64) → (joined r.reverse).length ≤ 6 * r.reverse.length := by
    intro r
    induction r with
    | nil => intro _; simp [joined, Lib.join, List.intercalate]
    | cons p r ih =>
      intro hr
      rw [List.reverse_cons] at hr ⊢
      have h1 := ih (fun q hq => hr q (List.mem_append.2 (.inl hq)))
      have h2 := hr p (List.mem_append.2 (.inr (by simp)))
      have h3 : (spanTxt p).length ≤ 5 := spanTxt_len p.1 p.2 (by omega) (by omega)
      rw [joined_snoc, List.length_append]
      split
      · simp only [List.length_cons, List.length_nil]; omega
      · rw [List.length_append, List.length_append]; simp only [List.length_cons, List.length_nil]; omega
  have := key l.reverse (by simpa using h)
  simpa using this
def txt (A : Nat) : List UInt8 := joined (spansTo A 64)
theorem txt_len (A : Nat) : (txt A).length ≤ 300 := by
  have h1 := joined_len (spansTo A 64) (fun p hp => spansTo_mem A 64 p hp)
  have h2 := (spansTo_half A 64).1
  unfold txt; omega
/-- A text's parts between a byte. -/
def splitC (c : UInt8) : List UInt8 → List (List UInt8)
  | [] => [[]]
  | b :: r => if b = c then [] :: splitC c r else
    match splitC c r with
    | [] => [[b]]
    | x :: xs => (b :: x) :: xs
theorem splitC_ne (c : UInt8) (l : List UInt8) : splitC c l ≠ [] := by
  cases l with
  | nil => simp [splitC]
  | cons b r =>
    unfold splitC
    split
    · simp
    · split <;> simp
theorem splitC_none (c : UInt8) (l : List UInt8) (h : c ∉ l) : splitC c l = [l] := by
  induction l with
  | nil => rfl
  | cons b r ih =>
    simp at h
    rw [splitC, if_neg (fun e => h.1 e.symm), ih h.2]
theorem splitC_cut (c : UInt8) (l r : List UInt8) (h : c ∉ l) : splitC c (l ++ c :: r) = l :: splitC c r := by
  induction l with
  | nil => simp [splitC]
  | cons b l ih =>
    simp at h
    rw [List.cons_append, splitC, if_neg (fun e => h.1 e.symm), ih h.2]
theorem splitC_join (c : UInt8) (xs : List (List UInt8)) (h : ∀ x ∈ xs, c ∉ x) (hne : xs ≠ []) : splitC c (Lib.join xs [c]) = xs := by
  induction xs with
  | nil => exact absurd rfl hne
  | cons a r ih =>
    cases r with
    | nil => simp [Lib.join, List.intercalate]; exact splitC_none c a (h a (by simp))
    | cons b t =>
      have e : Lib.join (a :: b :: t) [c] = a ++ c :: Lib.join (b :: t) [c] := by simp [Lib.join, List.intercalate, List.intersperse]
      rw [e, splitC_cut c _ _ (h a (by simp)), ih (fun x hx => h x (by simp at hx ⊢; exact .inr hx)) (by simp)]
/-- Two numbers of a span. -/
def spanOf (t : List UInt8) : Option (Int × Int) :=
  if (cut1 45 t).2.2 then
    (if (good 19 (cut1 45 t).1 && good 19 (cut1 45 t).2.1 && decide (val (cut1 45 t).1 ≤ val (cut1 45 t).2.1)) then some (val (cut1 45 t).1, val (cut1 45 t).2.1) else none)
  else if good 19 (cut1 45 t).1 then some (val (cut1 45 t).1, val (cut1 45 t).1) else none
/-- The numbers from f on, so many. -/
def rb (f : Nat) : Nat → Nat
  | 0 => 0
  | m + 1 => rb f m ||| 2 ^ (f + m)
/-- What spans are, one after another, and an error's number. -/
def pieces (acc : Nat) : List (List UInt8) → Nat × Int
  | [] => (acc, 0)
  | t :: r => match spanOf t with
    | none => (0, 4)
    | some (f, l) => if 63 < l then (0, 1) else pieces (acc ||| rb f.toNat (l - f + 1).toNat) r
def parseOut (l : List UInt8) : Nat × Int := if 300 < l.length then (0, 2) else if l = [] then (0, 0) else pieces 0 (splitC 44 l)
theorem dig_not (n : Nat) (c : UInt8) (hc : isDig c = false) : c ∉ Lib.decDigits n := by
  intro hm
  have := List.all_eq_true.1 (decN_all n).1 c hm
  rw [hc] at this; cases this
theorem good19 (n : Nat) (h : n < 64) : good 19 (Lib.decDigits n) = true := by
  have h1 := decN_good n 1 (by omega) (by omega)
  obtain ⟨a, b, c⟩ := (good_iff _ _).1 h1
  exact (good_iff _ _).2 ⟨a, Int.le_trans b (by omega), c⟩
theorem cut1_at (c : UInt8) (l r : List UInt8) (h : c ∉ l) : cut1 c (l ++ c :: r) = (l, r, true) := by
  induction l with
  | nil => simp [cut1]
  | cons b l ih =>
    simp at h
    rw [List.cons_append, cut1, if_neg (fun e => h.1 e.symm), ih h.2]
theorem cut1_not (c : UInt8) (l : List UInt8) (h : c ∉ l) : cut1 c l = (l, [], false) := by
  induction l with
  | nil => rfl
  | cons b l ih =>
    simp at h
    rw [cut1, if_neg (fun e => h.1 e.symm), ih h.2]
theorem spanOf_txt (f l : Nat) (h : f ≤ l) (hl : l < 64) : spanOf (spanTxt (f, l)) = some ((f : Int), (l : Int)) := by
  have v1 : val (Lib.decDigits f) = f := (decN_all f).2
  have v2 : val (Lib.decDigits l) = l := (decN_all l).2
  unfold spanTxt
  by_cases e : f = l
  · subst e
    rw [if_pos rfl]
    unfold spanOf
    rw [cut1_not 45 _ (dig_not f 45 (by decide)), good19 f hl, v1]; simp
  · rw [if_neg e]
    unfold spanOf
    rw [List.append_assoc, List.singleton_append, cut1_at 45 _ _ (dig_not f 45 (by decide)), good19 f (by omega), good19 l hl, v1, v2]
    have : (f : Int) ≤ l := by omega
    simp [this]
theorem rb_bit (f m i : Nat) : (rb f m).testBit i = decide (f ≤ i ∧ i < f + m) := by
  induction m with
  | zero => simp [rb]
  | succ m ih =>
    rw [rb, Nat.testBit_or, ih, Nat.testBit_two_pow]
    rw [Bool.eq_iff_iff]
    simp
    omega
def orSpans (acc : Nat) (l : List (Nat × Nat)) : Nat := l.foldl (fun s p => s ||| rb p.1 (p.2 - p.1 + 1)) acc
theorem pieces_spans (l : List (Nat × Nat)) (h : ∀ p ∈ l, p.1 ≤ p.2 ∧ p.2 < 64) (acc : Nat) : pieces acc (l.map spanTxt) = (orSpans acc l, 0) := by
  induction l generalizing acc with
  | nil => rfl
  | cons p r ih =>
    have hp := h p (by simp)
    rw [List.map_cons, pieces, show spanTxt p = spanTxt (p.1, p.2) from rfl, spanOf_txt p.1 p.2 hp.1 hp.2]
    simp only
    rw [if_neg (by omega), ih (fun q hq => h q (by simp [hq]))]
    rw [show ((p.1 : Nat) : Int).toNat = p.1 by omega, show (((p.2 : Nat) : Int) - (p.1 : Nat) + 1).toNat = p.2 - p.1 + 1 by omega]
    rfl
theorem run_bits (A k i : Nat) (hk : A.testBit k = true) (h1 : runStart A k ≤ i) (h2 : i ≤ k) : A.testBit i = true := by
  induction k with
  | zero => obtain rfl : i = 0 := by omega
            exact hk
  | succ k ih =>
    by_cases e : i = k + 1
    · subst e; exact hk
    · unfold runStart at h1
      by_cases hb : A.testBit k = true
      · rw [if_pos hb] at h1; exact ih hb h1 (by omega)
      · rw [if_neg hb] at h1; omega
theorem orSpans_bit (A k i : Nat) : (orSpans 0 (spansTo A k)).testBit i = (A.testBit i && decide (i < if A.testBit k then runStart A k else k)) := by
  induction k with
  | zero =>
    have e : (if A.testBit 0 then runStart A 0 else 0) = 0 := by split <;> rfl
    rw [e]
    simp [spansTo, orSpans]
  | succ k ih =>
    by_cases hb : A.testBit k = true
    · rw [if_pos hb] at ih
      by_cases hq : A.testBit (k + 1) = true
      · rw [if_pos hq, show spansTo A (k + 1) = spansTo A k by simp [spansTo, hq], ih, runStart, if_pos hb]
      · have hq' : A.testBit (k + 1) = false := by simpa using hq
        rw [if_neg hq, show spansTo A (k + 1) = spansTo A k ++ [(runStart A k, k)] by simp [spansTo, hb, hq']]
        have e : orSpans 0 (spansTo A k ++ [(runStart A k, k)]) = orSpans 0 (spansTo A k) ||| rb (runStart A k) (k - runStart A k + 1) := by simp [orSpans]
        rw [e, Nat.testBit_or, ih, rb_bit]
        have hr := runStart_le' A k
        by_cases h1 : i < runStart A k
        · rw [decide_eq_true h1, decide_eq_false (by omega), decide_eq_true (show i < k + 1 by omega)]; simp
        · by_cases h2 : i ≤ k
          · rw [run_bits A k i hb (by omega) h2, decide_eq_true (show runStart A k ≤ i ∧ i < runStart A k + (k - runStart A k + 1) by omega), decide_eq_true (show i < k + 1 by omega)]; simp
          · rw [decide_eq_false h1, decide_eq_false (show ¬ (runStart A k ≤ i ∧ i < runStart A k + (k - runStart A k + 1)) by omega), decide_eq_false (show ¬ i < k + 1 by omega)]; simp
    · have hb' : A.testBit k = false := by simpa using hb
      rw [if_neg hb] at ih
      rw [show spansTo A (k + 1) = spansTo A k by simp [spansTo, hb'], ih]
      have e : (if A.testBit (k + 1) then runStart A (k + 1) else k + 1) = k + 1 := by
        split
        · rw [runStart, if_neg hb]
        · rfl
      rw [e]
      by_cases h1 : i = k
      · subst h1; rw [hb']; simp
      · have : decide (i < k) = decide (i < k + 1) := by
          by_cases h2 : i < k
          · rw [decide_eq_true h2, decide_eq_true (by omega)]
          · rw [decide_eq_false h2, decide_eq_false (by omega)]
        rw [this]
theorem bit_high (A : Nat) (hA : A < 18446744073709551616) (i : Nat) (h : 64 ≤ i) : A.testBit i = false :=
  Nat.testBit_lt_two_pow (Nat.lt_of_lt_of_le hA (Nat.pow_le_pow_right (n := 2) (by omega) h))
theorem orSpans_all (A : Nat) (hA : A < 18446744073709551616) : orSpans 0 (spansTo A 64) = A := by
  apply Nat.eq_of_testBit_eq
  intro i
  rw [orSpans_bit, bit_high A hA 64 (Nat.le_refl _)]
  by_cases h : i < 64
  · rw [decide_eq_true (by simpa using h), Bool.and_true]
  · rw [bit_high A hA i (by omega)]; rfl
/-- A SET'S TEXT IS READ AS IT. -/
theorem parse_txt (A : Nat) (hA : A < 18446744073709551616) : parseOut (txt A) = (A, 0) := by
  unfold parseOut
  have hl := txt_len A
  rw [if_neg (by omega)]
  by_cases he : spansTo A 64 = []
  · have h0 : txt A = [] := by unfold txt; rw [he]; rfl
    rw [if_pos h0]
    have := orSpans_all A hA
    rw [he] at this
    rw [← this]; rfl
  · have hne : txt A ≠ [] := fun e => he ((joined_nil _).1 e)
    rw [if_neg hne]
    have hs : splitC 44 (txt A) = (spansTo A 64).map spanTxt := by
      refine splitC_join 44 _ ?_ (by simpa using he)
      intro x hx
      obtain ⟨p, _, rfl⟩ := List.mem_map.1 hx
      unfold spanTxt
      have d := fun n => dig_not n 44 (by decide)
      split
      · exact d _
      · simp; exact ⟨d _, d _⟩
    rw [hs, pieces_spans _ (fun p hp => spansTo_mem A 64 p hp), orSpans_all A hA]
theorem txt_inj (A B : Nat) (hA : A < 18446744073709551616) (hB : B < 18446744073709551616) : txt A = txt B ↔ A = B := by
  constructor
  · intro h
    have h1 := parse_txt A hA
    rw [h, parse_txt B hB] at h1
    exact (Prod.mk.inj h1).1.symm
  · rintro rfl; rfl
/-- How many. -/
theorem count_andor (A B k : Nat) : (listTo A k).length + (listTo B k).length = (listTo (A &&& B) k).length + (listTo (A ||| B) k).length := by
  induction k with
  | zero => rfl
  | succ k ih =>
    rw [listTo_succ, listTo_succ, listTo_succ, listTo_succ, Nat.testBit_and, Nat.testBit_or]
    cases A.testBit k <;> cases B.testBit k <;> simp <;> omega
end Ost
end Go.Proofs.YtlljniaobbbjgaaGreatDoor
namespace Go.Proofs.YtlljniaobbbjgaaGreatDoor.S1
open Go.RowKit
theorem two' (b : Bool) : b = true ∨ b = false := by cases b <;> simp
theorem hideIt' {p : Prop} (h : p) : Hid p := h
theorem ownsRow_len {w : World} {base : Nat} {e : TypeId} {v : Value} {n : Nat} {xs : List Value} (h : w.ownsRow base e 1 v n xs) : ∃ ao c, v = .slice ao n c := by
  rcases h.2 with ⟨rfl, rfl⟩ | ⟨g, cap, cur, rfl, _⟩
  · exact ⟨none, 0, rfl⟩
  · exact ⟨_, _, rfl⟩
theorem andNot_zero (A B : Nat) (hA : A < 18446744073709551616) (hB : B < 18446744073709551616) : (bits BinOp.andNot IntKind.u64 (A : Int) (B : Int) == 0) = decide (A &&& B = A) := by
  rw [u64_andNot_nat A B hA hB, Bool.eq_iff_iff, beq_iff_eq, decide_eq_true_eq]
  have key : ∀ i, (A &&& (18446744073709551615 - B)).testBit i = (A.testBit i && !B.testBit i) := by
    intro i
    rw [Nat.testBit_and]
    by_cases hi : i < 64
    · have e : (18446744073709551615 - B).testBit i = !B.testBit i := by
        have := Nat.testBit_two_pow_sub_succ (n := 64) hB i
        rw [show 2 ^ 64 - (B + 1) = 18446744073709551615 - B by omega] at this
        rw [this, decide_eq_true hi]; simp
      rw [e]
    · have : A.testBit i = false := Nat.testBit_lt_two_pow (Nat.lt_of_lt_of_le hA (Nat.pow_le_pow_right (n := 2) (by omega) (show 64 ≤ i by omega)))
      rw [this]; simp
  constructor
  · intro h
    have h0 : A &&& (18446744073709551615 - B) = 0 := by omega
    apply Nat.eq_of_testBit_eq
    intro i
    have hk := key i
    rw [h0, Nat.zero_testBit] at hk
    rw [Nat.testBit_and]
    revert hk
    cases A.testBit i <;> cases B.testBit i <;> decide
  · intro h
    have h0 : A &&& (18446744073709551615 - B) = 0 := by
      apply Nat.eq_of_testBit_eq
      intro i
      rw [key i, Nat.zero_testBit]
      have := congrArg (·.testBit i) h
      simp only [Nat.testBit_and] at this
      revert this
      cases A.testBit i <;> cases B.testBit i <;> decide
    rw [h0]; rfl
theorem or_step (s n : Nat) (hs : s < 18446744073709551616) (hn : n < 64) : bits BinOp.or IntKind.u64 (s : Int) (IntKind.u64.wrap (2 ^ n)) = ((s ||| 2 ^ n : Nat) : Int) := by
  have hp : 2 ^ n < 18446744073709551616 := Nat.pow_lt_pow_right (a := 2) (by omega) hn
  rw [show (2 ^ n : Int) = ((2 ^ n : Nat) : Int) by simp]
  generalize 2 ^ n = q at hp ⊢
  rw [IntKind.wrap_u64, show (q : Int) % 18446744073709551616 = (q : Int) by omega]
  exact bits_or_u64_nat s q hs hp
/-- A slice of numbers that is read. -/
def IntsAt (w : World) (v : Value) (xs : List Int) : Prop :=
  (xs = [] ∧ ∃ ao c, v = .slice ao 0 c) ∨ ∃ b o c, v = .slice (some ⟨b, o, none⟩) xs.length c ∧ ∀ k, k < xs.length → w.cell? ⟨b, o + k, none⟩ = some (.int .i64 (xs.getD k 0))
theorem IntsAt.below {w w' : World} {v : Value} {xs : List Int} (h : IntsAt w v xs) (hb : Below w.heap.size w w') : IntsAt w' v xs := by
  rcases h with h | ⟨b, o, c, hv, hc⟩
  · exact .inl h
  · exact .inr ⟨b, o, c, hv, fun k hk => (hb.cell (p := ⟨b, o + k, none⟩) (World.block_lt_of_cell? w _ (hc k hk))).trans (hc k hk)⟩
def orBits (l : List Int) : Nat := l.foldl (fun s z => s ||| 2 ^ z.toNat) 0
def inSet (z : Int) : Bool := decide (0 ≤ z ∧ z < 64)
theorem orBits_snoc (l : List Int) (z : Int) : orBits (l ++ [z]) = orBits l ||| 2 ^ z.toNat := by simp [orBits]
theorem or_lt (a b : Nat) (ha : a < 18446744073709551616) (hb : b < 18446744073709551616) : a ||| b < 18446744073709551616 := Nat.or_lt_two_pow (n := 64) ha hb
theorem pow_lt64 (n : Nat) (h : n < 64) : 2 ^ n < 18446744073709551616 := Nat.pow_lt_pow_right (a := 2) (by omega) h
theorem orBits_lt (l : List Int) (h : l.all inSet = true) : orBits l < 18446744073709551616 := by
  have key : ∀ r : List Int, r.reverse.all inSet = true → orBits r.reverse < 18446744073709551616 := by
    intro r
    induction r with
    | nil => intro _; simp [orBits]
    | cons z r ih =>
      intro hr
      rw [List.reverse_cons] at hr ⊢
      rw [List.all_append, Bool.and_eq_true] at hr
      rw [orBits_snoc]
      have hz : inSet z = true := by simpa using hr.2
      simp only [inSet, decide_eq_true_eq] at hz
      exact or_lt _ _ (ih hr.1) (pow_lt64 _ (by omega))
  have := key l.reverse (by simpa using h)
  simpa using this
def setErr (p : Nat × Int) : Value := .tuple #[.int .u64 (p.1 : Nat), errV p.2]
def setNum (p : Nat × Int) : Value := .tuple #[.int .u64 (p.1 : Nat), .int .i64 p.2]
def ofOut (l : List Int) : Nat × Int := if l.all inSet then (orBits l, 0) else (0, 1)
end Go.Proofs.YtlljniaobbbjgaaGreatDoor.S1
