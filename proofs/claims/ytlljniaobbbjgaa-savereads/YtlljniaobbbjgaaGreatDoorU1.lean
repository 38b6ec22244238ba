/- Math, Math2, Shelf, SMath, VMath, DMath, Math3, SetW, SPop, Num, TBase, QMath -/
import Derived.WalkKit
import Derived.Lib.Strings
import Derived.Lib.Index
import Derived.Lib.Small
import Derived.Lib.CutLaws
import Derived.Lib.ItoaNum
import Derived.Shelf.Strings.Builder1
import Derived.Shelf.Strings.Builder2
import Derived.Shelf.Strings.OnBuilder
import Derived.Shelf.Small.Strs
import Derived.Shelf.Strings.BuilderF
import Derived.Shelf.Strings.BuilderK
import Derived.Shelf.Utf8.RuneCount
import Derived.Shelf.Strconv.Itoa0
import Derived.Shelf.Strconv.Itoa1
import Derived.Shelf.LaysM
import Derived.Shelf.Strconv.Itoa2
import Derived.Shelf.Strconv.Itoa3
import Derived.Shelf.Strings.Search1
import Derived.Shelf.Strings.Search2
import Derived.Shelf.Strings.Search3
import Derived.Shelf.Strings.Cut
import Derived.Shelf.Strings.Count
import Derived.Shelf.Strings.Shaped
import Derived.Shelf.Strings.LastIndex
import Derived.Shelf.Strings.LastIndexAll
import Derived.Shelf.Strings.Prefix
import Derived.Shelf.Strings.Split
import Derived.Shelf.Strings.SplitShaped
import Derived.Shelf.Unicode.Decode
import Derived.Shelf.Strings.RuneCount
import Derived.Test.YtlljniaobbbjgaaGreatDoorProg
import Derived.Lib.Join
import Derived.Laws.Bits64b
import Derived.Test.YtlljniaobbbjgaaGreatDoorRows
import Derived.WalkSpells
import Derived.WalkLawsBesides
import Derived.Deep.QuietTactic
import Derived.BigQuiet
namespace Go.Proofs.YtlljniaobbbjgaaGreatDoor
namespace Ost

def isDig (b : UInt8) : Bool := decide (48 ≤ b.toNat ∧ b.toNat ≤ 57)
def step (n : Int) (b : UInt8) : Int := n * 10 + ((b.toNat : Int) - 48)
def val (l : List UInt8) : Int := l.foldl step 0
def allDig (l : List UInt8) : Bool := l.all isDig
def maxI : Int := 9223372036854775807
/-- A number as it is written: digits, no noughts ahead. -/
def isNum (l : List UInt8) : Bool := !l.isEmpty && !(decide (1 < l.length) && (l.headD 0 == 48)) && allDig l
/-- What number.Read takes. -/
def good (m : Int) (l : List UInt8) : Bool := isNum l && decide ((l.length : Int) ≤ m) && decide (val l ≤ maxI)

theorem isDig_iff (b : UInt8) : isDig b = true ↔ 48 ≤ b.toNat ∧ b.toNat ≤ 57 := by simp [isDig]
theorem isDig_not (b : UInt8) : isDig b = false ↔ ¬ (48 ≤ b.toNat ∧ b.toNat ≤ 57) := by simp [isDig]
theorem val_snoc (l : List UInt8) (b : UInt8) : val (l ++ [b]) = step (val l) b := by simp [val]
theorem allDig_snoc (l : List UInt8) (b : UInt8) : allDig (l ++ [b]) = (allDig l && isDig b) := by simp [allDig]
theorem foldl_step_mono (l : List UInt8) (h : allDig l = true) : ∀ n : Int, 0 ≤ n → n ≤ l.foldl step n := by
  induction l with
  | nil => intro n _; simp
  | cons b r ih =>
    intro n hn
    simp only [allDig, List.all_cons, Bool.and_eq_true] at h
    have hb := (isDig_iff b).1 h.1
    have h1 : n ≤ step n b := by unfold step; omega
    exact Int.le_trans h1 (ih h.2 _ (by omega))
theorem val_nonneg (l : List UInt8) (h : allDig l = true) : 0 ≤ val l := foldl_step_mono l h 0 (Int.le_refl _)
theorem val_append (l r : List UInt8) : val (l ++ r) = r.foldl step (val l) := by simp [val]
theorem val_le_append (l r : List UInt8) (hl : allDig l = true) (h : allDig r = true) : val l ≤ val (l ++ r) := by
  rw [val_append]; exact foldl_step_mono r h _ (val_nonneg l hl)
theorem take_snoc (s : ByteArray) (k : Nat) (h : k < s.size) : s.data.toList.take (k + 1) = s.data.toList.take k ++ [s[k]] := by
  rw [List.take_succ_eq_append_getElem (by simpa using h)]; rfl
theorem allDig_take (l : List UInt8) (k : Nat) (h : allDig l = true) : allDig (l.take k) = true := by
  simp only [allDig, List.all_eq_true] at h ⊢
  exact fun x hx => h x (List.mem_of_mem_take hx)
theorem val_take_le (l : List UInt8) (k : Nat) (h : allDig l = true) : val (l.take k) ≤ val l := by
  have e := List.take_append_drop k l
  have hd : allDig (l.drop k) = true := by
    simp only [allDig, List.all_eq_true] at h ⊢
    exact fun x hx => h x (List.mem_of_mem_drop hx)
  have := val_le_append (l.take k) (l.drop k) (allDig_take l k h) hd
  rw [e] at this; exact this
theorem good_iff (m : Int) (l : List UInt8) : good m l = true ↔ (l ≠ [] ∧ ¬ (1 < l.length ∧ l.headD 0 = 48) ∧ allDig l = true) ∧ (l.length : Int) ≤ m ∧ val l ≤ maxI := by
  simp only [good, isNum, Bool.and_eq_true, Bool.not_eq_true', decide_eq_true_eq, List.isEmpty_eq_false_iff, Bool.and_eq_false_iff, decide_eq_false_iff_not, beq_eq_false_iff_ne]
  constructor
  · rintro ⟨⟨⟨⟨h1, h2⟩, h3⟩, h4⟩, h5⟩
    exact ⟨⟨h1, fun ⟨a, b⟩ => by rcases h2 with h | h; exact h a; exact h b, h3⟩, h4, h5⟩
  · rintro ⟨⟨h1, h2, h3⟩, h4, h5⟩
    refine ⟨⟨⟨⟨h1, ?_⟩, h3⟩, h4⟩, h5⟩
    by_cases ha : 1 < l.length
    · exact .inr fun hb => h2 ⟨ha, hb⟩
    · exact .inl ha
theorem isNum_iff (l : List UInt8) : isNum l = true ↔ (l ≠ [] ∧ ¬ (1 < l.length ∧ l.headD 0 = 48) ∧ allDig l = true) := by
  simp only [isNum, Bool.and_eq_true, Bool.not_eq_true', List.isEmpty_eq_false_iff, Bool.and_eq_false_iff, decide_eq_false_iff_not, beq_eq_false_iff_ne]
  constructor
  · rintro ⟨⟨h1, h2⟩, h3⟩
    exact ⟨h1, fun ⟨a, b⟩ => by rcases h2 with h | h; exact h a; exact h b, h3⟩
  · rintro ⟨h1, h2, h3⟩
    refine ⟨⟨h1, ?_⟩, h3⟩
    by_cases ha : 1 < l.length
    · exact .inr fun hb => h2 ⟨ha, hb⟩
    · exact .inl ha
theorem not_good_iff (m : Int) (l : List UInt8) : good m l = false ↔ ¬ ((l ≠ [] ∧ ¬ (1 < l.length ∧ l.headD 0 = 48) ∧ allDig l = true) ∧ (l.length : Int) ≤ m ∧ val l ≤ maxI) := by
  rw [← good_iff, Bool.not_eq_true]
theorem head_s (s : ByteArray) (h : 0 < s.size) : s.data.toList.headD 0 = s[0] := by
  rcases s with ⟨⟨l⟩⟩
  cases l with
  | nil => exact absurd h (by simp [ByteArray.size])
  | cons a r => rfl
theorem u8_eq (b : UInt8) (n : Nat) (hn : n < 256) : b = UInt8.ofNat n ↔ b.toNat = n := by
  constructor
  · rintro rfl; simp; omega
  · intro h; rw [← h]; simp
theorem allDig_get (l : List UInt8) (k : Nat) (h : k < l.length) (hd : isDig l[k] = false) : allDig l = false := by
  cases hh : allDig l with
  | false => rfl
  | true =>
    have := List.all_eq_true.1 hh _ (List.getElem_mem h)
    rw [this] at hd; cases hd
theorem not_good_dig (m : Int) (s : ByteArray) (k : Nat) (h : k < s.size) (hd : isDig s[k] = false) : good m s.data.toList = false := by
  rw [not_good_iff]
  rintro ⟨⟨_, _, h3⟩, _⟩
  rw [allDig_get s.data.toList k (by simpa using h) hd] at h3
  cases h3
theorem not_good_val (m : Int) (s : ByteArray) (k : Nat) (h : maxI < val (s.data.toList.take k)) : good m s.data.toList = false := by
  rw [not_good_iff]
  rintro ⟨⟨_, _, h3⟩, _, h5⟩
  have := val_take_le s.data.toList k h3
  omega
theorem toList_isEmpty (s : ByteArray) : s.toList.isEmpty = decide (s.size = 0) := by
  rw [ByteArray.toList_eq]
  rcases s with ⟨⟨l⟩⟩
  cases l <;> simp [ByteArray.size]
end Ost
end Go.Proofs.YtlljniaobbbjgaaGreatDoor

namespace Go.Proofs.YtlljniaobbbjgaaGreatDoor
namespace Ost

/-- Around the first of a byte. -/
def cut1 (c : UInt8) : List UInt8 → List UInt8 × List UInt8 × Bool
  | [] => ([], [], false)
  | b :: l => if b = c then ([], l, true) else (b :: (cut1 c l).1, (cut1 c l).2.1, (cut1 c l).2.2)
theorem cut1_index (c : UInt8) (l : List UInt8) :
    (Lib.index l [c] = -1 ∧ cut1 c l = (l, [], false)) ∨ ∃ i : Nat, Lib.index l [c] = i ∧ cut1 c l = (l.take i, l.drop (i + 1), true) := by
  induction l with
  | nil => exact .inl ⟨rfl, rfl⟩
  | cons b r ih =>
    by_cases h : b = c
    · subst h
      exact .inr ⟨0, by simp [Lib.index], by simp [cut1]⟩
    · have hp : ([c] : List UInt8).isPrefixOf (b :: r) = false := by simp [List.isPrefixOf]; exact fun e => h e.symm
      rcases ih with ⟨h1, h2⟩ | ⟨i, h1, h2⟩
      · exact .inl ⟨by rw [Lib.index, hp]; simp [h1], by rw [cut1, if_neg h, h2]⟩
      · refine .inr ⟨i + 1, ?_, by rw [cut1, if_neg h, h2]; simp⟩
        rw [Lib.index, hp, h1]
        have : ((i : Int) == -1) = false := by simp
        simp [this]
theorem cut_one (c : UInt8) (l : List UInt8) : Lib.cut l [c] = cut1 c l := by
  unfold Lib.cut
  rcases cut1_index c l with ⟨h1, h2⟩ | ⟨i, h1, h2⟩
  · rw [h1, h2]; simp
  · rw [h1, h2]; simp

/-- What is read, and an error's number (0: none). -/
def bound : Option Int → Int × Int
  | none => (0, 4)
  | some v => if 1000000 < v then (0, 1) else (v, 0)
theorem val_lt_pow (l : List UInt8) (h : allDig l = true) : val l < 10 ^ l.length := by
  have key : ∀ n : Int, l.foldl step n < (n + 1) * 10 ^ l.length := by
    induction l with
    | nil => intro n; simp; omega
    | cons b r ih =>
      intro n
      simp only [allDig, List.all_cons, Bool.and_eq_true] at h
      have hb := (isDig_iff b).1 h.1
      have := ih h.2 (step n b)
      simp only [List.foldl_cons, List.length_cons]
      have h2 : (step n b + 1) * 10 ^ r.length ≤ ((n + 1) * 10) * 10 ^ r.length := by
        apply Int.mul_le_mul_of_nonneg_right
        · unfold step; omega
        · exact Int.pow_nonneg (by omega)
      have h3 : ((n + 1) * 10) * 10 ^ r.length = (n + 1) * 10 ^ (r.length + 1) := by rw [Int.pow_succ, Int.mul_assoc, Int.mul_comm 10]
      omega
  have := key 0
  simpa [val] using this
end Ost
end Go.Proofs.YtlljniaobbbjgaaGreatDoor

namespace Go.Proofs
open Go.Shelf
def Tryz.lays169_ren : Go.Shelf.Ren := ⟨fun | 169 => 31 | n => n, fun | 70 => 70 | 9 => 9 | 0 => 0 | 72 => 73 | 37 => 71 | 127 => 121 | 3 => 3 | 5 => 5 | n => n, fun | n => n⟩
theorem Tryz.lays169 : Go.Proofs.Lays.n169 Tryz.prog Tryz.lays169_ren := {
  mixed := by kernel_rfl
  f169 := Tryz.func31.trans (congrArg some (by kernel_rfl))
  t0 := Tryz.underlying0
  a0 := Tryz.isAgg0
  z0 := Tryz.sizeOf0
  v0 := Tryz.zeroValue0
  t3 := Tryz.underlying3
  a3 := Tryz.isAgg3
  z3 := Tryz.sizeOf3
  v3 := Tryz.zeroValue3
  t9 := Tryz.underlying9
  a9 := Tryz.isAgg9
  z9 := Tryz.sizeOf9
  v9 := Tryz.zeroValue9
  t37 := Tryz.underlying71
  a37 := Tryz.isAgg71
  z37 := Tryz.sizeOf71
  v37 := Tryz.zeroValue71
  t70 := Tryz.underlying70
  a70 := Tryz.isAgg70
  z70 := Tryz.sizeOf70
  v70 := Tryz.zeroValue70
  t72 := Tryz.underlying73
  a72 := Tryz.isAgg73
  z72 := Tryz.sizeOf73
  v72 := Tryz.zeroValue73
  t127 := Tryz.underlying121
  a127 := Tryz.isAgg121
  z127 := Tryz.sizeOf121
  v127 := Tryz.zeroValue121 }
theorem Tryz.Builder_Extra_169 : Builder.Extra Tryz.prog Tryz.lays169_ren := {
  sizeBuilder := by kernel_rfl
  liesBuilder := by kernel_rfl
  t5 := Tryz.underlying5
  a5 := Tryz.isAgg5
  z5 := Tryz.sizeOf5
  v5 := Tryz.zeroValue5
  infoByte := by kernel_rfl
  cellsByte := by kernel_rfl
  sizeByte := by kernel_rfl
  neB5 := by decide }
def Tryz.lays156_ren : Go.Shelf.Ren := ⟨fun | 156 => 76 | 165 => 99 | 166 => 27 | 169 => 31 | 240 => 54 | 241 => 123 | 276 => 75 | 277 => 138 | n => n, fun | 31 => 41 | 9 => 9 | 3 => 3 | 4 => 4 | 0 => 0 | 20 => 20 | 72 => 73 | 76 => 74 | 70 => 70 | 37 => 71 | 75 => 27 | 127 => 121 | 164 => 138 | 5 => 5 | 80 => 79 | n => n, fun | n => n⟩
theorem Tryz.lays156 : Go.Proofs.Lays.n156 Tryz.prog Tryz.lays156_ren := {
  mixed := by kernel_rfl
  f156 := Tryz.func76.trans (congrArg some (by kernel_rfl))
  f165 := Tryz.func99.trans (congrArg some (by kernel_rfl))
  f166 := Tryz.func27.trans (congrArg some (by kernel_rfl))
  f169 := Tryz.func31.trans (congrArg some (by kernel_rfl))
  f240 := Tryz.func54.trans (congrArg some (by kernel_rfl))
  f241 := Tryz.func123.trans (congrArg some (by kernel_rfl))
  f276 := Tryz.func75.trans (congrArg some (by kernel_rfl))
  f277 := Tryz.func138.trans (congrArg some (by kernel_rfl))
  t0 := Tryz.underlying0
  a0 := Tryz.isAgg0
  z0 := Tryz.sizeOf0
  v0 := Tryz.zeroValue0
  t3 := Tryz.underlying3
  a3 := Tryz.isAgg3
  z3 := Tryz.sizeOf3
  v3 := Tryz.zeroValue3
  t4 := Tryz.underlying4
  a4 := Tryz.isAgg4
  z4 := Tryz.sizeOf4
  v4 := Tryz.zeroValue4
  t9 := Tryz.underlying9
  a9 := Tryz.isAgg9
  z9 := Tryz.sizeOf9
  v9 := Tryz.zeroValue9
  t20 := Tryz.underlying20
  a20 := Tryz.isAgg20
  z20 := Tryz.sizeOf20
  v20 := Tryz.zeroValue20
  t31 := Tryz.underlying41
  a31 := Tryz.isAgg41
  z31 := Tryz.sizeOf41
  v31 := Tryz.zeroValue41
  t37 := Tryz.underlying71
  a37 := Tryz.isAgg71
  z37 := Tryz.sizeOf71
  v37 := Tryz.zeroValue71
  t70 := Tryz.underlying70
  a70 := Tryz.isAgg70
  z70 := Tryz.sizeOf70
  v70 := Tryz.zeroValue70
  t72 := Tryz.underlying73
  a72 := Tryz.isAgg73
  z72 := Tryz.sizeOf73
  v72 := Tryz.zeroValue73
  t75 := Tryz.underlying27
  a75 := Tryz.isAgg27
  z75 := Tryz.sizeOf27
  v75 := Tryz.zeroValue27
  t76 := Tryz.underlying74
  a76 := Tryz.isAgg74
  z76 := Tryz.sizeOf74
  v76 := Tryz.zeroValue74
  t127 := Tryz.underlying121
  a127 := Tryz.isAgg121
  z127 := Tryz.sizeOf121
  v127 := Tryz.zeroValue121
  t164 := Tryz.underlying138
  a164 := Tryz.isAgg138
  z164 := Tryz.sizeOf138
  v164 := Tryz.zeroValue138 }
theorem Tryz.Builder_Extra_156 : Builder.Extra Tryz.prog Tryz.lays156_ren := {
  sizeBuilder := by kernel_rfl
  liesBuilder := by kernel_rfl
  t5 := Tryz.underlying5
  a5 := Tryz.isAgg5
  z5 := Tryz.sizeOf5
  v5 := Tryz.zeroValue5
  infoByte := by kernel_rfl
  cellsByte := by kernel_rfl
  sizeByte := by kernel_rfl
  neB5 := by decide }
open Go.RowKit in
theorem Tryz.strings_Join_none (a : Option Addr) (c : Nat) (sep : ByteArray) (w : World) :
    Calls Tryz.prog 76 #[.slice a 0 c, .string sep] w fun e w' => e = .returned (.string ⟨#[]⟩) ∧ w' = w := Any.strings_Join_none Tryz.lays156 Tryz.Builder_Extra_156 a c sep w
open Go.RowKit in
theorem Tryz.strings_Join (bk o c : Nat) (xs : List ByteArray) (sep : ByteArray) (w : World) (hcells : ∀ (j : Nat) x, xs[j]? = some x → w.cell? ⟨bk, o + j, none⟩ = some (.string x)) (hbk : bk < w.heap.size) (hN : xs.length ≤ 140737488355328) (hcap : xs.length ≤ c) (hlen : (Lib.join (xs.map (·.data.toList)) sep.data.toList).length ≤ 140737488355328) :
    Calls Tryz.prog 76 #[.slice (some ⟨bk, o, none⟩) xs.length c, .string sep] w fun e w' => e = .returned (.string ⟨(Lib.join (xs.map (·.data.toList)) sep.data.toList).toArray⟩) ∧ Below w.heap.size w w' := Any.strings_Join Tryz.lays156 Tryz.Builder_Extra_156 bk o c xs sep w hcells hbk hN hcap hlen
def Tryz.lays137_ren : Go.Shelf.Ren := ⟨fun | 137 => 89 | 217 => 114 | 266 => 130 | n => n, fun | 9 => 9 | 5 => 5 | 3 => 3 | n => n, fun | n => n⟩
theorem Tryz.lays137 : Go.Proofs.Lays.n137 Tryz.prog Tryz.lays137_ren := {
  mixed := by kernel_rfl
  f137 := Tryz.func89.trans (congrArg some (by kernel_rfl))
  f217 := Tryz.func114.trans (congrArg some (by kernel_rfl))
  f266 := Tryz.func130.trans (congrArg some (by kernel_rfl))
  t3 := Tryz.underlying3
  a3 := Tryz.isAgg3
  z3 := Tryz.sizeOf3
  v3 := Tryz.zeroValue3
  t5 := Tryz.underlying5
  a5 := Tryz.isAgg5
  z5 := Tryz.sizeOf5
  v5 := Tryz.zeroValue5
  t9 := Tryz.underlying9
  a9 := Tryz.isAgg9
  z9 := Tryz.sizeOf9
  v9 := Tryz.zeroValue9 }
open Go.RowKit in
theorem Tryz.strings_IndexByte (s : ByteArray) (c : Int) (w : World) :
    Calls Tryz.prog 89 #[.string s, .int .u8 c] w fun e w' => e = .returned (.int .i64 (Lib.indexByte s.data.toList c.toNat.toUInt8)) ∧ w' = w := Any.strings_IndexByte Tryz.lays137 s c w
open Go.RowKit in
theorem Tryz.Builder_String_any_k (B b : Nat) (l : List UInt8) (w : World) (h : Lib.IsBuilderF 73 5 B b (Lib.byteCells l) w) (hBw : B ≤ w.heap.size) :
    Calls Tryz.prog 31 #[.pointer (some ⟨b, 0, none⟩)] w fun e w' => e = .returned (.string ⟨l.toArray⟩) ∧ (Lib.IsBuilderF 73 5 B b (Lib.byteCells l) w' ∧ Below B w w' ∧ Lib.OthersKept 5 (some b) w w') := Any.Builder_String_any_k Tryz.lays169 Tryz.Builder_Extra_169 B b l w h hBw
def Tryz.lays283_ren : Go.Shelf.Ren := ⟨fun | 283 => 102 | n => n, fun | 3 => 3 | 9 => 9 | 4 => 4 | n => n, fun | n => n⟩
theorem Tryz.lays283 : Go.Proofs.Lays.n283 Tryz.prog Tryz.lays283_ren := {
  mixed := by kernel_rfl
  f283 := Tryz.func102.trans (congrArg some (by kernel_rfl))
  t3 := Tryz.underlying3
  a3 := Tryz.isAgg3
  z3 := Tryz.sizeOf3
  v3 := Tryz.zeroValue3
  t4 := Tryz.underlying4
  a4 := Tryz.isAgg4
  z4 := Tryz.sizeOf4
  v4 := Tryz.zeroValue4
  t9 := Tryz.underlying9
  a9 := Tryz.isAgg9
  z9 := Tryz.sizeOf9
  v9 := Tryz.zeroValue9 }
open Go.Lib in
theorem Tryz.internal_strconv_small (i : Nat) (h : i < 100) (w : World) :
    Calls Tryz.prog 102 #[.int .i64 i] w fun e w' => e = .returned (.string ⟨(Lib.decDigits i).toArray⟩) ∧ w' = w := Any.internal_strconv_small Tryz.lays283 i h w
def Tryz.laysM284_ren : Go.Shelf.Ren := ⟨fun | 284 => 103 | 129 => 125 | 317 => 124 | 318 => 126 | n => n, fun | 53 => 60 | 3 => 3 | 212 => 184 | 0 => 0 | 4 => 4 | 46 => 147 | 5 => 5 | 9 => 9 | n => n, fun | 17 => 1 | n => n⟩
theorem Tryz.laysM284 : Go.Proofs.LaysM.n284 Tryz.prog Tryz.laysM284_ren := {
  mixed := by kernel_rfl
  f129 := Tryz.func125.trans (congrArg some (by kernel_rfl))
  f284 := Tryz.func103.trans (congrArg some (by kernel_rfl))
  f317 := Tryz.func124.trans (congrArg some (by kernel_rfl))
  f318 := Tryz.func126.trans (congrArg some (by kernel_rfl))
  t0 := Tryz.underlying0
  a0 := Tryz.isAgg0
  z0 := Tryz.sizeOf0
  v0 := Tryz.zeroValue0
  t3 := Tryz.underlying3
  a3 := Tryz.isAgg3
  z3 := Tryz.sizeOf3
  v3 := Tryz.zeroValue3
  t4 := Tryz.underlying4
  a4 := Tryz.isAgg4
  z4 := Tryz.sizeOf4
  v4 := Tryz.zeroValue4
  t5 := Tryz.underlying5
  a5 := Tryz.isAgg5
  z5 := Tryz.sizeOf5
  v5 := Tryz.zeroValue5
  t9 := Tryz.underlying9
  a9 := Tryz.isAgg9
  z9 := Tryz.sizeOf9
  v9 := Tryz.zeroValue9
  t46 := Tryz.underlying147
  a46 := Tryz.isAgg147
  z46 := Tryz.sizeOf147
  v46 := Tryz.zeroValue147
  t53 := Tryz.underlying60
  a53 := Tryz.isAgg60
  z53 := Tryz.sizeOf60
  v53 := Tryz.zeroValue60
  t212 := Tryz.underlying184
  a212 := Tryz.isAgg184
  z212 := Tryz.sizeOf184
  v212 := Tryz.zeroValue184
  g17 := by kernel_rfl
  i0 := by kernel_rfl
  i3 := by kernel_rfl
  i4 := by kernel_rfl
  i5 := by kernel_rfl
  i9 := by kernel_rfl
  i46 := by kernel_rfl
  i53 := by kernel_rfl
  i212 := by kernel_rfl
  m17 := by kernel_rfl }
open Go.Lib in
theorem Tryz.internal_strconv_numDigits (u : Nat) (h1 : 1 ≤ u) (h2 : u < 18446744073709551616) (w : World) (htab : Lib.TabIs Tryz.prog w "internal/strconv.uint64pow10" .u64 Lib.pow10Tab) :
    Calls Tryz.prog 103 #[.int .u64 u] w fun e w' => e = .returned (.int .i64 (Lib.nDigits u)) ∧ w' = w := Any.internal_strconv_numDigits Tryz.laysM284 u h1 h2 w htab
def Tryz.lays285_ren : Go.Shelf.Ren := ⟨fun | 285 => 104 | n => n, fun | 37 => 71 | 53 => 60 | 3 => 3 | 4 => 4 | 51 => 44 | 9 => 9 | 5 => 5 | 0 => 0 | n => n, fun | n => n⟩
theorem Tryz.lays285 : Go.Proofs.Lays.n285 Tryz.prog Tryz.lays285_ren := {
  mixed := by kernel_rfl
  f285 := Tryz.func104.trans (congrArg some (by kernel_rfl))
  t0 := Tryz.underlying0
  a0 := Tryz.isAgg0
  z0 := Tryz.sizeOf0
  v0 := Tryz.zeroValue0
  t3 := Tryz.underlying3
  a3 := Tryz.isAgg3
  z3 := Tryz.sizeOf3
  v3 := Tryz.zeroValue3
  t4 := Tryz.underlying4
  a4 := Tryz.isAgg4
  z4 := Tryz.sizeOf4
  v4 := Tryz.zeroValue4
  t5 := Tryz.underlying5
  a5 := Tryz.isAgg5
  z5 := Tryz.sizeOf5
  v5 := Tryz.zeroValue5
  t9 := Tryz.underlying9
  a9 := Tryz.isAgg9
  z9 := Tryz.sizeOf9
  v9 := Tryz.zeroValue9
  t37 := Tryz.underlying71
  a37 := Tryz.isAgg71
  z37 := Tryz.sizeOf71
  v37 := Tryz.zeroValue71
  t51 := Tryz.underlying44
  a51 := Tryz.isAgg44
  z51 := Tryz.sizeOf44
  v51 := Tryz.zeroValue44
  t53 := Tryz.underlying60
  a53 := Tryz.isAgg60
  z53 := Tryz.sizeOf60
  v53 := Tryz.zeroValue60 }
open Go.RowKit Go.Sort Go.Lib in
theorem Tryz.internal_strconv_formatBase10 (blk off cap : Nat) (u : Nat) (d : Array UInt8) (w : World) (hH : Holds (fun (b : UInt8) => Value.int .u8 (b.toNat : Int)) w blk off d) (hu : u < 10 ^ d.size) (hu64 : u < 18446744073709551616) (hsz : d.size < 4611686018427387904) :
    Calls Tryz.prog 104 #[.slice (some ⟨blk, off, none⟩) d.size cap, .int .u64 u] w fun e w' =>
      e = .returned (.tuple #[]) ∧ ∃ (n v' : Nat) (dk : Array UInt8), w' = (putRow (fun (b : UInt8) => Value.int .u8 (b.toNat : Int)) w blk off dk).drewN n ∧ FmtInv d.size u 0 v' dk := Any.internal_strconv_formatBase10 Tryz.lays285 blk off cap u d w hH hu hu64 hsz
def Tryz.laysM171_ren : Go.Shelf.Ren := ⟨fun | 171 => 56 | 243 => 77 | 246 => 100 | 283 => 102 | 284 => 103 | 285 => 104 | 286 => 105 | 129 => 125 | 317 => 124 | 318 => 126 | 319 => 127 | 320 => 128 | 337 => 139 | 338 => 140 | n => n, fun | 3 => 3 | 9 => 9 | 2 => 2 | 4 => 4 | 171 => 161 | 0 => 0 | 53 => 60 | 37 => 71 | 5 => 5 | 173 => 164 | 212 => 184 | 51 => 44 | 20 => 20 | 213 => 185 | 46 => 147 | 232 => 195 | 233 => 196 | n => n, fun | 17 => 1 | 18 => 2 | 19 => 3 | n => n⟩
theorem Tryz.laysM171 : Go.Proofs.LaysM.n171 Tryz.prog Tryz.laysM171_ren := {
  mixed := by kernel_rfl
  f129 := Tryz.func125.trans (congrArg some (by kernel_rfl))
  f171 := Tryz.func56.trans (congrArg some (by kernel_rfl))
  f243 := Tryz.func77.trans (congrArg some (by kernel_rfl))
  f246 := Tryz.func100.trans (congrArg some (by kernel_rfl))
  f283 := Tryz.func102.trans (congrArg some (by kernel_rfl))
  f284 := Tryz.func103.trans (congrArg some (by kernel_rfl))
  f285 := Tryz.func104.trans (congrArg some (by kernel_rfl))
  f286 := Tryz.func105.trans (congrArg some (by kernel_rfl))
  f317 := Tryz.func124.trans (congrArg some (by kernel_rfl))
  f318 := Tryz.func126.trans (congrArg some (by kernel_rfl))
  f319 := Tryz.func127.trans (congrArg some (by kernel_rfl))
  f320 := Tryz.func128.trans (congrArg some (by kernel_rfl))
  f337 := Tryz.func139.trans (congrArg some (by kernel_rfl))
  f338 := Tryz.func140.trans (congrArg some (by kernel_rfl))
  t0 := Tryz.underlying0
  a0 := Tryz.isAgg0
  z0 := Tryz.sizeOf0
  v0 := Tryz.zeroValue0
  t2 := Tryz.underlying2
  a2 := Tryz.isAgg2
  z2 := Tryz.sizeOf2
  v2 := Tryz.zeroValue2
  t3 := Tryz.underlying3
  a3 := Tryz.isAgg3
  z3 := Tryz.sizeOf3
  v3 := Tryz.zeroValue3
  t4 := Tryz.underlying4
  a4 := Tryz.isAgg4
  z4 := Tryz.sizeOf4
  v4 := Tryz.zeroValue4
  t5 := Tryz.underlying5
  a5 := Tryz.isAgg5
  z5 := Tryz.sizeOf5
  v5 := Tryz.zeroValue5
  t9 := Tryz.underlying9
  a9 := Tryz.isAgg9
  z9 := Tryz.sizeOf9
  v9 := Tryz.zeroValue9
  t20 := Tryz.underlying20
  a20 := Tryz.isAgg20
  z20 := Tryz.sizeOf20
  v20 := Tryz.zeroValue20
  t37 := Tryz.underlying71
  a37 := Tryz.isAgg71
  z37 := Tryz.sizeOf71
  v37 := Tryz.zeroValue71
  t46 := Tryz.underlying147
  a46 := Tryz.isAgg147
  z46 := Tryz.sizeOf147
  v46 := Tryz.zeroValue147
  t51 := Tryz.underlying44
  a51 := Tryz.isAgg44
  z51 := Tryz.sizeOf44
  v51 := Tryz.zeroValue44
  t53 := Tryz.underlying60
  a53 := Tryz.isAgg60
  z53 := Tryz.sizeOf60
  v53 := Tryz.zeroValue60
  t171 := Tryz.underlying161
  a171 := Tryz.isAgg161
  z171 := Tryz.sizeOf161
  v171 := Tryz.zeroValue161
  t173 := Tryz.underlying164
  a173 := Tryz.isAgg164
  z173 := Tryz.sizeOf164
  v173 := Tryz.zeroValue164
  t212 := Tryz.underlying184
  a212 := Tryz.isAgg184
  z212 := Tryz.sizeOf184
  v212 := Tryz.zeroValue184
  t213 := Tryz.underlying185
  a213 := Tryz.isAgg185
  z213 := Tryz.sizeOf185
  t232 := Tryz.underlying195
  a232 := Tryz.isAgg195
  z232 := Tryz.sizeOf195
  v232 := Tryz.zeroValue195
  t233 := Tryz.underlying196
  a233 := Tryz.isAgg196
  z233 := Tryz.sizeOf196
  v233 := Tryz.zeroValue196
  g17 := by kernel_rfl
  g18 := by kernel_rfl
  g19 := by kernel_rfl
  i0 := by kernel_rfl
  i2 := by kernel_rfl
  i3 := by kernel_rfl
  i4 := by kernel_rfl
  i5 := by kernel_rfl
  i9 := by kernel_rfl
  i20 := by kernel_rfl
  i37 := by kernel_rfl
  i46 := by kernel_rfl
  i51 := by kernel_rfl
  i53 := by kernel_rfl
  i171 := by kernel_rfl
  i173 := by kernel_rfl
  i212 := by kernel_rfl
  i232 := by kernel_rfl
  i233 := by kernel_rfl
  m17 := by kernel_rfl
  m18 := by kernel_rfl
  m19 := by kernel_rfl }
open Go.RowKit Go.Sort Go.Lib in
theorem Tryz.strconv_Itoa (n : Int) (h0 : -9223372036854775808 ≤ n) (h1 : n ≤ 9223372036854775807) (w : World) (htab : Lib.TabIs Tryz.prog w "internal/strconv.uint64pow10" .u64 Lib.pow10Tab) :
    Calls Tryz.prog 56 #[.int .i64 n] w fun e w' => e = .returned (.string ⟨(Lib.itoa n).toArray⟩) ∧ ∃ k os, w' = grow (w.drewN k) os := Any.strconv_Itoa Tryz.laysM171 n h0 h1 w htab
def Tryz.lays171_ren : Go.Shelf.Ren := ⟨fun | 171 => 56 | 243 => 77 | 246 => 100 | 283 => 102 | 284 => 103 | 285 => 104 | 286 => 105 | 129 => 125 | 317 => 124 | 318 => 126 | 319 => 127 | 320 => 128 | 337 => 139 | 338 => 140 | n => n, fun | 3 => 3 | 9 => 9 | 2 => 2 | 4 => 4 | 171 => 161 | 0 => 0 | 53 => 60 | 37 => 71 | 5 => 5 | 173 => 164 | 212 => 184 | 51 => 44 | 20 => 20 | 213 => 185 | 46 => 147 | 232 => 195 | 233 => 196 | n => n, fun | 17 => 1 | 18 => 2 | 19 => 3 | n => n⟩
theorem Tryz.lays171 : Go.Proofs.Lays.n171 Tryz.prog Tryz.lays171_ren := {
  mixed := by kernel_rfl
  f129 := Tryz.func125.trans (congrArg some (by kernel_rfl))
  f171 := Tryz.func56.trans (congrArg some (by kernel_rfl))
  f243 := Tryz.func77.trans (congrArg some (by kernel_rfl))
  f246 := Tryz.func100.trans (congrArg some (by kernel_rfl))
  f283 := Tryz.func102.trans (congrArg some (by kernel_rfl))
  f284 := Tryz.func103.trans (congrArg some (by kernel_rfl))
  f285 := Tryz.func104.trans (congrArg some (by kernel_rfl))
  f286 := Tryz.func105.trans (congrArg some (by kernel_rfl))
  f317 := Tryz.func124.trans (congrArg some (by kernel_rfl))
  f318 := Tryz.func126.trans (congrArg some (by kernel_rfl))
  f319 := Tryz.func127.trans (congrArg some (by kernel_rfl))
  f320 := Tryz.func128.trans (congrArg some (by kernel_rfl))
  f337 := Tryz.func139.trans (congrArg some (by kernel_rfl))
  f338 := Tryz.func140.trans (congrArg some (by kernel_rfl))
  t0 := Tryz.underlying0
  a0 := Tryz.isAgg0
  z0 := Tryz.sizeOf0
  v0 := Tryz.zeroValue0
  t2 := Tryz.underlying2
  a2 := Tryz.isAgg2
  z2 := Tryz.sizeOf2
  v2 := Tryz.zeroValue2
  t3 := Tryz.underlying3
  a3 := Tryz.isAgg3
  z3 := Tryz.sizeOf3
  v3 := Tryz.zeroValue3
  t4 := Tryz.underlying4
  a4 := Tryz.isAgg4
  z4 := Tryz.sizeOf4
  v4 := Tryz.zeroValue4
  t5 := Tryz.underlying5
  a5 := Tryz.isAgg5
  z5 := Tryz.sizeOf5
  v5 := Tryz.zeroValue5
  t9 := Tryz.underlying9
  a9 := Tryz.isAgg9
  z9 := Tryz.sizeOf9
  v9 := Tryz.zeroValue9
  t20 := Tryz.underlying20
  a20 := Tryz.isAgg20
  z20 := Tryz.sizeOf20
  v20 := Tryz.zeroValue20
  t37 := Tryz.underlying71
  a37 := Tryz.isAgg71
  z37 := Tryz.sizeOf71
  v37 := Tryz.zeroValue71
  t46 := Tryz.underlying147
  a46 := Tryz.isAgg147
  z46 := Tryz.sizeOf147
  v46 := Tryz.zeroValue147
  t51 := Tryz.underlying44
  a51 := Tryz.isAgg44
  z51 := Tryz.sizeOf44
  v51 := Tryz.zeroValue44
  t53 := Tryz.underlying60
  a53 := Tryz.isAgg60
  z53 := Tryz.sizeOf60
  v53 := Tryz.zeroValue60
  t171 := Tryz.underlying161
  a171 := Tryz.isAgg161
  z171 := Tryz.sizeOf161
  v171 := Tryz.zeroValue161
  t173 := Tryz.underlying164
  a173 := Tryz.isAgg164
  z173 := Tryz.sizeOf164
  v173 := Tryz.zeroValue164
  t212 := Tryz.underlying184
  a212 := Tryz.isAgg184
  z212 := Tryz.sizeOf184
  v212 := Tryz.zeroValue184
  t213 := Tryz.underlying185
  a213 := Tryz.isAgg185
  z213 := Tryz.sizeOf185
  t232 := Tryz.underlying195
  a232 := Tryz.isAgg195
  z232 := Tryz.sizeOf195
  v232 := Tryz.zeroValue195
  t233 := Tryz.underlying196
  a233 := Tryz.isAgg196
  z233 := Tryz.sizeOf196
  v233 := Tryz.zeroValue196
  g17 := by kernel_rfl
  g18 := by kernel_rfl
  g19 := by kernel_rfl }
open Go.RowKit Go.Sort Go.Lib in
theorem Tryz.strconv_Itoa_small (i : Nat) (hi : i < 100) (w : World) :
    Calls Tryz.prog 56 #[.int .i64 i] w fun e w' => e = .returned (.string ⟨(Lib.decDigits i).toArray⟩) ∧ w' = w := Any.strconv_Itoa_small Tryz.lays171 i hi w
def Tryz.lays143_ren : Go.Shelf.Ren := ⟨fun | 143 => 117 | 219 => 134 | 217 => 114 | 225 => 142 | 224 => 143 | 267 => 144 | 266 => 130 | 314 => 146 | n => n, fun | 9 => 9 | 3 => 3 | 4 => 4 | 5 => 5 | 46 => 147 | 146 => 173 | 51 => 44 | n => n, fun | 1 => 0 | n => n⟩
theorem Tryz.lays143 : Go.Proofs.Lays.n143 Tryz.prog Tryz.lays143_ren := {
  mixed := by kernel_rfl
  f143 := Tryz.func117.trans (congrArg some (by kernel_rfl))
  f217 := Tryz.func114.trans (congrArg some (by kernel_rfl))
  f219 := Tryz.func134.trans (congrArg some (by kernel_rfl))
  f224 := Tryz.func143.trans (congrArg some (by kernel_rfl))
  f225 := Tryz.func142.trans (congrArg some (by kernel_rfl))
  f266 := Tryz.func130.trans (congrArg some (by kernel_rfl))
  f267 := Tryz.func144.trans (congrArg some (by kernel_rfl))
  f314 := Tryz.func146.trans (congrArg some (by kernel_rfl))
  t3 := Tryz.underlying3
  a3 := Tryz.isAgg3
  z3 := Tryz.sizeOf3
  v3 := Tryz.zeroValue3
  t4 := Tryz.underlying4
  a4 := Tryz.isAgg4
  z4 := Tryz.sizeOf4
  v4 := Tryz.zeroValue4
  t5 := Tryz.underlying5
  a5 := Tryz.isAgg5
  z5 := Tryz.sizeOf5
  v5 := Tryz.zeroValue5
  t9 := Tryz.underlying9
  a9 := Tryz.isAgg9
  z9 := Tryz.sizeOf9
  v9 := Tryz.zeroValue9
  t46 := Tryz.underlying147
  a46 := Tryz.isAgg147
  z46 := Tryz.sizeOf147
  v46 := Tryz.zeroValue147
  t51 := Tryz.underlying44
  a51 := Tryz.isAgg44
  z51 := Tryz.sizeOf44
  v51 := Tryz.zeroValue44
  t146 := Tryz.underlying173
  a146 := Tryz.isAgg173
  z146 := Tryz.sizeOf173
  v146 := Tryz.zeroValue173
  g1 := by kernel_rfl }
open Go.RowKit Go.Lib in
theorem Tryz.strings_Index_one (s : ByteArray) (c : UInt8) (w : World) :
    Calls Tryz.prog 117 #[.string s, .string ⟨#[c]⟩] w fun e w' => e = .returned (.int .i64 (Lib.indexByte s.data.toList c)) ∧ w' = w := Any.strings_Index_one Tryz.lays143 s c w
def Tryz.lays145_ren : Go.Shelf.Ren := ⟨fun | 145 => 121 | 220 => 136 | 219 => 134 | 217 => 114 | 225 => 142 | 224 => 143 | 267 => 144 | 266 => 130 | 314 => 146 | n => n, fun | 9 => 9 | 4 => 4 | 59 => 178 | 3 => 3 | 5 => 5 | 46 => 147 | 146 => 173 | 51 => 44 | n => n, fun | 1 => 0 | n => n⟩
theorem Tryz.lays145 : Go.Proofs.Lays.n145 Tryz.prog Tryz.lays145_ren := {
  mixed := by kernel_rfl
  f145 := Tryz.func121.trans (congrArg some (by kernel_rfl))
  f217 := Tryz.func114.trans (congrArg some (by kernel_rfl))
  f219 := Tryz.func134.trans (congrArg some (by kernel_rfl))
  f220 := Tryz.func136.trans (congrArg some (by kernel_rfl))
  f224 := Tryz.func143.trans (congrArg some (by kernel_rfl))
  f225 := Tryz.func142.trans (congrArg some (by kernel_rfl))
  f266 := Tryz.func130.trans (congrArg some (by kernel_rfl))
  f267 := Tryz.func144.trans (congrArg some (by kernel_rfl))
  f314 := Tryz.func146.trans (congrArg some (by kernel_rfl))
  t3 := Tryz.underlying3
  a3 := Tryz.isAgg3
  z3 := Tryz.sizeOf3
  v3 := Tryz.zeroValue3
  t4 := Tryz.underlying4
  a4 := Tryz.isAgg4
  z4 := Tryz.sizeOf4
  v4 := Tryz.zeroValue4
  t5 := Tryz.underlying5
  a5 := Tryz.isAgg5
  z5 := Tryz.sizeOf5
  v5 := Tryz.zeroValue5
  t9 := Tryz.underlying9
  a9 := Tryz.isAgg9
  z9 := Tryz.sizeOf9
  v9 := Tryz.zeroValue9
  t46 := Tryz.underlying147
  a46 := Tryz.isAgg147
  z46 := Tryz.sizeOf147
  v46 := Tryz.zeroValue147
  t51 := Tryz.underlying44
  a51 := Tryz.isAgg44
  z51 := Tryz.sizeOf44
  v51 := Tryz.zeroValue44
  t59 := Tryz.underlying178
  a59 := Tryz.isAgg178
  z59 := Tryz.sizeOf178
  v59 := Tryz.zeroValue178
  t146 := Tryz.underlying173
  a146 := Tryz.isAgg173
  z146 := Tryz.sizeOf173
  v146 := Tryz.zeroValue173
  g1 := by kernel_rfl }
open Go.RowKit Go.Lib in
theorem Tryz.strings_Cut (s sep : ByteArray) (m : Int) (w : World) (hs : s.size < 4294967281) (hm : w.cell? ⟨0, 0, none⟩ = some (.int .i64 m)) :
    Calls Tryz.prog 121 #[.string s, .string sep] w fun e w' => e = .returned (.tuple #[.string ⟨(Lib.cut s.data.toList sep.data.toList).1.toArray⟩, .string ⟨(Lib.cut s.data.toList sep.data.toList).2.1.toArray⟩, .bool (Lib.cut s.data.toList sep.data.toList).2.2]) ∧ ∃ n, w' = w.drewN n := Any.strings_Cut Tryz.lays145 s sep m w hs hm
def Tryz.laysM219_ren : Go.Shelf.Ren := ⟨fun | 219 => 134 | 217 => 114 | 225 => 142 | 224 => 143 | 267 => 144 | 266 => 130 | 314 => 146 | n => n, fun | 9 => 9 | 3 => 3 | 4 => 4 | 5 => 5 | 46 => 147 | 146 => 173 | 51 => 44 | n => n, fun | 1 => 0 | n => n⟩
theorem Tryz.laysM219 : Go.Proofs.LaysM.n219 Tryz.prog Tryz.laysM219_ren := {
  mixed := by kernel_rfl
  f217 := Tryz.func114.trans (congrArg some (by kernel_rfl))
  f219 := Tryz.func134.trans (congrArg some (by kernel_rfl))
  f224 := Tryz.func143.trans (congrArg some (by kernel_rfl))
  f225 := Tryz.func142.trans (congrArg some (by kernel_rfl))
  f266 := Tryz.func130.trans (congrArg some (by kernel_rfl))
  f267 := Tryz.func144.trans (congrArg some (by kernel_rfl))
  f314 := Tryz.func146.trans (congrArg some (by kernel_rfl))
  t3 := Tryz.underlying3
  a3 := Tryz.isAgg3
  z3 := Tryz.sizeOf3
  v3 := Tryz.zeroValue3
  t4 := Tryz.underlying4
  a4 := Tryz.isAgg4
  z4 := Tryz.sizeOf4
  v4 := Tryz.zeroValue4
  t5 := Tryz.underlying5
  a5 := Tryz.isAgg5
  z5 := Tryz.sizeOf5
  v5 := Tryz.zeroValue5
  t9 := Tryz.underlying9
  a9 := Tryz.isAgg9
  z9 := Tryz.sizeOf9
  v9 := Tryz.zeroValue9
  t46 := Tryz.underlying147
  a46 := Tryz.isAgg147
  z46 := Tryz.sizeOf147
  v46 := Tryz.zeroValue147
  t51 := Tryz.underlying44
  a51 := Tryz.isAgg44
  z51 := Tryz.sizeOf44
  v51 := Tryz.zeroValue44
  t146 := Tryz.underlying173
  a146 := Tryz.isAgg173
  z146 := Tryz.sizeOf173
  v146 := Tryz.zeroValue173
  g1 := by kernel_rfl
  i3 := by kernel_rfl
  i4 := by kernel_rfl
  i5 := by kernel_rfl
  i9 := by kernel_rfl
  i46 := by kernel_rfl
  i51 := by kernel_rfl
  i146 := by kernel_rfl
  m1 := by kernel_rfl
  s1_3 := fun w h => Go.Proofs.cell_of_shapedOpen_int (zero := #[.int .i64 0]) (t := 3) h (of_decide_eq_true (by kernel_rfl)) (by kernel_rfl) rfl (by kernel_rfl) (by kernel_rfl) Tryz.underlying3 }
def Tryz.lays148_ren : Go.Shelf.Ren := ⟨fun | 148 => 67 | 222 => 86 | 223 => 87 | 269 => 113 | n => n, fun | 9 => 9 | 3 => 3 | 4 => 4 | 5 => 5 | 146 => 173 | 51 => 44 | 46 => 147 | n => n, fun | n => n⟩
theorem Tryz.lays148 : Go.Proofs.Lays.n148 Tryz.prog Tryz.lays148_ren := {
  mixed := by kernel_rfl
  f148 := Tryz.func67.trans (congrArg some (by kernel_rfl))
  f222 := Tryz.func86.trans (congrArg some (by kernel_rfl))
  f223 := Tryz.func87.trans (congrArg some (by kernel_rfl))
  f269 := Tryz.func113.trans (congrArg some (by kernel_rfl))
  t3 := Tryz.underlying3
  a3 := Tryz.isAgg3
  z3 := Tryz.sizeOf3
  v3 := Tryz.zeroValue3
  t4 := Tryz.underlying4
  a4 := Tryz.isAgg4
  z4 := Tryz.sizeOf4
  v4 := Tryz.zeroValue4
  t5 := Tryz.underlying5
  a5 := Tryz.isAgg5
  z5 := Tryz.sizeOf5
  v5 := Tryz.zeroValue5
  t9 := Tryz.underlying9
  a9 := Tryz.isAgg9
  z9 := Tryz.sizeOf9
  v9 := Tryz.zeroValue9
  t46 := Tryz.underlying147
  a46 := Tryz.isAgg147
  z46 := Tryz.sizeOf147
  v46 := Tryz.zeroValue147
  t51 := Tryz.underlying44
  a51 := Tryz.isAgg44
  z51 := Tryz.sizeOf44
  v51 := Tryz.zeroValue44
  t146 := Tryz.underlying173
  a146 := Tryz.isAgg173
  z146 := Tryz.sizeOf173
  v146 := Tryz.zeroValue173 }
open Go.RowKit Go.Lib in
theorem Tryz.strings_LastIndex (s sub : ByteArray) (hs : s.size < 4611686018427387904) (w : World) :
    Calls Tryz.prog 67 #[.string s, .string sub] w fun e w' => e = .returned (.int .i64 (Lib.lastIndex s.data.toList sub.data.toList)) ∧ w' = w := Any.strings_LastIndex Tryz.lays148 s sub hs w
def Tryz.lays102_ren : Go.Shelf.Ren := ⟨fun | 102 => 70 | 209 => 91 | 207 => 118 | n => n, fun | 9 => 9 | 4 => 4 | 3 => 3 | n => n, fun | n => n⟩
theorem Tryz.lays102 : Go.Proofs.Lays.n102 Tryz.prog Tryz.lays102_ren := {
  mixed := by kernel_rfl
  f102 := Tryz.func70.trans (congrArg some (by kernel_rfl))
  f207 := Tryz.func118.trans (congrArg some (by kernel_rfl))
  f209 := Tryz.func91.trans (congrArg some (by kernel_rfl))
  t3 := Tryz.underlying3
  a3 := Tryz.isAgg3
  z3 := Tryz.sizeOf3
  v3 := Tryz.zeroValue3
  t4 := Tryz.underlying4
  a4 := Tryz.isAgg4
  z4 := Tryz.sizeOf4
  v4 := Tryz.zeroValue4
  t9 := Tryz.underlying9
  a9 := Tryz.isAgg9
  z9 := Tryz.sizeOf9
  v9 := Tryz.zeroValue9 }
open Go.RowKit Go.Lib in
theorem Tryz.strings_TrimSuffix (s p : ByteArray) (w : World) (hs : s.size ≤ 9223372036854775807) :
    Calls Tryz.prog 70 #[.string s, .string p] w fun e w' => e = .returned (.string ⟨(Lib.trimSuffix s.data.toList p.data.toList).toArray⟩) ∧ w' = w := Any.strings_TrimSuffix Tryz.lays102 s p w hs
def Tryz.lays146_ren : Go.Shelf.Ren := ⟨fun | 146 => 69 | 221 => 90 | 268 => 115 | 138 => 116 | 143 => 117 | 195 => 131 | 197 => 132 | 218 => 133 | 219 => 134 | 260 => 141 | 217 => 114 | 225 => 142 | 224 => 143 | 267 => 144 | 266 => 130 | 314 => 146 | n => n, fun | 9 => 9 | 31 => 41 | 3 => 3 | 4 => 4 | 0 => 0 | 105 => 188 | 21 => 21 | 5 => 5 | 46 => 147 | 119 => 197 | 139 => 200 | 138 => 199 | 146 => 173 | 51 => 44 | n => n, fun | 1 => 0 | 3 => 4 | 4 => 5 | n => n⟩
theorem Tryz.lays146 : Go.Proofs.Lays.n146 Tryz.prog Tryz.lays146_ren := {
  mixed := by kernel_rfl
  f138 := Tryz.func116.trans (congrArg some (by kernel_rfl))
  f143 := Tryz.func117.trans (congrArg some (by kernel_rfl))
  f146 := Tryz.func69.trans (congrArg some (by kernel_rfl))
  f195 := Tryz.func131.trans (congrArg some (by kernel_rfl))
  f197 := Tryz.func132.trans (congrArg some (by kernel_rfl))
  f217 := Tryz.func114.trans (congrArg some (by kernel_rfl))
  f218 := Tryz.func133.trans (congrArg some (by kernel_rfl))
  f219 := Tryz.func134.trans (congrArg some (by kernel_rfl))
  f221 := Tryz.func90.trans (congrArg some (by kernel_rfl))
  f224 := Tryz.func143.trans (congrArg some (by kernel_rfl))
  f225 := Tryz.func142.trans (congrArg some (by kernel_rfl))
  f260 := Tryz.func141.trans (congrArg some (by kernel_rfl))
  f266 := Tryz.func130.trans (congrArg some (by kernel_rfl))
  f267 := Tryz.func144.trans (congrArg some (by kernel_rfl))
  f268 := Tryz.func115.trans (congrArg some (by kernel_rfl))
  f314 := Tryz.func146.trans (congrArg some (by kernel_rfl))
  t0 := Tryz.underlying0
  a0 := Tryz.isAgg0
  z0 := Tryz.sizeOf0
  v0 := Tryz.zeroValue0
  t3 := Tryz.underlying3
  a3 := Tryz.isAgg3
  z3 := Tryz.sizeOf3
  v3 := Tryz.zeroValue3
  t4 := Tryz.underlying4
  a4 := Tryz.isAgg4
  z4 := Tryz.sizeOf4
  v4 := Tryz.zeroValue4
  t5 := Tryz.underlying5
  a5 := Tryz.isAgg5
  z5 := Tryz.sizeOf5
  v5 := Tryz.zeroValue5
  t9 := Tryz.underlying9
  a9 := Tryz.isAgg9
  z9 := Tryz.sizeOf9
  v9 := Tryz.zeroValue9
  t21 := Tryz.underlying21
  a21 := Tryz.isAgg21
  z21 := Tryz.sizeOf21
  v21 := Tryz.zeroValue21
  t31 := Tryz.underlying41
  a31 := Tryz.isAgg41
  z31 := Tryz.sizeOf41
  v31 := Tryz.zeroValue41
  t46 := Tryz.underlying147
  a46 := Tryz.isAgg147
  z46 := Tryz.sizeOf147
  v46 := Tryz.zeroValue147
  t51 := Tryz.underlying44
  a51 := Tryz.isAgg44
  z51 := Tryz.sizeOf44
  v51 := Tryz.zeroValue44
  t105 := Tryz.underlying188
  a105 := Tryz.isAgg188
  z105 := Tryz.sizeOf188
  v105 := Tryz.zeroValue188
  t119 := Tryz.underlying197
  a119 := Tryz.isAgg197
  z119 := Tryz.sizeOf197
  t138 := Tryz.underlying199
  a138 := Tryz.isAgg199
  z138 := Tryz.sizeOf199
  v138 := Tryz.zeroValue199
  t139 := Tryz.underlying200
  a139 := Tryz.isAgg200
  z139 := Tryz.sizeOf200
  v139 := Tryz.zeroValue200
  t146 := Tryz.underlying173
  a146 := Tryz.isAgg173
  z146 := Tryz.sizeOf173
  v146 := Tryz.zeroValue173
  g1 := by kernel_rfl
  g3 := by kernel_rfl
  g4 := by kernel_rfl }
open Go.RowKit Go.Lib in
theorem Tryz.strings_Split (s sep : ByteArray) (m : Int) (w : World) (hs : s.size < 4294967281) (hm : w.cell? ⟨0, 0, none⟩ = some (.int .i64 m)) (h1 : 1 ≤ sep.size) :
    Calls Tryz.prog 69 #[.string s, .string sep] w fun e w' =>
      e = .returned (.slice (some ⟨w.heap.size, 0, none⟩) (Lib.countB s sep + 1) (Lib.countB s sep + 1)) ∧ w' = w.alloc (.cells ((Lib.splitB sep 0 (Lib.countB s sep) s).map Value.string).toArray 9) := Any.strings_Split Tryz.lays146 (by kernel_rfl) s sep m w hs hm h1
end Go.Proofs

namespace Go.Proofs.YtlljniaobbbjgaaGreatDoor
namespace Ost
/-- The numbers of a set, rising, below a bound. -/
def listTo (A k : Nat) : List Nat := (List.range k).filter (A.testBit ·)
theorem listTo_succ (A k : Nat) : listTo A (k + 1) = if A.testBit k then listTo A k ++ [k] else listTo A k := by
  unfold listTo
  rw [List.range_succ, List.filter_append]
  by_cases h : A.testBit k <;> simp [h]
/-- Where the run of numbers begins that a number lies in. -/
def runStart (A : Nat) : Nat → Nat
  | 0 => 0
  | n + 1 => if A.testBit n then runStart A n else n + 1
/-- Runs that end below a bound. -/
def spansTo (A : Nat) : Nat → List (Nat × Nat)
  | 0 => []
  | k + 1 => if A.testBit k && !A.testBit (k + 1) then spansTo A k ++ [(runStart A k, k)] else spansTo A k
def spanTxt (p : Nat × Nat) : List UInt8 := if p.1 = p.2 then Lib.decDigits p.1 else Lib.decDigits p.1 ++ [45] ++ Lib.decDigits p.2
def joined (l : List (Nat × Nat)) : List UInt8 := Lib.join (l.map spanTxt) [44]
theorem join_snoc (xs : List (List UInt8)) (x sep : List UInt8) : Lib.join (xs ++ [x]) sep = if xs = [] then x else Lib.join xs sep ++ sep ++ x := by
  unfold Lib.join
  induction xs with
  | nil => simp [List.intercalate]
  | cons a r ih =>
    simp only [List.cons_append, reduceCtorEq, if_false]
    cases r with
    | nil => simp [List.intercalate]
    | cons b t =>
      simp only [List.cons_append, reduceCtorEq, if_false] at ih
      have e1 : sep.intercalate (a :: b :: (t ++ [x])) = a ++ sep ++ sep.intercalate (b :: (t ++ [x])) := by simp [List.intercalate, List.intersperse]
      have e2 : sep.intercalate (a :: b :: t) = a ++ sep ++ sep.intercalate (b :: t) := by simp [List.intercalate, List.intersperse]
      rw [List.cons_append, e1, e2, ih]
      simp
theorem decDigits_ne (n : Nat) : Lib.decDigits n ≠ [] := by
  intro h
  have := Lib.decDigits_length n
  rw [h] at this
  have := Lib.nDigits_pos n
  simp at *
  omega
theorem spanTxt_ne (p : Nat × Nat) : spanTxt p ≠ [] := by
  unfold spanTxt
  split
  · exact decDigits_ne _
  · simp
theorem joined_nil (l : List (Nat × Nat)) : joined l = [] ↔ l = [] := by
  constructor
  · intro h
    cases l with
    | nil => rfl
    | cons a r =>
      exfalso
      unfold joined at h
      cases r with
      | nil => simp [Lib.join, List.intercalate] at h; exact spanTxt_ne a h
      | cons b t => simp [Lib.join, List.intercalate] at h
  · rintro rfl; rfl
theorem joined_snoc (l : List (Nat × Nat)) (p : Nat × Nat) : joined (l ++ [p]) = if joined l = [] then spanTxt p else joined l ++ [44] ++ spanTxt p := by
  unfold joined
  rw [List.map_append, List.map_cons, List.map_nil, join_snoc]
  by_cases h : l = []
  · subst h; simp [Lib.join, List.intercalate]
  · rw [if_neg (by simpa using h), if_neg]
    intro e
    exact h ((joined_nil l).1 e)
end Ost
end Go.Proofs.YtlljniaobbbjgaaGreatDoor

namespace Go.Proofs.YtlljniaobbbjgaaGreatDoor
namespace Sv
/-- One byte more. -/
def fnvStep (h : Nat) (b : UInt8) : Nat := (h ^^^ b.toNat) * 16777619 % 4294967296
/-- The sum of a text. -/
def fnv (l : List UInt8) : Nat := l.foldl fnvStep 2166136261
theorem fnv_snoc (l : List UInt8) (b : UInt8) : fnv (l ++ [b]) = fnvStep (fnv l) b := by
  unfold fnv
  rw [List.foldl_append, List.foldl_cons, List.foldl_nil]
theorem fnv_lt (l : List UInt8) : fnv l < 4294967296 := by
  rcases List.eq_nil_or_concat l with rfl | ⟨l, b, rfl⟩
  · unfold fnv; rw [List.foldl_nil]; omega
  · rw [List.concat_eq_append, fnv_snoc]; unfold fnvStep; exact Nat.mod_lt _ (by omega)
theorem fnv_take {l : List UInt8} {k : Nat} (h : k < l.length) : fnv (l.take (k + 1)) = fnvStep (fnv (l.take k)) l[k] := by
  rw [← fnv_snoc, List.take_add_one, List.getElem?_eq_getElem h, Option.toList_some]
theorem xor_lt {a b : Nat} (ha : a < 4294967296) (hb : b < 4294967296) : a ^^^ b < 4294967296 := Nat.xor_lt_two_pow (n := 32) ha hb
theorem xor_u32 {a b : Nat} (ha : a < 4294967296) (hb : b < 4294967296) : bits .xor .u32 (a : Int) (b : Int) = ((a ^^^ b : Nat) : Int) := by
  have h1 : (BitVec.ofInt 32 (a : Int)).toNat = a := by rw [BitVec.toNat_ofInt]; omega
  have h2 : (BitVec.ofInt 32 (b : Int)).toNat = b := by rw [BitVec.toNat_ofInt]; omega
  show IntKind.u32.wrap ((BitVec.ofInt 32 (a : Int) ^^^ BitVec.ofInt 32 (b : Int)).toNat : Int) = _
  rw [BitVec.toNat_xor, h1, h2]
  have := xor_lt ha hb
  rw [IntKind.wrap_u32]
  omega
theorem xor_i64 {a b : Nat} (ha : a < 4294967296) (hb : b < 4294967296) : bits .xor .i64 (a : Int) (b : Int) = ((a ^^^ b : Nat) : Int) := by
  have h1 : (BitVec.ofInt 64 (a : Int)).toNat = a := by rw [BitVec.toNat_ofInt]; omega
  have h2 : (BitVec.ofInt 64 (b : Int)).toNat = b := by rw [BitVec.toNat_ofInt]; omega
  show IntKind.i64.wrap ((BitVec.ofInt 64 (a : Int) ^^^ BitVec.ofInt 64 (b : Int)).toNat : Int) = _
  rw [BitVec.toNat_xor, h1, h2]
  have := xor_lt ha hb
  rw [IntKind.wrap_i64]
  omega
/-- What a round makes of it. -/
theorem step_u32 (h : Nat) (b : UInt8) : IntKind.u32.wrap (((h ^^^ b.toNat : Nat) : Int) * 16777619) = (fnvStep h b : Nat) := by
  unfold fnvStep
  rw [IntKind.wrap_u32]
  omega
theorem step_i64 {h : Nat} (hh : h < 4294967296) (b : UInt8) : ((((h ^^^ b.toNat : Nat) : Int) * 16777619).tmod 4294967296 = (fnvStep h b : Nat)) ∧ ((h ^^^ b.toNat : Nat) : Int) * 16777619 ≤ 9223372036854775807 := by
  have hb : b.toNat < 4294967296 := by have := b.toNat_lt; omega
  have := xor_lt hh hb
  refine ⟨?_, by omega⟩
  unfold fnvStep
  rw [Int.tmod_eq_emod_of_nonneg (by omega)]
  omega
end Sv
end Go.Proofs.YtlljniaobbbjgaaGreatDoor

namespace Go.Proofs.YtlljniaobbbjgaaGreatDoor
namespace Dvs
/-- A device. -/
structure Dv where
  kind : ByteArray
  node : Int
  sick : Bool
def dv0 : Dv := ⟨ByteArray.empty, 0, false⟩
instance : Inhabited Dv := ⟨dv0⟩
/-- The one of a number. -/
def dv (ds : List Dv) (k : Nat) : Dv := ds.getD k dv0
/-- A list's number at a place. -/
def nth (l : List Int) (k : Nat) : Int := l.getD k 0
/-- Those below a bound that are so. -/
def sel (p : Nat → Bool) (n : Nat) : List Nat := (List.range n).filter p
/-- The first fault of some. -/
def first (f : Nat → Nat) : Nat → Nat
  | 0 => 0
  | k + 1 => if first f k = 0 then f k else first f k
theorem first_zero {f : Nat → Nat} {k : Nat} (h : first f k = 0) (h2 : f k = 0) : first f (k + 1) = 0 := by rw [first, if_pos h, h2]
theorem first_stay {f : Nat → Nat} {k : Nat} (h : first f k ≠ 0) (j : Nat) : first f (k + j) = first f k := by
  induction j with
  | zero => rfl
  | succ j ih => rw [← Nat.add_assoc, first, if_neg (by rw [ih]; exact h), ih]
theorem first_hit {f : Nat → Nat} {k n : Nat} (h : first f k = 0) (h2 : f k ≠ 0) (hk : k < n) : first f n = f k := by
  have e : first f (k + 1) = f k := by rw [first, if_pos h]
  have := first_stay (f := f) (k := k + 1) (by rw [e]; exact h2) (n - (k + 1))
  rw [show k + 1 + (n - (k + 1)) = n by omega] at this
  rw [this, e]
theorem first_all {f : Nat → Nat} {n : Nat} (h : first f n = 0) : ∀ k, k < n → f k = 0 := by
  induction n with
  | zero => intro k hk; omega
  | succ n ih =>
    rw [first] at h
    split at h
    · rename_i h0
      intro k hk
      by_cases e : k = n
      · subst e; exact h
      · exact ih h0 k (by omega)
    · rename_i h0; exact absurd h h0
def given (us : Nat → Bool) (l : List Int) (j : Nat) : Bool := us j && !decide ((j : Int) ∈ l)
/-- Is it a letter; a digit? -/
def isLet (b : UInt8) : Bool := decide (97 ≤ b.toNat) && decide (b.toNat ≤ 122)
def isNum (b : UInt8) : Bool := decide (48 ≤ b.toNat ∧ b.toNat ≤ 57)
def okB (s : ByteArray) (i : Nat) : Bool := isLet (s.data.toList.getD i 0) || (isNum (s.data.toList.getD i 0) && decide (0 < i))
theorem byte_at (s : ByteArray) (k : Nat) (h : k < s.size) : s.data.toList.getD k 0 = s[k] := by
  have h2 : k < s.data.size := h
  rw [List.getD_eq_getElem?_getD, Array.getElem?_toList, Array.getElem?_eq_getElem h2]
  rfl
theorem okB_at (s : ByteArray) (k : Nat) (h : k < s.size) : okB s k = (isLet s[k] || (isNum s[k] && decide (0 < k))) := by rw [okB, byte_at s k h]
/-- All of the first ones. -/
def allTo (f : Nat → Bool) : Nat → Bool
  | 0 => true
  | k + 1 => allTo f k && f k
theorem allTo_yes {f : Nat → Bool} {k : Nat} (h : allTo f k = true) (h2 : f k = true) : allTo f (k + 1) = true := by rw [allTo, h, h2]; rfl
theorem allTo_no {f : Nat → Bool} {k n : Nat} (h2 : f k = false) (hk : k < n) : allTo f n = false := by
  induction n with
  | zero => omega
  | succ n ih =>
    rw [allTo]
    by_cases e : k = n
    · subst e; rw [h2, Bool.and_false]
    · rw [ih (by omega), Bool.false_and]
def nameMay (s : ByteArray) : Bool := decide (0 < s.size) && decide (s.size ≤ 8) && allTo (okB s) s.size
theorem nameMay_none {s : ByteArray} (h : s.size = 0) : nameMay s = false := by simp [nameMay, h]
theorem nameMay_long {s : ByteArray} (h : 8 < s.size) : nameMay s = false := by simp [nameMay]; omega
theorem nameMay_all {s : ByteArray} (h0 : 0 < s.size) (h8 : s.size ≤ 8) : nameMay s = allTo (okB s) s.size := by rw [nameMay, decide_eq_true h0, decide_eq_true h8]; rfl
/-- What is wrong with the k-th device. -/
def newF (ds : List Dv) (k : Nat) : Nat := if nameMay (dv ds k).kind = false then 3 else if (dv ds k).node < 0 ∨ 3 < (dv ds k).node then 1 else 0
def fault (ds : List Dv) : Nat := if 16 < ds.length then 2 else first (newF ds) ds.length
/-- So many on a node. -/
def cn (p : Nat → Bool) (ds : List Dv) (x n : Nat) : Nat := (sel (fun j => p j && decide ((dv ds j).node = (x : Int))) n).length
end Dvs
end Go.Proofs.YtlljniaobbbjgaaGreatDoor

namespace Go.Proofs.YtlljniaobbbjgaaGreatDoor
namespace Ost
theorem good_of_num (m : Int) (l : List UInt8) (hm : m ≤ 18) : good m l = (isNum l && decide ((l.length : Int) ≤ m)) := by
  cases hn : isNum l with
  | false => simp [good, hn]
  | true =>
    by_cases hl : (l.length : Int) ≤ m
    · have hd := ((isNum_iff l).1 hn).2.2
      have h1 := val_lt_pow l hd
      have h2 : (10 : Int) ^ l.length ≤ 10 ^ 18 := by
        have : (10 : Nat) ^ l.length ≤ 10 ^ 18 := Nat.pow_le_pow_right (by omega) (by omega)
        exact_mod_cast this
      have : val l ≤ maxI := by unfold maxI; omega
      simp [good, hn, hl, this]
    · simp [good, hn, hl]
end Ost
end Go.Proofs.YtlljniaobbbjgaaGreatDoor

namespace Go.Proofs.YtlljniaobbbjgaaGreatDoor.S1
open Go.RowKit
theorem bit_eq (A n : Nat) (hA : A < 18446744073709551616) : (bits BinOp.and IntKind.u64 ((A : Int) / 2 ^ n) 1 == 1) = A.testBit n := by
  have e : ((A : Int) / 2 ^ n) = ((A / 2 ^ n : Nat) : Int) := by simp
  have hlt : A / 2 ^ n < 18446744073709551616 := Nat.lt_of_le_of_lt (Nat.div_le_self _ _) hA
  rw [e, show (1 : Int) = ((1 : Nat) : Int) from rfl, bits_and_u64_nat _ _ hlt (by omega), Nat.testBit_eq_decide_div_mod_eq, Nat.and_one_is_mod]
  rw [Bool.eq_iff_iff]; simp; omega
set_option maxHeartbeats 400000 in
theorem has_in (A n : Nat) (w : World) (hA : A < 18446744073709551616) (hn : n < 64) :
    Calls Tryz.prog 80 #[.int .u64 A, .int .i64 n] w fun e w' => e = .returned (.bool (A.testBit n)) ∧ w' = w := by
  have HB := bit_eq A n hA
  go_enter Tryz.func80, Tryz.ntmps80
  go_wp2_with go_in
  go_ret
  exact ⟨rfl, rfl⟩
set_option maxHeartbeats 400000 in
theorem has_out (A : Nat) (n : Int) (w : World) (hn : n < 0 ∨ 64 ≤ n) :
    Calls Tryz.prog 80 #[.int .u64 A, .int .i64 n] w fun e w' => e = .returned (.bool false) ∧ w' = w := by
  have key : n < 0 ∨ (0 ≤ n ∧ 64 ≤ n) := by omega
  clear hn
  rcases key with h | ⟨h1, h⟩
  all_goals
    go_enter Tryz.func80, Tryz.ntmps80
    go_wp2_with go_in
    go_ret
    exact ⟨rfl, rfl⟩
end Go.Proofs.YtlljniaobbbjgaaGreatDoor.S1

namespace Go.Proofs.YtlljniaobbbjgaaGreatDoor
namespace Ost
theorem land_split (a m q n : Nat) (ha : a < 256) (hm : m < 256) : (a + 256 * q) &&& (m + 256 * n) = (a &&& m) + 256 * (q &&& n) := by
  have h1 : ∀ x y : Nat, x < 256 → x + 256 * y = 2 ^ 8 * y ||| x := fun x y hx => by
    rw [← Nat.two_pow_add_eq_or_of_lt (i := 8) hx]; omega
  have h2 : a &&& m < 256 := Nat.lt_of_le_of_lt Nat.and_le_left ha
  rw [h1 a q ha, h1 m n hm, h1 _ (q &&& n) h2]
  apply Nat.eq_of_testBit_eq
  intro i
  simp only [Nat.testBit_and, Nat.testBit_or, Nat.testBit_two_pow_mul]
  by_cases hi : 8 ≤ i
  · have e1 : a.testBit i = false := Nat.testBit_lt_two_pow (Nat.lt_of_lt_of_le ha (Nat.pow_le_pow_right (n := 2) (by omega) hi))
    have e2 : m.testBit i = false := Nat.testBit_lt_two_pow (Nat.lt_of_lt_of_le hm (Nat.pow_le_pow_right (n := 2) (by omega) hi))
    simp [e1, e2, hi]
  · simp [hi]
def M0 : Nat → Nat
  | 0 => 0
  | k + 1 => 85 + 256 * M0 k
def M1 : Nat → Nat
  | 0 => 0
  | k + 1 => 51 + 256 * M1 k
def M2 : Nat → Nat
  | 0 => 0
  | k + 1 => 15 + 256 * M2 k
def p1 (k x : Nat) : Nat := (x / 2 &&& M0 k) + (x &&& M0 k)
def p2 (k x : Nat) : Nat := (x / 4 &&& M1 k) + (x &&& M1 k)
def p3 (k x : Nat) : Nat := (x / 16 + x) &&& M2 k
def f1 (b : Nat) : Nat := (b / 2 &&& 85) + (b &&& 85)
def f2 (b : Nat) : Nat := (b / 4 &&& 51) + (b &&& 51)
def f3 (b : Nat) : Nat := (b / 16 + b) &&& 15
theorem c1 : ∀ (b : Fin 256) (c : Fin 2), (b.val / 2 + 128 * c.val) &&& 85 = b.val / 2 &&& 85 := by decide +kernel
theorem c2 : ∀ (b : Fin 256) (c : Fin 4), (b.val / 4 + 64 * c.val) &&& 51 = b.val / 4 &&& 51 := by decide +kernel
theorem c3 : ∀ (b : Fin 256) (c : Fin 5), (f2 (f1 b.val) / 16 + f2 (f1 b.val) + 16 * c.val) &&& 15 = f3 (f2 (f1 b.val)) := by decide +kernel
theorem c4 : ∀ b : Fin 256, f1 b.val < 256 ∧ f2 (f1 b.val) < 69 ∧ f2 (f1 b.val) % 16 ≤ 4 ∧ f3 (f2 (f1 b.val)) ≤ 8 := by decide +kernel
theorem p1_step (k b q : Nat) (hb : b < 256) : p1 (k + 1) (b + 256 * q) = f1 b + 256 * p1 k q := by
  unfold p1 f1
  have e : (b + 256 * q) / 2 = (b / 2 + 128 * (q % 2)) + 256 * (q / 2) := by omega
  rw [e, M0, land_split _ 85 _ _ (by omega) (by omega), land_split b 85 q _ hb (by omega)]
  have h := c1 ⟨b, hb⟩ ⟨q % 2, by omega⟩
  simp only at h
  rw [h]
  generalize b / 2 &&& 85 = u1
  generalize b &&& 85 = u2
  generalize q / 2 &&& M0 k = u3
  generalize q &&& M0 k = u4
  omega
theorem p2_step (k b q : Nat) (hb : b < 256) : p2 (k + 1) (b + 256 * q) = f2 b + 256 * p2 k q := by
  unfold p2 f2
  have e : (b + 256 * q) / 4 = (b / 4 + 64 * (q % 4)) + 256 * (q / 4) := by omega
  rw [e, M1, land_split _ 51 _ _ (by omega) (by omega), land_split b 51 q _ hb (by omega)]
  have h := c2 ⟨b, hb⟩ ⟨q % 4, by omega⟩
  simp only at h
  rw [h]
  generalize b / 4 &&& 51 = u1
  generalize b &&& 51 = u2
  generalize q / 4 &&& M1 k = u3
  generalize q &&& M1 k = u4
  omega
theorem p21_step (k x : Nat) : p2 (k + 1) (p1 (k + 1) x) = f2 (f1 (x % 256)) + 256 * p2 k (p1 k (x / 256)) := by
  have hb : x % 256 < 256 := Nat.mod_lt _ (by omega)
  conv => lhs; rw [show x = x % 256 + 256 * (x / 256) by omega]
  rw [p1_step k _ _ hb, p2_step k _ _ (c4 ⟨_, hb⟩).1]
theorem p21_low (k x : Nat) : p2 k (p1 k x) % 16 ≤ 4 := by
  cases k with
  | zero => simp [p2, M1]
  | succ k =>
    have hb : x % 256 < 256 := Nat.mod_lt _ (by omega)
    have h := (c4 ⟨x % 256, hb⟩).2.2.1
    rw [p21_step]
    simp only at h
    omega
/-- How many, byte by byte. -/
def G (k x : Nat) : Nat := p3 k (p2 k (p1 k x))
def g8 (b : Nat) : Nat := f3 (f2 (f1 b))
theorem G_step (k x : Nat) : G (k + 1) x = g8 (x % 256) + 256 * G k (x / 256) := by
  have hb : x % 256 < 256 := Nat.mod_lt _ (by omega)
  unfold G g8
  rw [p21_step]
  have hq := p21_low k (x / 256)
  generalize hQ : p2 k (p1 k (x / 256)) = Q at hq ⊢
  have hF := (c4 ⟨x % 256, hb⟩).2.1
  have h3 := c3 ⟨x % 256, hb⟩ ⟨Q % 16, by omega⟩
  simp only at hF h3
  generalize f2 (f1 (x % 256)) = F at hF h3 ⊢
  unfold p3
  have e : (F + 256 * Q) / 16 + (F + 256 * Q) = (F / 16 + F + 16 * (Q % 16)) + 256 * (Q / 16 + Q) := by omega
  rw [e, M2, land_split _ 15 _ _ (by omega) (by omega), h3]
theorem testBit_low (b q i : Nat) (hb : b < 256) : (b + 256 * q).testBit i = if i < 8 then b.testBit i else q.testBit (i - 8) := by
  have e : b + 256 * q = 2 ^ 8 * q + b := by omega
  rw [e, Nat.testBit_two_pow_mul_add q (i := 8) hb]
theorem listTo_low (b q k : Nat) (hb : b < 256) : (listTo (b + 256 * q) (8 + k)).length = (listTo b 8).length + (listTo q k).length := by
  induction k with
  | zero =>
    have : listTo (b + 256 * q) (8 + 0) = listTo b 8 := by
      unfold listTo
      apply List.filter_congr
      intro i hi
      rw [testBit_low b q i hb, if_pos (by simpa using hi)]
    rw [this]; rfl
  | succ k ih =>
    show (listTo (b + 256 * q) ((8 + k) + 1)).length = _
    have e : (b + 256 * q).testBit (8 + k) = q.testBit k := by
      rw [testBit_low b q _ hb, if_neg (by omega), show 8 + k - 8 = k by omega]
    rw [listTo_succ, listTo_succ q, e]
    by_cases h : q.testBit k = true
    · rw [if_pos h, if_pos h, List.length_append, List.length_append, ih]; simp; omega
    · rw [if_neg h, if_neg h, ih]
theorem c5 : ∀ b : Fin 256, g8 b.val = (listTo b.val 8).length := by decide +kernel
theorem listTo_step (x k : Nat) : (listTo x (8 + k)).length = g8 (x % 256) + (listTo (x / 256) k).length := by
  have hb : x % 256 < 256 := Nat.mod_lt _ (by omega)
  conv => lhs; rw [show x = x % 256 + 256 * (x / 256) by omega]
  rw [listTo_low _ _ k hb, ← c5 ⟨_, hb⟩]
theorem g8_le (x : Nat) : g8 (x % 256) ≤ 8 := (c4 ⟨x % 256, Nat.mod_lt _ (by omega)⟩).2.2.2
/-- The whole of it. -/
theorem pop_sum (x : Nat) : ∃ a b c d e f g h : Nat, a ≤ 8 ∧ b ≤ 8 ∧ c ≤ 8 ∧ d ≤ 8 ∧ e ≤ 8 ∧ f ≤ 8 ∧ g ≤ 8 ∧ h ≤ 8 ∧
    G 8 x = a + 256 * (b + 256 * (c + 256 * (d + 256 * (e + 256 * (f + 256 * (g + 256 * h)))))) ∧ (listTo x 64).length = a + b + c + d + e + f + g + h := by
  refine ⟨_, _, _, _, _, _, _, _, g8_le x, g8_le (x / 256), g8_le (x / 256 / 256), g8_le (x / 256 / 256 / 256), g8_le (x / 256 / 256 / 256 / 256), g8_le (x / 256 / 256 / 256 / 256 / 256), g8_le (x / 256 / 256 / 256 / 256 / 256 / 256), g8_le (x / 256 / 256 / 256 / 256 / 256 / 256 / 256), ?_, ?_⟩
  · rw [G_step, G_step, G_step, G_step, G_step, G_step, G_step, G_step]
    have : ∀ y, G 0 y = 0 := fun y => by simp [G, p3, M2]
    rw [this, Nat.mul_zero, Nat.add_zero]
  · rw [listTo_step x 56, listTo_step (x / 256) 48, listTo_step (x / 256 / 256) 40, listTo_step (x / 256 / 256 / 256) 32, listTo_step (x / 256 / 256 / 256 / 256) 24, listTo_step (x / 256 / 256 / 256 / 256 / 256) 16, listTo_step (x / 256 / 256 / 256 / 256 / 256 / 256) 8, listTo_step (x / 256 / 256 / 256 / 256 / 256 / 256 / 256) 0]
    have : ∀ y, (listTo y 0).length = 0 := fun y => rfl
    rw [this]; omega
end Ost
end Go.Proofs.YtlljniaobbbjgaaGreatDoor

namespace Go.Proofs.YtlljniaobbbjgaaGreatDoor
open Go.RowKit
set_option maxHeartbeats 400000 in
theorem digit_yes (b : UInt8) (w : World) (h : Ost.isDig b = true) :
    Calls Tryz.prog 106 #[.int .u8 b.toNat] w fun e w' => e = .returned (.tuple #[.int .i64 (b.toNat - 48), .bool true]) ∧ w' = w := by
  have h1 := ((Ost.isDig_iff b).1 h).1
  have h2 := ((Ost.isDig_iff b).1 h).2
  clear h
  go_enter Tryz.func106, Tryz.ntmps106
  go_wp2
  go_ret2
  exact ⟨rfl, rfl⟩
set_option maxHeartbeats 400000 in
theorem digit_no (b : UInt8) (w : World) (h : Ost.isDig b = false) :
    Calls Tryz.prog 106 #[.int .u8 b.toNat] w fun e w' => e = .returned (.tuple #[.int .i64 0, .bool false]) ∧ w' = w := by
  have h1 := (Ost.isDig_not b).1 h
  clear h
  by_cases h2 : 48 ≤ b.toNat
  · have h3 : 57 < b.toNat := by omega
    clear h1
    go_enter Tryz.func106, Tryz.ntmps106
    go_wp2
    go_ret2
    exact ⟨rfl, rfl⟩
  · clear h1
    go_enter Tryz.func106, Tryz.ntmps106
    go_wp2
    go_ret2
    exact ⟨rfl, rfl⟩
/-- What number.Read answers. -/
def readOut (m : Int) (l : List UInt8) : Value := if Ost.good m l then .tuple #[.int .i64 (Ost.val l), .bool true] else .tuple #[.int .i64 0, .bool false]
theorem readOut_yes {m : Int} {l : List UInt8} (h : Ost.good m l = true) : readOut m l = .tuple #[.int .i64 (Ost.val l), .bool true] := by simp [readOut, h]
theorem readOut_no {m : Int} {l : List UInt8} (h : Ost.good m l = false) : readOut m l = .tuple #[.int .i64 0, .bool false] := by simp [readOut, h]
set_option maxHeartbeats 400000 in
theorem read_any (s : ByteArray) (m : Int) (w : World) (hs : s.size ≤ maxLen) :
    Calls Tryz.prog 119 #[.string s, .int .i64 m] w fun e w' => e = .returned (readOut m s.data.toList) ∧ w' = w := by
  unfold maxLen at hs
  by_cases he : s.size = 0
  · have hem : s.toList.isEmpty = true := by rw [Ost.toList_isEmpty]; simp [he]
    have H : Hid (readOut m s.data.toList = .tuple #[.int .i64 0, .bool false]) := readOut_no (by rw [Ost.not_good_iff]; rintro ⟨⟨h, _⟩, _⟩; exact h (List.eq_nil_of_length_eq_zero (by simpa using he)))
    clear he
    go_enter Tryz.func119, Tryz.ntmps119
    go_wp2_with fail
    go_ret2
    exact ⟨congrArg Ending.returned H.out.symm, rfl⟩
  have hem : s.toList.isEmpty = false := by rw [Ost.toList_isEmpty]; simp [he]
  have he' : 0 < s.size := by omega
  clear he
  by_cases hm : m < (s.size : Int)
  · have H : Hid (readOut m s.data.toList = .tuple #[.int .i64 0, .bool false]) := readOut_no (by rw [Ost.not_good_iff]; rintro ⟨_, h, _⟩; simp at h; omega)
    go_enter Tryz.func119, Tryz.ntmps119
    go_wp2_with fail
    all_goals
      go_ret2
      exact ⟨congrArg Ending.returned H.out.symm, rfl⟩
  have hm' : (s.size : Int) ≤ m := by omega
  by_cases hz : 1 < s.size ∧ s[0].toNat = 48
  · have H : Hid (readOut m s.data.toList = .tuple #[.int .i64 0, .bool false]) := readOut_no (by
      rw [Ost.not_good_iff]; rintro ⟨⟨_, h, _⟩, _⟩; refine h ⟨by simpa using hz.1, ?_⟩; rw [Ost.head_s s he']; exact (Ost.u8_eq _ 48 (by omega)).2 hz.2)
    have h1 : 1 < s.size := hz.1
    have h2 : ((s[0].toNat : Int) == 48) = true := by simp; omega
    clear hz
    go_enter Tryz.func119, Tryz.ntmps119
    go_wp2_with fail
    go_ret2
    exact ⟨congrArg Ending.returned H.out.symm, rfl⟩
  have HZ : Hid (¬ (1 < s.data.toList.length ∧ s.data.toList.headD 0 = 48)) := by
    rintro ⟨a, b⟩
    rw [Ost.head_s s he'] at b
    exact hz ⟨by simpa using a, (Ost.u8_eq _ 48 (by omega)).1 b⟩
  have hz2 : 1 < s.size → ((s[0].toNat : Int) == 48) = false := fun h => by simp; intro h2; exact hz ⟨h, by omega⟩
  clear hz
  by_cases h1 : 1 < s.size
  all_goals
    try have h2 := hz2 h1
    clear hz2
    go_enter Tryz.func119, Tryz.ntmps119
    go_wp2_with fail
    go_loop [6, 30] (fun n i => ∃ k : Nat, k ≤ s.size ∧ i = .int .i64 k ∧ Ost.allDig (s.data.toList.take k) = true ∧ Ost.val (s.data.toList.take k) ≤ Ost.maxI ∧ n = .int .i64 (Ost.val (s.data.toList.take k))) (fun _ i => s.size - (intOf i).toNat)
    case atStart => exact ⟨0, Nat.zero_le _, rfl, rfl, by simp [Ost.val, Ost.maxI], rfl⟩
    case round =>
      obtain ⟨k, hk, rfl, hd, hv, rfl⟩ := hrel
      have hv0 := Ost.val_nonneg _ hd
      have HD : Hid (Ost.allDig (s.data.toList.take k) = true) := hd
      clear hd
      have hv1 : Ost.val (s.data.toList.take k) ≤ 9223372036854775807 := hv
      clear hv
      by_cases hlt : k < s.size
      · have hts := Ost.take_snoc s k hlt
        cases hb : Ost.isDig s[k] with
        | false =>
          have H : Hid (readOut m s.data.toList = .tuple #[.int .i64 0, .bool false]) := readOut_no (Ost.not_good_dig m s k hlt hb)
          clear hts
          go_wp2_with (go_at_call 106; refine (digit_no _ _ hb).mono ?_; rintro e w' ⟨rfl, rfl⟩)
          go_ret2
          exact ⟨congrArg Ending.returned H.out.symm, rfl⟩
        | true =>
          have hb1 := ((Ost.isDig_iff s[k]).1 hb).1
          have hb2 := ((Ost.isDig_iff s[k]).1 hb).2
          have HV : Hid (Ost.val (s.data.toList.take (k + 1)) = Ost.val (s.data.toList.take k) * 10 + ((s[k].toNat : Int) - 48)) := by
            rw [hts, Ost.val_snoc]; rfl
          have HA : Hid (Ost.allDig (s.data.toList.take (k + 1)) = true) := by
            rw [hts, Ost.allDig_snoc, HD.out, hb]; rfl
          clear hts
          by_cases hov : (9223372036854775807 - ((s[k].toNat : Int) - 48)) / 10 < Ost.val (s.data.toList.take k)
          · have H : Hid (readOut m s.data.toList = .tuple #[.int .i64 0, .bool false]) := readOut_no (Ost.not_good_val m s (k + 1) (by
              rw [HV.out]; show (9223372036854775807 : Int) < _; omega))
            go_wp2_with (go_at_call 106; refine (digit_yes _ _ hb).mono ?_; rintro e w' ⟨rfl, rfl⟩)
            go_ret2
            exact ⟨congrArg Ending.returned H.out.symm, rfl⟩
          · have HM : Hid (Ost.val (s.data.toList.take (k + 1)) ≤ Ost.maxI) := by
              rw [HV.out]; show _ ≤ (9223372036854775807 : Int); omega
            go_wp2_with (go_at_call 106; refine (digit_yes _ _ hb).mono ?_; rintro e w' ⟨rfl, rfl⟩)
            go_round
            case rel => exact ⟨k + 1, by omega, by go_num, HA.out, HM.out, by rw [HV.out]⟩
            case measure => simp [intOf]; omega
      · have hke : k = s.size := by omega
        have hfull : s.data.toList.take k = s.data.toList := List.take_of_length_le (by simp; omega)
        have H : Hid (readOut m s.data.toList = .tuple #[.int .i64 (Ost.val (s.data.toList.take k)), .bool true]) := by
          have hg : Ost.good m s.data.toList = true := by
            rw [Ost.good_iff]
            refine ⟨⟨?_, HZ.out, ?_⟩, by simpa using hm', ?_⟩
            · intro h0
              have h3 : s.data.toList.length = 0 := by rw [h0]; rfl
              have h4 : s.data.toList.length = s.size := by simp
              omega
            · have := HD.out; rw [hfull] at this; exact this
            · rw [hfull] at hv1; exact hv1
          have := readOut_yes hg
          unfold Hid; rw [hfull]; exact this
        clear hfull hke
        go_wp2_with fail
        go_ret2
        exact ⟨congrArg Ending.returned H.out.symm, rfl⟩
end Go.Proofs.YtlljniaobbbjgaaGreatDoor

namespace Go.Proofs.YtlljniaobbbjgaaGreatDoor
open Go.RowKit
theorem two (b : Bool) : b = true ∨ b = false := by cases b <;> simp
theorem hideIt {p : Prop} (h : p) : Hid p := h
/-- An error's number as Go's value. -/
def errV (n : Int) : Value := if n = 0 then .nilIface else .iface 80 (.int .i64 n)
theorem below_drewN {B : Nat} {a w : World} (h : Below B a w) (n : Nat) : Below B a (w.drewN n) := ⟨h.os, h.tape, h.output, h.size, h.block⟩
theorem or_step (s n : Nat) (hs : s < 18446744073709551616) (hn : n < 64) : bits BinOp.or IntKind.u64 (s : Int) (IntKind.u64.wrap (2 ^ n)) = ((s ||| 2 ^ n : Nat) : Int) := by
  have hp : 2 ^ n < 18446744073709551616 := Nat.pow_lt_pow_right (a := 2) (by omega) hn
  rw [show (2 ^ n : Int) = ((2 ^ n : Nat) : Int) by simp]
  generalize 2 ^ n = q at hp ⊢
  rw [IntKind.wrap_u64, show (q : Int) % 18446744073709551616 = (q : Int) by omega]
  exact bits_or_u64_nat s q hs hp
theorem or_lt (a b : Nat) (ha : a < 18446744073709551616) (hb : b < 18446744073709551616) : a ||| b < 18446744073709551616 := Nat.or_lt_two_pow (n := 64) ha hb
theorem pow_lt64 (n : Nat) (h : n < 64) : 2 ^ n < 18446744073709551616 := Nat.pow_lt_pow_right (a := 2) (by omega) h
theorem bit_eq (A n : Nat) (hA : A < 18446744073709551616) : (bits BinOp.and IntKind.u64 ((A : Int) / 2 ^ n) 1 == 1) = A.testBit n := by
  have e : ((A : Int) / 2 ^ n) = ((A / 2 ^ n : Nat) : Int) := by simp
  have hlt : A / 2 ^ n < 18446744073709551616 := Nat.lt_of_le_of_lt (Nat.div_le_self _ _) hA
  rw [e, show (1 : Int) = ((1 : Nat) : Int) from rfl, bits_and_u64_nat _ _ hlt (by omega), Nat.testBit_eq_decide_div_mod_eq, Nat.and_one_is_mod]
  rw [Bool.eq_iff_iff]; simp; omega
end Go.Proofs.YtlljniaobbbjgaaGreatDoor

namespace Go.Proofs.YtlljniaobbbjgaaGreatDoor
namespace Qos
open Dvs (first nameMay allTo)
/-- A need of devices. -/
structure Nd where
  kind : ByteArray
  many : Int
def nd0 : Nd := ⟨ByteArray.empty, 0⟩
/-- A container: what it asks for, what it may have. -/
structure Ct where
  nm : ByteArray
  am : Int
  ab : Int
  cm : Int
  cb : Int
  ds : List Nd
def ct0 : Ct := ⟨ByteArray.empty, 0, 0, 0, 0, []⟩
/-- A pod. -/
structure Pd where
  nm : ByteArray
  pr : Int
  cs : List Ct
def pd0 : Pd := ⟨ByteArray.empty, 0, []⟩
instance : Inhabited Nd := ⟨nd0⟩
instance : Inhabited Ct := ⟨ct0⟩
instance : Inhabited Pd := ⟨pd0⟩
def nd (l : List Nd) (k : Nat) : Nd := l.getD k nd0
def ct (l : List Ct) (k : Nat) : Ct := l.getD k ct0
def pd (l : List Pd) (k : Nat) : Pd := l.getD k pd0
/-- Is one ahead of another, or like it, as bytes? -/
def leS (a b : ByteArray) : Bool := Op.bytesLess a.toList b.toList || a.toList == b.toList
def needF (ds : List Nd) (j : Nat) : Nat :=
  if nameMay (nd ds j).kind = false ∨ (0 < j ∧ leS (nd ds j).kind (nd ds (j - 1)).kind = true) then 3
  else if (nd ds j).many < 1 ∨ 16 < (nd ds j).many then 1 else 0
def amtOk (m b : Int) : Bool := decide (0 ≤ m) && decide (m ≤ 1000000) && decide (0 ≤ b) && decide (b ≤ 1125899906842624)
def over (a c : Int) : Bool := decide (c ≠ 0) && decide (c < a)
def twice (cs : List Ct) (k : Nat) : Bool := (cs.take k).any fun o => decide (o.nm = (ct cs k).nm)
def contF (cs : List Ct) (k : Nat) : Nat :=
  if nameMay (ct cs k).nm = false then 3
  else if twice cs k = true then 5
  else if amtOk (ct cs k).am (ct cs k).ab = false ∨ amtOk (ct cs k).cm (ct cs k).cb = false then 1
  else if over (ct cs k).am (ct cs k).cm = true ∨ over (ct cs k).ab (ct cs k).cb = true then 3
  else if 3 < (ct cs k).ds.length then 2
  else first (needF (ct cs k).ds) (ct cs k).ds.length
def podF (p : Pd) : Nat :=
  if nameMay p.nm = false then 3
  else if p.pr < 0 ∨ 1000 < p.pr then 1
  else if p.cs.length < 1 ∨ 3 < p.cs.length then 2
  else first (contF p.cs) p.cs.length
def quiet (c : Ct) : Bool := decide (c.am = 0) && decide (c.ab = 0) && decide (c.cm = 0) && decide (c.cb = 0)
def sure (c : Ct) : Bool := decide (c.am = c.cm) && decide (c.ab = c.cb) && decide (c.am ≠ 0) && decide (c.ab ≠ 0)
def silent (cs : List Ct) (n : Nat) : Bool := allTo (fun k => quiet (ct cs k)) n
def certain (cs : List Ct) (n : Nat) : Bool := allTo (fun k => sure (ct cs k)) n
def classOf (cs : List Ct) : Int := if silent cs cs.length = true then 1 else if certain cs cs.length = true then 3 else 2
def sumTo (f : Nat → Int) : Nat → Int
  | 0 => 0
  | k + 1 => sumTo f k + f k
def sumM (cs : List Ct) (n : Nat) : Int := sumTo (fun k => (ct cs k).am) n
def sumB (cs : List Ct) (n : Nat) : Int := sumTo (fun k => (ct cs k).ab) n
def ownOf (cs : List Ct) (m : Int) : Int := if classOf cs = 3 ∧ m % 1000 = 0 then m / 1000 else 0
/-- What they ask for, and may have, is such as there may be. -/
def Mild (cs : List Ct) : Prop := cs.length ≤ 3 ∧ ∀ k, k < cs.length → (0 ≤ (ct cs k).am ∧ (ct cs k).am ≤ 1000000) ∧ (0 ≤ (ct cs k).ab ∧ (ct cs k).ab ≤ 1125899906842624) ∧ (0 ≤ (ct cs k).cm ∧ (ct cs k).cm ≤ 1000000) ∧ (0 ≤ (ct cs k).cb ∧ (ct cs k).cb ≤ 1125899906842624) ∧ ((ct cs k).cm ≠ 0 → (ct cs k).am ≤ (ct cs k).cm) ∧ ((ct cs k).cb ≠ 0 → (ct cs k).ab ≤ (ct cs k).cb)
theorem amt_in {m b : Int} (h : amtOk m b = true) : (0 ≤ m ∧ m ≤ 1000000) ∧ (0 ≤ b ∧ b ≤ 1125899906842624) := by
  simp [amtOk] at h; omega
theorem cont_mild {cs : List Ct} {k : Nat} (h : contF cs k = 0) : amtOk (ct cs k).am (ct cs k).ab = true ∧ amtOk (ct cs k).cm (ct cs k).cb = true ∧ over (ct cs k).am (ct cs k).cm = false ∧ over (ct cs k).ab (ct cs k).cb = false := by
  unfold contF at h
  split at h
  · cases h
  split at h
  · cases h
  split at h
  · cases h
  split at h
  · cases h
  · rename_i h1 h2
    rw [not_or] at h1 h2
    exact ⟨by simpa using h1.1, by simpa using h1.2, by simpa using h2.1, by simpa using h2.2⟩
theorem pod_len {p : Pd} (h : podF p = 0) : nameMay p.nm = true ∧ (0 ≤ p.pr ∧ p.pr ≤ 1000) ∧ (1 ≤ p.cs.length ∧ p.cs.length ≤ 3) ∧ first (contF p.cs) p.cs.length = 0 := by
  unfold podF at h
  split at h
  · cases h
  split at h
  · cases h
  split at h
  · cases h
  · rename_i h1 h2 h3
    exact ⟨by simpa using h1, by omega, by omega, h⟩
/-- The kind ahead of a place. -/
def lastOf (ds : List Nd) (k : Nat) : ByteArray := if k = 0 then ByteArray.empty else (nd ds (k - 1)).kind
theorem last_succ (ds : List Nd) (k : Nat) : lastOf ds (k + 1) = (nd ds k).kind := by simp [lastOf]
theorem leS_empty {s : ByteArray} (h : nameMay s = true) : leS s ByteArray.empty = false := by
  unfold nameMay at h
  have h0 : 0 < s.size := by
    simp at h; omega
  have h1 : s.toList ≠ [] := by
    intro e
    rw [ByteArray.toList_eq] at e
    have : s.data.toList.length = 0 := by rw [e]; rfl
    rw [Array.length_toList] at this
    have h2 : s.data.size = s.size := rfl
    omega
  unfold leS
  rw [show ByteArray.empty.toList = [] by rw [ByteArray.toList_eq]; rfl]
  cases hs : s.toList with
  | nil => exact absurd hs h1
  | cons a l => simp [Op.bytesLess]
theorem need_name {ds : List Nd} {k : Nat} (h : nameMay (nd ds k).kind = false) : needF ds k = 3 := by unfold needF; rw [if_pos (.inl h)]
theorem need_le {ds : List Nd} {k : Nat} (h : nameMay (nd ds k).kind = true) (h2 : leS (nd ds k).kind (lastOf ds k) = true) : needF ds k = 3 := by
  unfold needF
  by_cases h0 : k = 0
  · subst h0
    rw [show lastOf ds 0 = ByteArray.empty from rfl, leS_empty h] at h2
    cases h2
  · rw [lastOf, if_neg h0] at h2
    rw [if_pos (.inr ⟨by omega, h2⟩)]
theorem need_many {ds : List Nd} {k : Nat} (h : nameMay (nd ds k).kind = true) (h2 : leS (nd ds k).kind (lastOf ds k) = false) : needF ds k = if (nd ds k).many < 1 ∨ 16 < (nd ds k).many then 1 else 0 := by
  unfold needF
  rw [if_neg]
  rintro (h3 | ⟨h3, h4⟩)
  · rw [h] at h3; cases h3
  · rw [lastOf, if_neg (by omega)] at h2
    rw [h2] at h4; cases h4
end Qos
end Go.Proofs.YtlljniaobbbjgaaGreatDoor

