/- Math, DMath, QMath, VMath, Math2, Num, QMath2, SMath, Math3, SetW, Amt, SPop -/
import Derived.WalkKit
import Derived.Laws.Bits64b
import Derived.Lib.Strings
import Derived.Lib.Index
import Derived.Lib.Small
import Derived.Lib.CutLaws
import Derived.Lib.ItoaNum
import Derived.Test.YtlljniaobbbjgaaGreatDoorRows
import Derived.WalkSpells
import Derived.WalkLawsBesides
import Derived.Lib.Join
import Derived.Test.YtlljniaobbbjgaaGreatDoorShelf
namespace Go.Proofs.YtlljniaobbbjgaaGreatDoor
namespace Ost

def isDig (b : UInt8) : Bool := decide (48 ≤ b.toNat ∧ b.toNat ≤ 57)
def step (n : Int) (b : UInt8) : Int := n * 10 + ((b.toNat : Int) - 48)
def val (l : List UInt8) : Int := l.foldl step 0
def allDig (l : List UInt8) : Bool := l.all isDig
def maxI : Int := 9223372036854775807
/-- A number as it is written: digits, no noughts ahead. -/
def isNum (l : List UInt8) : Bool := !l.isEmpty && !(decide (1 < l.length) && (l.headD 0 == 48)) && allDig l
/-- What number.Read takes. -/
def good (m : Int) (l : List UInt8) : Bool := isNum l && decide ((l.length : Int) ≤ m) && decide (val l ≤ maxI)

theorem isDig_iff (b : UInt8) : isDig b = true ↔ 48 ≤ b.toNat ∧ b.toNat ≤ 57 := by simp [isDig]
theorem isDig_not (b : UInt8) : isDig b = false ↔ ¬ (48 ≤ b.toNat ∧ b.toNat ≤ 57) := by simp [isDig]
theorem val_nil : val [] = 0 := rfl
theorem val_snoc (l : List UInt8) (b : UInt8) : val (l ++ [b]) = step (val l) b := by simp [val]
theorem allDig_snoc (l : List UInt8) (b : UInt8) : allDig (l ++ [b]) = (allDig l && isDig b) := by simp [allDig]
theorem allDig_append (l r : List UInt8) : allDig (l ++ r) = (allDig l && allDig r) := by simp [allDig]
theorem foldl_step_mono (l : List UInt8) (h : allDig l = true) : ∀ n : Int, 0 ≤ n → n ≤ l.foldl step n := by
  induction l with
  | nil => intro n _; simp
  | cons b r ih =>
    intro n hn
    simp only [allDig, List.all_cons, Bool.and_eq_true] at h
    have hb := (isDig_iff b).1 h.1
    have h1 : n ≤ step n b := by unfold step; omega
    exact Int.le_trans h1 (ih h.2 _ (by omega))
theorem val_nonneg (l : List UInt8) (h : allDig l = true) : 0 ≤ val l := foldl_step_mono l h 0 (Int.le_refl _)
theorem val_append (l r : List UInt8) : val (l ++ r) = r.foldl step (val l) := by simp [val]
theorem val_le_append (l r : List UInt8) (hl : allDig l = true) (h : allDig r = true) : val l ≤ val (l ++ r) := by
  rw [val_append]; exact foldl_step_mono r h _ (val_nonneg l hl)
theorem take_snoc (s : ByteArray) (k : Nat) (h : k < s.size) : s.data.toList.take (k + 1) = s.data.toList.take k ++ [s[k]] := by
  rw [List.take_succ_eq_append_getElem (by simpa using h)]; rfl
theorem allDig_take (l : List UInt8) (k : Nat) (h : allDig l = true) : allDig (l.take k) = true := by
  simp only [allDig, List.all_eq_true] at h ⊢
  exact fun x hx => h x (List.mem_of_mem_take hx)
theorem val_take_le (l : List UInt8) (k : Nat) (h : allDig l = true) : val (l.take k) ≤ val l := by
  have e := List.take_append_drop k l
  have hd : allDig (l.drop k) = true := by
    simp only [allDig, List.all_eq_true] at h ⊢
    exact fun x hx => h x (List.mem_of_mem_drop hx)
  have := val_le_append (l.take k) (l.drop k) (allDig_take l k h) hd
  rw [e] at this; exact this
theorem allDig_not_of_take (l : List UInt8) (k : Nat) (h : allDig (l.take k) = false) : allDig l = false := by
  cases hh : allDig l with
  | false => rfl
  | true => rw [allDig_take l k hh] at h; cases h
theorem good_iff (m : Int) (l : List UInt8) : good m l = true ↔ (l ≠ [] ∧ ¬ (1 < l.length ∧ l.headD 0 = 48) ∧ allDig l = true) ∧ (l.length : Int) ≤ m ∧ val l ≤ maxI := by
  simp only [good, isNum, Bool.and_eq_true, Bool.not_eq_true', decide_eq_true_eq, List.isEmpty_eq_false_iff, Bool.and_eq_false_iff, decide_eq_false_iff_not, beq_eq_false_iff_ne]
  constructor
  · rintro ⟨⟨⟨⟨h1, h2⟩, h3⟩, h4⟩, h5⟩
    exact ⟨⟨h1, fun ⟨a, b⟩ => by rcases h2 with h | h; exact h a; exact h b, h3⟩, h4, h5⟩
  · rintro ⟨⟨h1, h2, h3⟩, h4, h5⟩
    refine ⟨⟨⟨⟨h1, ?_⟩, h3⟩, h4⟩, h5⟩
    by_cases ha : 1 < l.length
    · exact .inr fun hb => h2 ⟨ha, hb⟩
    · exact .inl ha
theorem isNum_iff (l : List UInt8) : isNum l = true ↔ (l ≠ [] ∧ ¬ (1 < l.length ∧ l.headD 0 = 48) ∧ allDig l = true) := by
  simp only [isNum, Bool.and_eq_true, Bool.not_eq_true', List.isEmpty_eq_false_iff, Bool.and_eq_false_iff, decide_eq_false_iff_not, beq_eq_false_iff_ne]
  constructor
  · rintro ⟨⟨h1, h2⟩, h3⟩
    exact ⟨h1, fun ⟨a, b⟩ => by rcases h2 with h | h; exact h a; exact h b, h3⟩
  · rintro ⟨h1, h2, h3⟩
    refine ⟨⟨h1, ?_⟩, h3⟩
    by_cases ha : 1 < l.length
    · exact .inr fun hb => h2 ⟨ha, hb⟩
    · exact .inl ha
theorem not_good_iff (m : Int) (l : List UInt8) : good m l = false ↔ ¬ ((l ≠ [] ∧ ¬ (1 < l.length ∧ l.headD 0 = 48) ∧ allDig l = true) ∧ (l.length : Int) ≤ m ∧ val l ≤ maxI) := by
  rw [← good_iff, Bool.not_eq_true]
theorem head_s (s : ByteArray) (h : 0 < s.size) : s.data.toList.headD 0 = s[0] := by
  rcases s with ⟨⟨l⟩⟩
  cases l with
  | nil => exact absurd h (by simp [ByteArray.size])
  | cons a r => rfl
theorem u8_eq (b : UInt8) (n : Nat) (hn : n < 256) : b = UInt8.ofNat n ↔ b.toNat = n := by
  constructor
  · rintro rfl; simp; omega
  · intro h; rw [← h]; simp
theorem allDig_get (l : List UInt8) (k : Nat) (h : k < l.length) (hd : isDig l[k] = false) : allDig l = false := by
  cases hh : allDig l with
  | false => rfl
  | true =>
    have := List.all_eq_true.1 hh _ (List.getElem_mem h)
    rw [this] at hd; cases hd
theorem not_good_dig (m : Int) (s : ByteArray) (k : Nat) (h : k < s.size) (hd : isDig s[k] = false) : good m s.data.toList = false := by
  rw [not_good_iff]
  rintro ⟨⟨_, _, h3⟩, _⟩
  rw [allDig_get s.data.toList k (by simpa using h) hd] at h3
  cases h3
theorem not_good_val (m : Int) (s : ByteArray) (k : Nat) (h : maxI < val (s.data.toList.take k)) : good m s.data.toList = false := by
  rw [not_good_iff]
  rintro ⟨⟨_, _, h3⟩, _, h5⟩
  have := val_take_le s.data.toList k h3
  omega
theorem toList_isEmpty (s : ByteArray) : s.toList.isEmpty = decide (s.size = 0) := by
  rw [ByteArray.toList_eq]
  rcases s with ⟨⟨l⟩⟩
  cases l <;> simp [ByteArray.size]
end Ost
end Go.Proofs.YtlljniaobbbjgaaGreatDoor
namespace Go.Proofs.YtlljniaobbbjgaaGreatDoor
namespace Dvs
/-- A device. -/
structure Dv where
  kind : ByteArray
  node : Int
  sick : Bool
def dv0 : Dv := ⟨ByteArray.empty, 0, false⟩
instance : Inhabited Dv := ⟨dv0⟩
/-- The one of a number. -/
def dv (ds : List Dv) (k : Nat) : Dv := ds.getD k dv0
/-- A list's number at a place. -/
def nth (l : List Int) (k : Nat) : Int := l.getD k 0
theorem take_nth {l : List Int} {k : Nat} (h : k < l.length) : l.take (k + 1) = l.take k ++ [nth l k] := by
  rw [List.take_add_one, nth, List.getD_eq_getElem?_getD, List.getElem?_eq_getElem h]; rfl
/-- Those below a bound that are so. -/
def sel (p : Nat → Bool) (n : Nat) : List Nat := (List.range n).filter p
theorem sel_zero (p : Nat → Bool) : sel p 0 = [] := rfl
theorem sel_yes {p : Nat → Bool} {n : Nat} (h : p n = true) : sel p (n + 1) = sel p n ++ [n] := by simp [sel, List.range_succ, List.filter_append, h]
theorem sel_no {p : Nat → Bool} {n : Nat} (h : p n = false) : sel p (n + 1) = sel p n := by simp [sel, List.range_succ, List.filter_append, h]
theorem sel_mem {p : Nat → Bool} {n j : Nat} : j ∈ sel p n ↔ j < n ∧ p j = true := by simp [sel]
theorem sel_nodup (p : Nat → Bool) (n : Nat) : (sel p n).Nodup := List.Pairwise.filter _ (by simpa [List.Nodup] using List.nodup_range (n := n))
theorem sel_rising (p : Nat → Bool) (n : Nat) : (sel p n).Pairwise (· < ·) := List.Pairwise.filter _ List.pairwise_lt_range
theorem sel_le (p : Nat → Bool) (n : Nat) : (sel p n).length ≤ n := by simpa [sel] using List.length_filter_le p (List.range n)
theorem sel_congr {p q : Nat → Bool} {n : Nat} (h : ∀ j, j < n → p j = q j) : sel p n = sel q n := by
  unfold sel
  exact List.filter_congr (fun j hj => h j (List.mem_range.1 hj))
/-- Rising numbers below sixteen, those of a list. -/
def srt (l : List Nat) : List Nat := sel (fun j => decide (j ∈ l)) 16
/-- The first ones of a list, when one comes behind it. -/
theorem snoc_take {l : List Nat} {many i : Nat} (h : (l.take many).length < many) : (l ++ [i]).take many = l.take many ++ [i] := by
  rw [List.length_take] at h
  rw [List.take_append, List.take_of_length_le (l := [i]) (by simp; omega)]
theorem full_take {l x : List Nat} {many : Nat} (h : many ≤ (l.take many).length) : (l ++ x).take many = l.take many := by
  rw [List.length_take] at h
  rw [List.take_append, show many - l.length = 0 by omega]; simp
theorem all_take {l : List Nat} {many : Nat} (h : (l.take many).length < many) : l.take many = l := by
  rw [List.length_take] at h
  exact List.take_of_length_le (by omega)
/-- Those that are used, when some more are. -/
def usedBy (us : Nat → Bool) (l : List Nat) (j : Nat) : Bool := us j || decide (j ∈ l)
theorem usedBy_nil (us : Nat → Bool) : usedBy us [] = us := by funext j; simp [usedBy]
theorem usedBy_snoc (us : Nat → Bool) (l : List Nat) (i j : Nat) : usedBy us (l ++ [i]) j = (usedBy us l j || decide (j = i)) := by
  unfold usedBy
  by_cases h1 : j ∈ l <;> by_cases h2 : j = i <;> simp [h1, h2]
/-- May it be taken: of that kind, not sick, not used? -/
def fits (ds : List Dv) (us : Nat → Bool) (kind : ByteArray) (k : Nat) : Bool := decide ((dv ds k).kind = kind) && !(dv ds k).sick && !us k
/-- Does it lie on nodes? -/
def near (ds : List Dv) (m : Nat) (k : Nat) : Bool := m.testBit (dv ds k).node.toNat
def nearP (ds : List Dv) (us : Nat → Bool) (kind : ByteArray) (m : Nat) (k : Nat) : Bool := fits ds us kind k && near ds m k
def farP (ds : List Dv) (us : Nat → Bool) (kind : ByteArray) (m : Nat) (k : Nat) : Bool := fits ds us kind k && !near ds m k
/-- All that may be taken, those on the nodes first. -/
def ord (ds : List Dv) (us : Nat → Bool) (kind : ByteArray) (m : Nat) : List Nat := sel (nearP ds us kind m) ds.length ++ sel (farP ds us kind m) ds.length
def took (ds : List Dv) (us : Nat → Bool) (kind : ByteArray) (m many : Nat) : List Nat := (ord ds us kind m).take many
theorem parts_len (f g : Nat → Bool) (n : Nat) : (sel (fun k => f k && g k) n).length + (sel (fun k => f k && !g k) n).length = (sel f n).length := by
  induction n with
  | zero => rfl
  | succ n ih =>
    cases hf : f n <;> cases hg : g n
    · rw [sel_no (by simp [hf]), sel_no (by simp [hf]), sel_no hf]; exact ih
    · rw [sel_no (by simp [hf]), sel_no (by simp [hf]), sel_no hf]; exact ih
    · rw [sel_no (by simp [hg]), sel_yes (by simp [hf, hg]), sel_yes hf]; simp; omega
    · rw [sel_yes (by simp [hf, hg]), sel_no (by simp [hg]), sel_yes hf]; simp; omega
theorem ord_len (ds : List Dv) (us : Nat → Bool) (kind : ByteArray) (m : Nat) : (ord ds us kind m).length = (sel (fits ds us kind) ds.length).length := by
  unfold ord
  rw [List.length_append]
  exact parts_len (fits ds us kind) (near ds m) ds.length
theorem ord_mem {ds : List Dv} {us : Nat → Bool} {kind : ByteArray} {m j : Nat} : j ∈ ord ds us kind m ↔ j < ds.length ∧ fits ds us kind j = true := by
  unfold ord nearP farP
  rw [List.mem_append, sel_mem, sel_mem]
  cases near ds m j <;> simp
theorem ord_nodup (ds : List Dv) (us : Nat → Bool) (kind : ByteArray) (m : Nat) : (ord ds us kind m).Nodup := by
  unfold ord
  rw [List.nodup_append]
  refine ⟨sel_nodup _ _, sel_nodup _ _, ?_⟩
  intro a ha b hb e
  subst e
  rw [sel_mem] at ha hb
  unfold nearP farP at *
  cases hn : near ds m a <;> simp [hn] at ha hb
theorem took_mem {ds : List Dv} {us : Nat → Bool} {kind : ByteArray} {m many j : Nat} (h : j ∈ took ds us kind m many) : j < ds.length ∧ fits ds us kind j = true := ord_mem.1 (List.mem_of_mem_take h)
theorem took_nodup (ds : List Dv) (us : Nat → Bool) (kind : ByteArray) (m many : Nat) : (took ds us kind m many).Nodup := List.Pairwise.sublist (List.take_sublist _ _) (ord_nodup ds us kind m)
theorem srt_mem {l : List Nat} (h16 : ∀ j ∈ l, j < 16) {j : Nat} : j ∈ srt l ↔ j ∈ l := by
  unfold srt
  rw [sel_mem]
  constructor
  · intro ⟨_, h⟩; simpa using h
  · intro h; exact ⟨h16 j h, by simpa using h⟩
theorem srt_perm {l : List Nat} (h16 : ∀ j ∈ l, j < 16) (hn : l.Nodup) : (srt l).Perm l := by
  refine (List.perm_ext_iff_of_nodup (sel_nodup _ _) hn).2 fun j => ?_
  exact srt_mem h16
theorem srt_len {l : List Nat} (h16 : ∀ j ∈ l, j < 16) (hn : l.Nodup) : (srt l).length = l.length := (srt_perm h16 hn).length_eq
theorem rise_eq {l k : List Int} (hp : l.Perm k) (hl : l.Pairwise (· ≤ ·)) (hk : k.Pairwise (· ≤ ·)) : l = k :=
  hp.eq_of_pairwise (fun _ _ _ _ h1 h2 => Int.le_antisymm h1 h2) hl hk
theorem sorted_srt {l : List Nat} (h16 : ∀ j ∈ l, j < 16) (hn : l.Nodup) : (l.map (fun j : Nat => (j : Int))).mergeSort (fun x y => decide (x ≤ y)) = (srt l).map (fun j : Nat => (j : Int)) := by
  refine rise_eq ?_ ?_ ?_
  · exact (List.mergeSort_perm _ _).trans ((srt_perm h16 hn).map _).symm
  · have h := List.pairwise_mergeSort (le := fun x y : Int => decide (x ≤ y)) (fun a b c h1 h2 => by simp at *; omega) (fun a b => by simp; omega) (l.map (fun j : Nat => (j : Int)))
    exact h.imp (fun {a b} hab => by simpa using hab)
  · rw [List.pairwise_map]
    exact (sel_rising _ _).imp (fun {a b} hab => by omega)
/-- The first fault of some. -/
def first (f : Nat → Nat) : Nat → Nat
  | 0 => 0
  | k + 1 => if first f k = 0 then f k else first f k
theorem first_zero {f : Nat → Nat} {k : Nat} (h : first f k = 0) (h2 : f k = 0) : first f (k + 1) = 0 := by rw [first, if_pos h, h2]
theorem first_stay {f : Nat → Nat} {k : Nat} (h : first f k ≠ 0) (j : Nat) : first f (k + j) = first f k := by
  induction j with
  | zero => rfl
  | succ j ih => rw [← Nat.add_assoc, first, if_neg (by rw [ih]; exact h), ih]
theorem first_hit {f : Nat → Nat} {k n : Nat} (h : first f k = 0) (h2 : f k ≠ 0) (hk : k < n) : first f n = f k := by
  have e : first f (k + 1) = f k := by rw [first, if_pos h]
  have := first_stay (f := f) (k := k + 1) (by rw [e]; exact h2) (n - (k + 1))
  rw [show k + 1 + (n - (k + 1)) = n by omega] at this
  rw [this, e]
theorem first_all {f : Nat → Nat} {n : Nat} (h : first f n = 0) : ∀ k, k < n → f k = 0 := by
  induction n with
  | zero => intro k hk; omega
  | succ n ih =>
    rw [first] at h
    split at h
    · rename_i h0
      intro k hk
      by_cases e : k = n
      · subst e; exact h
      · exact ih h0 k (by omega)
    · rename_i h0; exact absurd h h0
theorem first_none {f : Nat → Nat} {n : Nat} (h : ∀ k, k < n → f k = 0) : first f n = 0 := by
  induction n with
  | zero => rfl
  | succ n ih => exact first_zero (ih (fun k hk => h k (by omega))) (h n (by omega))
theorem first_congr {f g : Nat → Nat} {n : Nat} (h : ∀ k, k < n → f k = g k) : first f n = first g n := by
  induction n with
  | zero => rfl
  | succ n ih => rw [first, first, ih (fun k hk => h k (by omega)), h n (by omega)]
/-- What is wrong with the k-th of those that are claimed. -/
def clF (n : Nat) (us : Nat → Bool) (l : List Int) (k : Nat) : Nat :=
  if nth l k < 0 ∨ (n : Int) ≤ nth l k then 1 else if (us (nth l k).toNat || decide (nth l k ∈ l.take k)) = true then 5 else 0
def gvF (n : Nat) (us : Nat → Bool) (l : List Int) (k : Nat) : Nat :=
  if nth l k < 0 ∨ (n : Int) ≤ nth l k then 1 else if us (nth l k).toNat = true then 0 else 6
def claimed (us : Nat → Bool) (l : List Int) (j : Nat) : Bool := us j || decide ((j : Int) ∈ l)
def given (us : Nat → Bool) (l : List Int) (j : Nat) : Bool := us j && !decide ((j : Int) ∈ l)
theorem claimed_nil (us : Nat → Bool) : claimed us [] = us := by funext j; simp [claimed]
theorem given_nil (us : Nat → Bool) : given us [] = us := by funext j; simp [given]
theorem claimed_snoc (us : Nat → Bool) (l : List Int) (x : Int) (h : 0 ≤ x) (j : Nat) : claimed us (l ++ [x]) j = (claimed us l j || decide (j = x.toNat)) := by
  unfold claimed
  have e : decide ((j : Int) ∈ l ++ [x]) = (decide ((j : Int) ∈ l) || decide (j = x.toNat)) := by
    rw [← Bool.decide_or]
    apply decide_eq_decide.2
    have e2 : ((j : Int) = x) ↔ (j = x.toNat) := by omega
    rw [List.mem_append, List.mem_singleton, e2]
  rw [e, Bool.or_assoc]
theorem given_snoc (us : Nat → Bool) (l : List Int) (x : Int) (h : 0 ≤ x) (j : Nat) : given us (l ++ [x]) j = (given us l j && !decide (j = x.toNat)) := by
  unfold given
  have e : decide ((j : Int) ∈ l ++ [x]) = (decide ((j : Int) ∈ l) || decide (j = x.toNat)) := by
    rw [← Bool.decide_or]
    apply decide_eq_decide.2
    have e2 : ((j : Int) = x) ↔ (j = x.toNat) := by omega
    rw [List.mem_append, List.mem_singleton, e2]
  rw [e, Bool.not_or, Bool.and_assoc]
/-- Is it a letter; a digit? -/
def isLet (b : UInt8) : Bool := decide (97 ≤ b.toNat) && decide (b.toNat ≤ 122)
def isNum (b : UInt8) : Bool := decide (48 ≤ b.toNat ∧ b.toNat ≤ 57)
def okB (s : ByteArray) (i : Nat) : Bool := isLet (s.data.toList.getD i 0) || (isNum (s.data.toList.getD i 0) && decide (0 < i))
theorem byte_at (s : ByteArray) (k : Nat) (h : k < s.size) : s.data.toList.getD k 0 = s[k] := by
  have h2 : k < s.data.size := h
  rw [List.getD_eq_getElem?_getD, Array.getElem?_toList, Array.getElem?_eq_getElem h2]
  rfl
theorem okB_at (s : ByteArray) (k : Nat) (h : k < s.size) : okB s k = (isLet s[k] || (isNum s[k] && decide (0 < k))) := by rw [okB, byte_at s k h]
/-- All of the first ones. -/
def allTo (f : Nat → Bool) : Nat → Bool
  | 0 => true
  | k + 1 => allTo f k && f k
theorem allTo_yes {f : Nat → Bool} {k : Nat} (h : allTo f k = true) (h2 : f k = true) : allTo f (k + 1) = true := by rw [allTo, h, h2]; rfl
theorem allTo_no {f : Nat → Bool} {k n : Nat} (h2 : f k = false) (hk : k < n) : allTo f n = false := by
  induction n with
  | zero => omega
  | succ n ih =>
    rw [allTo]
    by_cases e : k = n
    · subst e; rw [h2, Bool.and_false]
    · rw [ih (by omega), Bool.false_and]
def nameMay (s : ByteArray) : Bool := decide (0 < s.size) && decide (s.size ≤ 8) && allTo (okB s) s.size
theorem nameMay_none {s : ByteArray} (h : s.size = 0) : nameMay s = false := by simp [nameMay, h]
theorem nameMay_long {s : ByteArray} (h : 8 < s.size) : nameMay s = false := by simp [nameMay]; omega
theorem nameMay_all {s : ByteArray} (h0 : 0 < s.size) (h8 : s.size ≤ 8) : nameMay s = allTo (okB s) s.size := by rw [nameMay, decide_eq_true h0, decide_eq_true h8]; rfl
/-- What is wrong with the k-th device. -/
def newF (ds : List Dv) (k : Nat) : Nat := if nameMay (dv ds k).kind = false then 3 else if (dv ds k).node < 0 ∨ 3 < (dv ds k).node then 1 else 0
def fault (ds : List Dv) : Nat := if 16 < ds.length then 2 else first (newF ds) ds.length
/-- Their nodes are such as there may be. -/
def Nodes (ds : List Dv) : Prop := ds.length ≤ 16 ∧ ∀ k, k < ds.length → 0 ≤ (dv ds k).node ∧ (dv ds k).node ≤ 3
theorem fault_nodes {ds : List Dv} (h : fault ds = 0) : Nodes ds := by
  unfold fault at h
  split at h
  · cases h
  · refine ⟨by omega, fun k hk => ?_⟩
    have := first_all h k hk
    unfold newF at this
    split at this
    · cases this
    · split at this
      · cases this
      · omega
/-- So many on a node. -/
def cn (p : Nat → Bool) (ds : List Dv) (x n : Nat) : Nat := (sel (fun j => p j && decide ((dv ds j).node = (x : Int))) n).length
theorem cn_le (p : Nat → Bool) (ds : List Dv) (x n : Nat) : cn p ds x n ≤ n := sel_le _ _
theorem cn_no {p : Nat → Bool} {ds : List Dv} {n : Nat} (h : p n = false) (x : Nat) : cn p ds x (n + 1) = cn p ds x n := by
  unfold cn; rw [sel_no (by rw [h]; rfl)]
theorem cn_yes {p : Nat → Bool} {ds : List Dv} {n : Nat} (h : p n = true) (h0 : 0 ≤ (dv ds n).node) (x : Nat) : cn p ds x (n + 1) = cn p ds x n + (if x = (dv ds n).node.toNat then 1 else 0) := by
  unfold cn
  by_cases e : x = (dv ds n).node.toNat
  · rw [sel_yes (by rw [h, decide_eq_true (by omega)]; rfl), if_pos e]; simp
  · rw [sel_no (by rw [h, decide_eq_false (by omega)]; rfl), if_neg e]; rfl
theorem cn_sum {p : Nat → Bool} {ds : List Dv} (h : Nodes ds) {n : Nat} (hn : n ≤ ds.length) : cn p ds 0 n + cn p ds 1 n + cn p ds 2 n + cn p ds 3 n = (sel p n).length := by
  induction n with
  | zero => rfl
  | succ n ih =>
    have hi := ih (by omega)
    obtain ⟨h0, h3⟩ := h.2 n (by omega)
    cases hp : p n
    · rw [cn_no hp, cn_no hp, cn_no hp, cn_no hp, sel_no hp]; exact hi
    · rw [cn_yes hp h0, cn_yes hp h0, cn_yes hp h0, cn_yes hp h0, sel_yes hp]
      have : (dv ds n).node.toNat = 0 ∨ (dv ds n).node.toNat = 1 ∨ (dv ds n).node.toNat = 2 ∨ (dv ds n).node.toNat = 3 := by omega
      rcases this with e | e | e | e <;> rw [e] <;> simp <;> omega
/-- Of that kind, and not sick. -/
def kindP (ds : List Dv) (kind : ByteArray) (k : Nat) : Bool := decide ((dv ds k).kind = kind) && !(dv ds k).sick
theorem fits_kind (ds : List Dv) (us : Nat → Bool) (kind : ByteArray) (k : Nat) : fits ds us kind k = (kindP ds kind k && !us k) := rfl
/-- What Take tells. -/
def takeF (ds : List Dv) (us : Nat → Bool) (kind : ByteArray) (many : Int) : Nat := if many < 0 then 1 else if ((sel (fits ds us kind) ds.length).length : Int) < many then 9 else 0
/-- One is sick, or is not. -/
def sicken (ds : List Dv) (n : Nat) (on : Bool) : List Dv := ds.set n ⟨(dv ds n).kind, (dv ds n).node, on⟩
theorem sicken_len (ds : List Dv) (n : Nat) (on : Bool) : (sicken ds n on).length = ds.length := by simp [sicken]
theorem sicken_at {ds : List Dv} {n : Nat} (h : n < ds.length) (on : Bool) (k : Nat) : dv (sicken ds n on) k = if k = n then ⟨(dv ds n).kind, (dv ds n).node, on⟩ else dv ds k := by
  unfold sicken
  rw [dv, List.getD_eq_getElem?_getD, List.getElem?_set]
  by_cases e : n = k
  · subst e; simp [h]
  · rw [if_neg e, if_neg (fun h => e h.symm)]; rfl
theorem sicken_nodes {ds : List Dv} (hN : Nodes ds) {n : Nat} (h : n < ds.length) (on : Bool) : Nodes (sicken ds n on) := by
  refine ⟨by rw [sicken_len]; exact hN.1, fun k hk => ?_⟩
  rw [sicken_len] at hk
  rw [sicken_at h]
  split
  · exact hN.2 n h
  · exact hN.2 k hk
/-- The document's first round: those on the nodes. -/
def got (ds : List Dv) (us : Nat → Bool) (kind : ByteArray) (m many i : Nat) : List Nat := (sel (nearP ds us kind m) i).take many
/-- Its second one: the others. -/
def got2 (ds : List Dv) (us : Nat → Bool) (kind : ByteArray) (m many i : Nat) : List Nat := (sel (nearP ds us kind m) ds.length ++ sel (farP ds us kind m) i).take many
theorem got_le (ds : List Dv) (us : Nat → Bool) (kind : ByteArray) (m many i : Nat) : (got ds us kind m many i).length ≤ many := by unfold got; rw [List.length_take]; omega
theorem got2_le (ds : List Dv) (us : Nat → Bool) (kind : ByteArray) (m many i : Nat) : (got2 ds us kind m many i).length ≤ many := by unfold got2; rw [List.length_take]; omega
theorem got_nil (ds : List Dv) (us : Nat → Bool) (kind : ByteArray) (m many : Nat) : got ds us kind m many 0 = [] := by simp [got, sel]
theorem got_end (ds : List Dv) (us : Nat → Bool) (kind : ByteArray) (m many : Nat) : got ds us kind m many ds.length = got2 ds us kind m many 0 := by simp [got, got2, sel_zero]
theorem got2_end (ds : List Dv) (us : Nat → Bool) (kind : ByteArray) (m many : Nat) : got2 ds us kind m many ds.length = took ds us kind m many := rfl
theorem got_lt {ds : List Dv} {us : Nat → Bool} {kind : ByteArray} {m many i j : Nat} (h : j ∈ got ds us kind m many i) : j < i := (sel_mem.1 (List.mem_of_mem_take h)).1
/-- Where enough are there the rest turns nothing. -/
theorem sel_more (p : Nat → Bool) {i n : Nat} (h : i ≤ n) : ∃ x, sel p n = sel p i ++ x := by
  obtain ⟨d, rfl⟩ := Nat.exists_eq_add_of_le h
  induction d with
  | zero => exact ⟨[], by simp⟩
  | succ d ih =>
    obtain ⟨x, hx⟩ := ih (by omega)
    cases hp : p (i + d)
    · exact ⟨x, by rw [← Nat.add_assoc, sel_no hp, hx]⟩
    · exact ⟨x ++ [i + d], by rw [← Nat.add_assoc, sel_yes hp, hx, List.append_assoc]⟩
theorem got_full {ds : List Dv} {us : Nat → Bool} {kind : ByteArray} {m many i : Nat} (hi : i ≤ ds.length) (h : many ≤ (got ds us kind m many i).length) : got ds us kind m many ds.length = got ds us kind m many i := by
  obtain ⟨x, hx⟩ := sel_more (nearP ds us kind m) hi
  unfold got at *
  rw [hx, full_take h]
theorem got2_full {ds : List Dv} {us : Nat → Bool} {kind : ByteArray} {m many i : Nat} (hi : i ≤ ds.length) (h : many ≤ (got2 ds us kind m many i).length) : got2 ds us kind m many ds.length = got2 ds us kind m many i := by
  obtain ⟨x, hx⟩ := sel_more (farP ds us kind m) hi
  unfold got2 at *
  rw [hx, ← List.append_assoc, full_take h]
theorem got_yes {ds : List Dv} {us : Nat → Bool} {kind : ByteArray} {m many i : Nat} (h : (got ds us kind m many i).length < many) (hp : nearP ds us kind m i = true) : got ds us kind m many (i + 1) = got ds us kind m many i ++ [i] := by
  unfold got at *
  rw [sel_yes hp, snoc_take h]
theorem got_no {ds : List Dv} {us : Nat → Bool} {kind : ByteArray} {m many i : Nat} (hp : nearP ds us kind m i = false) : got ds us kind m many (i + 1) = got ds us kind m many i := by
  unfold got
  rw [sel_no hp]
theorem got2_yes {ds : List Dv} {us : Nat → Bool} {kind : ByteArray} {m many i : Nat} (h : (got2 ds us kind m many i).length < many) (hp : farP ds us kind m i = true) : got2 ds us kind m many (i + 1) = got2 ds us kind m many i ++ [i] := by
  unfold got2 at *
  rw [sel_yes hp, ← List.append_assoc, snoc_take h]
theorem got2_no {ds : List Dv} {us : Nat → Bool} {kind : ByteArray} {m many i : Nat} (hp : farP ds us kind m i = false) : got2 ds us kind m many (i + 1) = got2 ds us kind m many i := by
  unfold got2
  rw [sel_no hp]
/-- In the first round one that comes is not yet taken. -/
theorem used_first {ds : List Dv} {us : Nat → Bool} {kind : ByteArray} {m many i : Nat} : usedBy us (got ds us kind m many i) i = us i := by
  unfold usedBy
  rw [decide_eq_false (fun h => absurd (got_lt h) (Nat.lt_irrefl _)), Bool.or_false]
/-- In the second one those are used that lie on the nodes. -/
theorem used_second {ds : List Dv} {us : Nat → Bool} {kind : ByteArray} {m many i : Nat} (hi : i < ds.length) (h : (got2 ds us kind m many i).length < many) (hk : kindP ds kind i = true) : usedBy us (got2 ds us kind m many i) i = !farP ds us kind m i := by
  unfold usedBy
  have e : got2 ds us kind m many i = sel (nearP ds us kind m) ds.length ++ sel (farP ds us kind m) i := all_take h
  rw [e]
  have hm : i ∈ sel (nearP ds us kind m) ds.length ++ sel (farP ds us kind m) i ↔ nearP ds us kind m i = true := by
    rw [List.mem_append, sel_mem, sel_mem]
    constructor
    · rintro (⟨_, h⟩ | ⟨h, _⟩)
      · exact h
      · omega
    · intro h; exact .inl ⟨hi, h⟩
  cases hn : nearP ds us kind m i
  · rw [decide_eq_false (fun hh => by rw [hm.1 hh] at hn; cases hn)]
    unfold nearP at hn; unfold farP
    rw [fits_kind, hk] at *
    cases hu : us i <;> simp [hu] at hn ⊢
    exact hn
  · rw [decide_eq_true (hm.2 hn)]
    unfold nearP at hn; unfold farP
    rw [fits_kind, hk] at *
    cases hu : us i <;> simp [hu] at hn ⊢
    exact hn
end Dvs
end Go.Proofs.YtlljniaobbbjgaaGreatDoor
namespace Go.Proofs.YtlljniaobbbjgaaGreatDoor
namespace Qos
open Dvs (first nameMay allTo)
/-- A need of devices. -/
structure Nd where
  kind : ByteArray
  many : Int
def nd0 : Nd := ⟨ByteArray.empty, 0⟩
/-- A container: what it asks for, what it may have. -/
structure Ct where
  nm : ByteArray
  am : Int
  ab : Int
  cm : Int
  cb : Int
  ds : List Nd
def ct0 : Ct := ⟨ByteArray.empty, 0, 0, 0, 0, []⟩
/-- A pod. -/
structure Pd where
  nm : ByteArray
  pr : Int
  cs : List Ct
def pd0 : Pd := ⟨ByteArray.empty, 0, []⟩
instance : Inhabited Nd := ⟨nd0⟩
instance : Inhabited Ct := ⟨ct0⟩
instance : Inhabited Pd := ⟨pd0⟩
def nd (l : List Nd) (k : Nat) : Nd := l.getD k nd0
def ct (l : List Ct) (k : Nat) : Ct := l.getD k ct0
def pd (l : List Pd) (k : Nat) : Pd := l.getD k pd0
/-- Is one ahead of another, or like it, as bytes? -/
def leS (a b : ByteArray) : Bool := Op.bytesLess a.toList b.toList || a.toList == b.toList
def needF (ds : List Nd) (j : Nat) : Nat :=
  if nameMay (nd ds j).kind = false ∨ (0 < j ∧ leS (nd ds j).kind (nd ds (j - 1)).kind = true) then 3
  else if (nd ds j).many < 1 ∨ 16 < (nd ds j).many then 1 else 0
def amtOk (m b : Int) : Bool := decide (0 ≤ m) && decide (m ≤ 1000000) && decide (0 ≤ b) && decide (b ≤ 1125899906842624)
def over (a c : Int) : Bool := decide (c ≠ 0) && decide (c < a)
def twice (cs : List Ct) (k : Nat) : Bool := (cs.take k).any fun o => decide (o.nm = (ct cs k).nm)
def contF (cs : List Ct) (k : Nat) : Nat :=
  if nameMay (ct cs k).nm = false then 3
  else if twice cs k = true then 5
  else if amtOk (ct cs k).am (ct cs k).ab = false ∨ amtOk (ct cs k).cm (ct cs k).cb = false then 1
  else if over (ct cs k).am (ct cs k).cm = true ∨ over (ct cs k).ab (ct cs k).cb = true then 3
  else if 3 < (ct cs k).ds.length then 2
  else first (needF (ct cs k).ds) (ct cs k).ds.length
def podF (p : Pd) : Nat :=
  if nameMay p.nm = false then 3
  else if p.pr < 0 ∨ 1000 < p.pr then 1
  else if p.cs.length < 1 ∨ 3 < p.cs.length then 2
  else first (contF p.cs) p.cs.length
def quiet (c : Ct) : Bool := decide (c.am = 0) && decide (c.ab = 0) && decide (c.cm = 0) && decide (c.cb = 0)
def sure (c : Ct) : Bool := decide (c.am = c.cm) && decide (c.ab = c.cb) && decide (c.am ≠ 0) && decide (c.ab ≠ 0)
def silent (cs : List Ct) (n : Nat) : Bool := allTo (fun k => quiet (ct cs k)) n
def certain (cs : List Ct) (n : Nat) : Bool := allTo (fun k => sure (ct cs k)) n
def classOf (cs : List Ct) : Int := if silent cs cs.length = true then 1 else if certain cs cs.length = true then 3 else 2
def sumTo (f : Nat → Int) : Nat → Int
  | 0 => 0
  | k + 1 => sumTo f k + f k
def sumM (cs : List Ct) (n : Nat) : Int := sumTo (fun k => (ct cs k).am) n
def sumB (cs : List Ct) (n : Nat) : Int := sumTo (fun k => (ct cs k).ab) n
def ownOf (cs : List Ct) (m : Int) : Int := if classOf cs = 3 ∧ m % 1000 = 0 then m / 1000 else 0
/-- What they ask for, and may have, is such as there may be. -/
def Mild (cs : List Ct) : Prop := cs.length ≤ 3 ∧ ∀ k, k < cs.length → (0 ≤ (ct cs k).am ∧ (ct cs k).am ≤ 1000000) ∧ (0 ≤ (ct cs k).ab ∧ (ct cs k).ab ≤ 1125899906842624) ∧ (0 ≤ (ct cs k).cm ∧ (ct cs k).cm ≤ 1000000) ∧ (0 ≤ (ct cs k).cb ∧ (ct cs k).cb ≤ 1125899906842624) ∧ ((ct cs k).cm ≠ 0 → (ct cs k).am ≤ (ct cs k).cm) ∧ ((ct cs k).cb ≠ 0 → (ct cs k).ab ≤ (ct cs k).cb)
theorem amt_in {m b : Int} (h : amtOk m b = true) : (0 ≤ m ∧ m ≤ 1000000) ∧ (0 ≤ b ∧ b ≤ 1125899906842624) := by
  simp [amtOk] at h; omega
theorem cont_mild {cs : List Ct} {k : Nat} (h : contF cs k = 0) : amtOk (ct cs k).am (ct cs k).ab = true ∧ amtOk (ct cs k).cm (ct cs k).cb = true ∧ over (ct cs k).am (ct cs k).cm = false ∧ over (ct cs k).ab (ct cs k).cb = false := by
  unfold contF at h
  split at h
  · cases h
  split at h
  · cases h
  split at h
  · cases h
  split at h
  · cases h
  · rename_i h1 h2
    rw [not_or] at h1 h2
    exact ⟨by simpa using h1.1, by simpa using h1.2, by simpa using h2.1, by simpa using h2.2⟩
theorem pod_len {p : Pd} (h : podF p = 0) : nameMay p.nm = true ∧ (0 ≤ p.pr ∧ p.pr ≤ 1000) ∧ (1 ≤ p.cs.length ∧ p.cs.length ≤ 3) ∧ first (contF p.cs) p.cs.length = 0 := by
  unfold podF at h
  split at h
  · cases h
  split at h
  · cases h
  split at h
  · cases h
  · rename_i h1 h2 h3
    exact ⟨by simpa using h1, by omega, by omega, h⟩
theorem pod_mild {p : Pd} (h : podF p = 0) : Mild p.cs := by
  obtain ⟨_, _, ⟨_, h3⟩, hf⟩ := pod_len h
  refine ⟨h3, fun k hk => ?_⟩
  obtain ⟨h1, h2, h4, h5⟩ := cont_mild (Dvs.first_all hf k hk)
  obtain ⟨a1, a2⟩ := amt_in h1
  obtain ⟨a3, a4⟩ := amt_in h2
  refine ⟨a1, a2, a3, a4, ?_, ?_⟩
  · intro h0
    simp [over, h0] at h4
    exact h4
  · intro h0
    simp [over, h0] at h5
    exact h5
theorem mild_nil : Mild [] := ⟨by simp, fun k hk => by simp at hk⟩
theorem allTo_at {f : Nat → Bool} {n : Nat} (h : allTo f n = true) : ∀ k, k < n → f k = true := by
  induction n with
  | zero => intro k hk; omega
  | succ n ih =>
    rw [allTo, Bool.and_eq_true] at h
    intro k hk
    by_cases e : k = n
    · subst e; exact h.2
    · exact ih h.1 k (by omega)
theorem sumTo_le {f g : Nat → Int} {n : Nat} (h : ∀ k, k < n → f k ≤ g k) : sumTo f n ≤ sumTo g n := by
  induction n with
  | zero => exact Int.le_refl _
  | succ n ih =>
    have h1 := ih (fun k hk => h k (by omega))
    have h2 := h n (by omega)
    simp only [sumTo]
    omega
theorem sumTo_congr {f g : Nat → Int} {n : Nat} (h : ∀ k, k < n → f k = g k) : sumTo f n = sumTo g n := by
  induction n with
  | zero => rfl
  | succ n ih => simp only [sumTo]; rw [ih (fun k hk => h k (by omega)), h n (by omega)]
theorem sumTo_nonneg {f : Nat → Int} {n : Nat} (h : ∀ k, k < n → 0 ≤ f k) : 0 ≤ sumTo f n := by
  induction n with
  | zero => exact Int.le_refl _
  | succ n ih =>
    have h1 := ih (fun k hk => h k (by omega))
    have h2 := h n (by omega)
    simp only [sumTo]
    omega
theorem sumTo_most {f : Nat → Int} {n : Nat} {B : Int} (h : ∀ k, k < n → f k ≤ B) : sumTo f n ≤ n * B := by
  induction n with
  | zero => simp [sumTo]
  | succ n ih =>
    have h1 := ih (fun k hk => h k (by omega))
    have h2 := h n (by omega)
    simp only [sumTo]
    have e : ((n + 1 : Nat) : Int) * B = n * B + B := by rw [Int.natCast_add, Int.add_mul]; simp
    omega
theorem sumTo_mul (c : Int) (f : Nat → Int) (n : Nat) : c * sumTo f n = sumTo (fun k => c * f k) n := by
  induction n with
  | zero => simp [sumTo]
  | succ n ih => simp only [sumTo, Int.mul_add, ih]
theorem sumTo_part {f : Nat → Int} {n k : Nat} (h : ∀ j, j < n → 0 ≤ f j) (hk : k < n) : f k ≤ sumTo f n := by
  induction n with
  | zero => omega
  | succ n ih =>
    simp only [sumTo]
    by_cases e : k = n
    · subst e
      have := sumTo_nonneg (f := f) (n := k) (fun j hj => h j (by omega))
      omega
    · have h1 := ih (fun j hj => h j (by omega)) (by omega)
      have h2 := h n (by omega)
      omega
theorem sumM_in {cs : List Ct} (hm : Mild cs) {n : Nat} (hn : n ≤ cs.length) : 0 ≤ sumM cs n ∧ sumM cs n ≤ 3000000 := by
  have h1 := sumTo_nonneg (f := fun k => (ct cs k).am) (n := n) (fun k hk => (hm.2 k (by omega)).1.1)
  have h2 := sumTo_most (f := fun k => (ct cs k).am) (n := n) (B := 1000000) (fun k hk => (hm.2 k (by omega)).1.2)
  have := hm.1
  unfold sumM
  omega
theorem sumB_in {cs : List Ct} (hm : Mild cs) {n : Nat} (hn : n ≤ cs.length) : 0 ≤ sumB cs n ∧ sumB cs n ≤ 3377699720527872 := by
  have h1 := sumTo_nonneg (f := fun k => (ct cs k).ab) (n := n) (fun k hk => (hm.2 k (by omega)).2.1.1)
  have h2 := sumTo_most (f := fun k => (ct cs k).ab) (n := n) (B := 1125899906842624) (fun k hk => (hm.2 k (by omega)).2.1.2)
  have := hm.1
  unfold sumB
  omega
theorem class_in (cs : List Ct) : classOf cs = 1 ∨ classOf cs = 2 ∨ classOf cs = 3 := by
  unfold classOf
  split
  · exact .inl rfl
  split
  · exact .inr (.inr rfl)
  · exact .inr (.inl rfl)
theorem class_sure {cs : List Ct} (h : classOf cs = 3) : ∀ k, k < cs.length → sure (ct cs k) = true := by
  unfold classOf at h
  split at h
  · cases h
  split at h
  · rename_i h1; exact allTo_at h1
  · cases h
theorem class_quiet {cs : List Ct} (h : classOf cs = 1) : ∀ k, k < cs.length → quiet (ct cs k) = true := by
  unfold classOf at h
  split at h
  · rename_i h1; exact allTo_at h1
  split at h <;> cases h
theorem quiet_sums {cs : List Ct} (h : classOf cs = 1) : sumM cs cs.length = 0 ∧ sumB cs cs.length = 0 := by
  have hq := class_quiet h
  have hz : ∀ n, sumTo (fun _ => 0) n = 0 := by
    intro n
    induction n with
    | zero => rfl
    | succ n ih => simp [sumTo, ih]
  constructor
  · rw [sumM, ← hz cs.length]
    exact sumTo_congr fun k hk => by have := hq k hk; simp [quiet] at this; omega
  · rw [sumB, ← hz cs.length]
    exact sumTo_congr fun k hk => by have := hq k hk; simp [quiet] at this; omega
theorem own_in {cs : List Ct} {k : Nat} (hm : Mild cs) (hk : k < cs.length) : 0 ≤ ownOf cs (ct cs k).am ∧ 1000 * ownOf cs (ct cs k).am ≤ (ct cs k).am ∧ ownOf cs (ct cs k).am ≤ 1000 := by
  have h := (hm.2 k hk).1
  unfold ownOf
  split <;> omega
theorem own_pos {cs : List Ct} {k : Nat} (hk : k < cs.length) (h : 0 < ownOf cs (ct cs k).am) : classOf cs = 3 ∧ (ct cs k).am = (ct cs k).cm ∧ (ct cs k).ab = (ct cs k).cb ∧ 1000 * ownOf cs (ct cs k).am = (ct cs k).am := by
  unfold ownOf at *
  split at h
  · rename_i hc
    have hs := class_sure hc.1 k hk
    simp [sure] at hs
    rw [if_pos hc]
    exact ⟨hc.1, by omega, by omega, by omega⟩
  · omega
theorem own_sum {cs : List Ct} (hm : Mild cs) : 1000 * sumTo (fun k => ownOf cs (ct cs k).am) cs.length ≤ sumM cs cs.length := by
  rw [sumTo_mul]
  exact sumTo_le fun k hk => (own_in hm hk).2.1
theorem own_part {cs : List Ct} (hm : Mild cs) {n : Nat} (hn : n ≤ cs.length) : 0 ≤ sumTo (fun k => ownOf cs (ct cs k).am) n ∧ sumTo (fun k => ownOf cs (ct cs k).am) n ≤ 3000 := by
  have h1 := sumTo_nonneg (f := fun k => ownOf cs (ct cs k).am) (n := n) (fun k hk => (own_in hm (by omega)).1)
  have h2 := sumTo_most (f := fun k => ownOf cs (ct cs k).am) (n := n) (B := 1000) (fun k hk => (own_in hm (by omega)).2.2)
  have := hm.1
  omega
/-- The kind ahead of a place. -/
def lastOf (ds : List Nd) (k : Nat) : ByteArray := if k = 0 then ByteArray.empty else (nd ds (k - 1)).kind
theorem last_succ (ds : List Nd) (k : Nat) : lastOf ds (k + 1) = (nd ds k).kind := by simp [lastOf]
theorem leS_empty {s : ByteArray} (h : nameMay s = true) : leS s ByteArray.empty = false := by
  unfold nameMay at h
  have h0 : 0 < s.size := by
    simp at h; omega
  have h1 : s.toList ≠ [] := by
    intro e
    rw [ByteArray.toList_eq] at e
    have : s.data.toList.length = 0 := by rw [e]; rfl
    rw [Array.length_toList] at this
    have h2 : s.data.size = s.size := rfl
    omega
  unfold leS
  rw [show ByteArray.empty.toList = [] by rw [ByteArray.toList_eq]; rfl]
  cases hs : s.toList with
  | nil => exact absurd hs h1
  | cons a l => simp [Op.bytesLess]
theorem need_name {ds : List Nd} {k : Nat} (h : nameMay (nd ds k).kind = false) : needF ds k = 3 := by unfold needF; rw [if_pos (.inl h)]
theorem need_le {ds : List Nd} {k : Nat} (h : nameMay (nd ds k).kind = true) (h2 : leS (nd ds k).kind (lastOf ds k) = true) : needF ds k = 3 := by
  unfold needF
  by_cases h0 : k = 0
  · subst h0
    rw [show lastOf ds 0 = ByteArray.empty from rfl, leS_empty h] at h2
    cases h2
  · rw [lastOf, if_neg h0] at h2
    rw [if_pos (.inr ⟨by omega, h2⟩)]
theorem need_many {ds : List Nd} {k : Nat} (h : nameMay (nd ds k).kind = true) (h2 : leS (nd ds k).kind (lastOf ds k) = false) : needF ds k = if (nd ds k).many < 1 ∨ 16 < (nd ds k).many then 1 else 0 := by
  unfold needF
  rw [if_neg]
  rintro (h3 | ⟨h3, h4⟩)
  · rw [h] at h3; cases h3
  · rw [lastOf, if_neg (by omega)] at h2
    rw [h2] at h4; cases h4
end Qos
end Go.Proofs.YtlljniaobbbjgaaGreatDoor
namespace Go.Proofs.YtlljniaobbbjgaaGreatDoor
namespace Sv
/-- One byte more. -/
def fnvStep (h : Nat) (b : UInt8) : Nat := (h ^^^ b.toNat) * 16777619 % 4294967296
/-- The sum of a text. -/
def fnv (l : List UInt8) : Nat := l.foldl fnvStep 2166136261
theorem fnv_snoc (l : List UInt8) (b : UInt8) : fnv (l ++ [b]) = fnvStep (fnv l) b := by
  unfold fnv
  rw [List.foldl_append, List.foldl_cons, List.foldl_nil]
theorem fnv_lt (l : List UInt8) : fnv l < 4294967296 := by
  rcases List.eq_nil_or_concat l with rfl | ⟨l, b, rfl⟩
  · unfold fnv; rw [List.foldl_nil]; omega
  · rw [List.concat_eq_append, fnv_snoc]; unfold fnvStep; exact Nat.mod_lt _ (by omega)
theorem fnv_take {l : List UInt8} {k : Nat} (h : k < l.length) : fnv (l.take (k + 1)) = fnvStep (fnv (l.take k)) l[k] := by
  rw [← fnv_snoc, List.take_add_one, List.getElem?_eq_getElem h, Option.toList_some]
theorem xor_lt {a b : Nat} (ha : a < 4294967296) (hb : b < 4294967296) : a ^^^ b < 4294967296 := Nat.xor_lt_two_pow (n := 32) ha hb
theorem xor_u32 {a b : Nat} (ha : a < 4294967296) (hb : b < 4294967296) : bits .xor .u32 (a : Int) (b : Int) = ((a ^^^ b : Nat) : Int) := by
  have h1 : (BitVec.ofInt 32 (a : Int)).toNat = a := by rw [BitVec.toNat_ofInt]; omega
  have h2 : (BitVec.ofInt 32 (b : Int)).toNat = b := by rw [BitVec.toNat_ofInt]; omega
  show IntKind.u32.wrap ((BitVec.ofInt 32 (a : Int) ^^^ BitVec.ofInt 32 (b : Int)).toNat : Int) = _
  rw [BitVec.toNat_xor, h1, h2]
  have := xor_lt ha hb
  rw [IntKind.wrap_u32]
  omega
theorem xor_i64 {a b : Nat} (ha : a < 4294967296) (hb : b < 4294967296) : bits .xor .i64 (a : Int) (b : Int) = ((a ^^^ b : Nat) : Int) := by
  have h1 : (BitVec.ofInt 64 (a : Int)).toNat = a := by rw [BitVec.toNat_ofInt]; omega
  have h2 : (BitVec.ofInt 64 (b : Int)).toNat = b := by rw [BitVec.toNat_ofInt]; omega
  show IntKind.i64.wrap ((BitVec.ofInt 64 (a : Int) ^^^ BitVec.ofInt 64 (b : Int)).toNat : Int) = _
  rw [BitVec.toNat_xor, h1, h2]
  have := xor_lt ha hb
  rw [IntKind.wrap_i64]
  omega
/-- What a round makes of it. -/
theorem step_u32 (h : Nat) (b : UInt8) : IntKind.u32.wrap (((h ^^^ b.toNat : Nat) : Int) * 16777619) = (fnvStep h b : Nat) := by
  unfold fnvStep
  rw [IntKind.wrap_u32]
  omega
theorem step_i64 {h : Nat} (hh : h < 4294967296) (b : UInt8) : ((((h ^^^ b.toNat : Nat) : Int) * 16777619).tmod 4294967296 = (fnvStep h b : Nat)) ∧ ((h ^^^ b.toNat : Nat) : Int) * 16777619 ≤ 9223372036854775807 := by
  have hb : b.toNat < 4294967296 := by have := b.toNat_lt; omega
  have := xor_lt hh hb
  refine ⟨?_, by omega⟩
  unfold fnvStep
  rw [Int.tmod_eq_emod_of_nonneg (by omega)]
  omega
end Sv
end Go.Proofs.YtlljniaobbbjgaaGreatDoor
namespace Go.Proofs.YtlljniaobbbjgaaGreatDoor
namespace Ost

/-- Around the first of a byte. -/
def cut1 (c : UInt8) : List UInt8 → List UInt8 × List UInt8 × Bool
  | [] => ([], [], false)
  | b :: l => if b = c then ([], l, true) else (b :: (cut1 c l).1, (cut1 c l).2.1, (cut1 c l).2.2)
theorem cut1_index (c : UInt8) (l : List UInt8) :
    (Lib.index l [c] = -1 ∧ cut1 c l = (l, [], false)) ∨ ∃ i : Nat, Lib.index l [c] = i ∧ cut1 c l = (l.take i, l.drop (i + 1), true) := by
  induction l with
  | nil => exact .inl ⟨rfl, rfl⟩
  | cons b r ih =>
    by_cases h : b = c
    · subst h
      exact .inr ⟨0, by simp [Lib.index], by simp [cut1]⟩
    · have hp : ([c] : List UInt8).isPrefixOf (b :: r) = false := by simp [List.isPrefixOf]; exact fun e => h e.symm
      rcases ih with ⟨h1, h2⟩ | ⟨i, h1, h2⟩
      · exact .inl ⟨by rw [Lib.index, hp]; simp [h1], by rw [cut1, if_neg h, h2]⟩
      · refine .inr ⟨i + 1, ?_, by rw [cut1, if_neg h, h2]; simp⟩
        rw [Lib.index, hp, h1]
        have : ((i : Int) == -1) = false := by simp
        simp [this]
theorem cut_one (c : UInt8) (l : List UInt8) : Lib.cut l [c] = cut1 c l := by
  unfold Lib.cut
  rcases cut1_index c l with ⟨h1, h2⟩ | ⟨i, h1, h2⟩
  · rw [h1, h2]; simp
  · rw [h1, h2]; simp

/-- What stands behind a point, filled up with noughts to three places. -/
def pad (l : List UInt8) : List UInt8 := l ++ List.replicate (3 - l.length) 48
def placesOk (l : List UInt8) : Bool := decide (l.length ≠ 0 ∧ l.length ≤ 3) && allDig l
theorem pad_length (l : List UInt8) (h : l.length ≤ 3) : (pad l).length = 3 := by simp [pad]; omega
theorem pad_snoc (l : List UInt8) (k : Nat) (hl : l.length ≤ 3) (h : k < 3) : (pad l).take (k + 1) = (pad l).take k ++ [if hk : k < l.length then l[k] else 48] := by
  rw [List.take_succ_eq_append_getElem (by rw [pad_length l hl]; exact h)]
  congr 2
  unfold pad
  by_cases hk : k < l.length
  · rw [List.getElem_append_left hk, dif_pos hk]
  · rw [List.getElem_append_right (by omega), dif_neg hk]; simp
theorem val_pad_bound (l : List UInt8) (h : allDig l = true) : ∀ k, k ≤ 3 → l.length ≤ 3 → 0 ≤ val ((pad l).take k) ∧ val ((pad l).take k) ≤ 999 := by
  have hd : ∀ k, allDig ((pad l).take k) = true := fun k => allDig_take _ _ (by
    rw [pad, allDig_append, h]
    have : 3 - l.length = 0 ∨ 3 - l.length = 1 ∨ 3 - l.length = 2 ∨ 3 - l.length = 3 := by omega
    rcases this with e | e | e | e <;> rw [e] <;> decide)
  intro k hk hl
  refine ⟨val_nonneg _ (hd k), ?_⟩
  have h0 : val ((pad l).take 0) = 0 := by simp [val]
  have hs : ∀ j, j < 3 → val ((pad l).take (j + 1)) ≤ val ((pad l).take j) * 10 + 9 := by
    intro j hj
    have e := pad_snoc l j hl hj
    have hdj := hd (j + 1)
    rw [e, allDig_snoc, Bool.and_eq_true] at hdj
    rw [e, val_snoc]
    have := (isDig_iff _).1 hdj.2
    unfold step; omega
  have h1 := hs 0 (by omega)
  have h2 := hs 1 (by omega)
  have h3 := hs 2 (by omega)
  have : k = 0 ∨ k = 1 ∨ k = 2 ∨ k = 3 := by omega
  rcases this with e | e | e | e <;> subst e <;> simp only [Nat.zero_add, Nat.reduceAdd] at * <;> omega

/-- Thousandths as they are written, whatever their bound. -/
def milliRaw (l : List UInt8) : Option Int :=
  if Lib.hasSuffix l [109] then (if good 9 (Lib.trimSuffix l [109]) then some (val (Lib.trimSuffix l [109])) else none)
  else if good 6 (cut1 46 l).1 then
    (if (cut1 46 l).2.2 then (if placesOk (cut1 46 l).2.1 then some (val (cut1 46 l).1 * 1000 + val (pad (cut1 46 l).2.1)) else none)
     else some (val (cut1 46 l).1 * 1000))
  else none
/-- What is read, and an error's number (0: none). -/
def bound : Option Int → Int × Int
  | none => (0, 4)
  | some v => if 1000000 < v then (0, 1) else (v, 0)
def milliOut (l : List UInt8) : Int × Int := bound (milliRaw l)

/-- The sizes of units, and what stands ahead of one. -/
def cutUnit (l : List UInt8) : List UInt8 × Int :=
  if Lib.hasSuffix l [75, 105] then (Lib.trimSuffix l [75, 105], 1024)
  else if Lib.hasSuffix l [77, 105] then (Lib.trimSuffix l [77, 105], 1048576)
  else if Lib.hasSuffix l [71, 105] then (Lib.trimSuffix l [71, 105], 1073741824)
  else if Lib.hasSuffix l [84, 105] then (Lib.trimSuffix l [84, 105], 1099511627776)
  else (l, 1)
def bytesOut (l : List UInt8) : Int × Int :=
  if good 16 (cutUnit l).1 then (if 1125899906842624 / (cutUnit l).2 < val (cutUnit l).1 then (0, 1) else (val (cutUnit l).1 * (cutUnit l).2, 0)) else (0, 4)
theorem val_lt_pow (l : List UInt8) (h : allDig l = true) : val l < 10 ^ l.length := by
  have key : ∀ n : Int, l.foldl step n < (n + 1) * 10 ^ l.length := by
    induction l with
    | nil => intro n; simp; omega
    | cons b r ih =>
      intro n
      simp only [allDig, List.all_cons, Bool.and_eq_true] at h
      have hb := (isDig_iff b).1 h.1
      have := ih h.2 (step n b)
      simp only [List.foldl_cons, List.length_cons]
      have h2 : (step n b + 1) * 10 ^ r.length ≤ ((n + 1) * 10) * 10 ^ r.length := by
        apply Int.mul_le_mul_of_nonneg_right
        · unfold step; omega
        · exact Int.pow_nonneg (by omega)
      have h3 : ((n + 1) * 10) * 10 ^ r.length = (n + 1) * 10 ^ (r.length + 1) := by rw [Int.pow_succ, Int.mul_assoc, Int.mul_comm 10]
      omega
  have := key 0
  simpa [val] using this
end Ost
end Go.Proofs.YtlljniaobbbjgaaGreatDoor
namespace Go.Proofs.YtlljniaobbbjgaaGreatDoor
open Go.RowKit
set_option maxHeartbeats 400000 in
theorem digit_yes (b : UInt8) (w : World) (h : Ost.isDig b = true) :
    Calls Tryz.prog 106 #[.int .u8 b.toNat] w fun e w' => e = .returned (.tuple #[.int .i64 (b.toNat - 48), .bool true]) ∧ w' = w := by
  have h1 := ((Ost.isDig_iff b).1 h).1
  have h2 := ((Ost.isDig_iff b).1 h).2
  clear h
  go_enter Tryz.func106, Tryz.ntmps106
  go_wp2
  go_ret2
  exact ⟨rfl, rfl⟩
set_option maxHeartbeats 400000 in
theorem digit_no (b : UInt8) (w : World) (h : Ost.isDig b = false) :
    Calls Tryz.prog 106 #[.int .u8 b.toNat] w fun e w' => e = .returned (.tuple #[.int .i64 0, .bool false]) ∧ w' = w := by
  have h1 := (Ost.isDig_not b).1 h
  clear h
  by_cases h2 : 48 ≤ b.toNat
  · have h3 : 57 < b.toNat := by omega
    clear h1
    go_enter Tryz.func106, Tryz.ntmps106
    go_wp2
    go_ret2
    exact ⟨rfl, rfl⟩
  · clear h1
    go_enter Tryz.func106, Tryz.ntmps106
    go_wp2
    go_ret2
    exact ⟨rfl, rfl⟩
/-- What number.Read answers. -/
def readOut (m : Int) (l : List UInt8) : Value := if Ost.good m l then .tuple #[.int .i64 (Ost.val l), .bool true] else .tuple #[.int .i64 0, .bool false]
theorem readOut_yes {m : Int} {l : List UInt8} (h : Ost.good m l = true) : readOut m l = .tuple #[.int .i64 (Ost.val l), .bool true] := by simp [readOut, h]
theorem readOut_no {m : Int} {l : List UInt8} (h : Ost.good m l = false) : readOut m l = .tuple #[.int .i64 0, .bool false] := by simp [readOut, h]
set_option maxHeartbeats 400000 in
theorem read_any (s : ByteArray) (m : Int) (w : World) (hs : s.size ≤ maxLen) :
    Calls Tryz.prog 119 #[.string s, .int .i64 m] w fun e w' => e = .returned (readOut m s.data.toList) ∧ w' = w := by
  unfold maxLen at hs
  by_cases he : s.size = 0
  · have hem : s.toList.isEmpty = true := by rw [Ost.toList_isEmpty]; simp [he]
    have H : Hid (readOut m s.data.toList = .tuple #[.int .i64 0, .bool false]) := readOut_no (by rw [Ost.not_good_iff]; rintro ⟨⟨h, _⟩, _⟩; exact h (List.eq_nil_of_length_eq_zero (by simpa using he)))
    clear he
    go_enter Tryz.func119, Tryz.ntmps119
    go_wp2_with fail
    go_ret2
    exact ⟨congrArg Ending.returned H.out.symm, rfl⟩
  have hem : s.toList.isEmpty = false := by rw [Ost.toList_isEmpty]; simp [he]
  have he' : 0 < s.size := by omega
  clear he
  by_cases hm : m < (s.size : Int)
  · have H : Hid (readOut m s.data.toList = .tuple #[.int .i64 0, .bool false]) := readOut_no (by rw [Ost.not_good_iff]; rintro ⟨_, h, _⟩; simp at h; omega)
    go_enter Tryz.func119, Tryz.ntmps119
    go_wp2_with fail
    all_goals
      go_ret2
      exact ⟨congrArg Ending.returned H.out.symm, rfl⟩
  have hm' : (s.size : Int) ≤ m := by omega
  by_cases hz : 1 < s.size ∧ s[0].toNat = 48
  · have H : Hid (readOut m s.data.toList = .tuple #[.int .i64 0, .bool false]) := readOut_no (by
      rw [Ost.not_good_iff]; rintro ⟨⟨_, h, _⟩, _⟩; refine h ⟨by simpa using hz.1, ?_⟩; rw [Ost.head_s s he']; exact (Ost.u8_eq _ 48 (by omega)).2 hz.2)
    have h1 : 1 < s.size := hz.1
    have h2 : ((s[0].toNat : Int) == 48) = true := by simp; omega
    clear hz
    go_enter Tryz.func119, Tryz.ntmps119
    go_wp2_with fail
    go_ret2
    exact ⟨congrArg Ending.returned H.out.symm, rfl⟩
  have HZ : Hid (¬ (1 < s.data.toList.length ∧ s.data.toList.headD 0 = 48)) := by
    rintro ⟨a, b⟩
    rw [Ost.head_s s he'] at b
    exact hz ⟨by simpa using a, (Ost.u8_eq _ 48 (by omega)).1 b⟩
  have hz2 : 1 < s.size → ((s[0].toNat : Int) == 48) = false := fun h => by simp; intro h2; exact hz ⟨h, by omega⟩
  clear hz
  by_cases h1 : 1 < s.size
  all_goals
    try have h2 := hz2 h1
    clear hz2
    go_enter Tryz.func119, Tryz.ntmps119
    go_wp2_with fail
    go_loop [6, 30] (fun n i => ∃ k : Nat, k ≤ s.size ∧ i = .int .i64 k ∧ Ost.allDig (s.data.toList.take k) = true ∧ Ost.val (s.data.toList.take k) ≤ Ost.maxI ∧ n = .int .i64 (Ost.val (s.data.toList.take k))) (fun _ i => s.size - (intOf i).toNat)
    case atStart => exact ⟨0, Nat.zero_le _, rfl, rfl, by simp [Ost.val, Ost.maxI], rfl⟩
    case round =>
      obtain ⟨k, hk, rfl, hd, hv, rfl⟩ := hrel
      have hv0 := Ost.val_nonneg _ hd
      have HD : Hid (Ost.allDig (s.data.toList.take k) = true) := hd
      clear hd
      have hv1 : Ost.val (s.data.toList.take k) ≤ 9223372036854775807 := hv
      clear hv
      by_cases hlt : k < s.size
      · have hts := Ost.take_snoc s k hlt
        cases hb : Ost.isDig s[k] with
        | false =>
          have H : Hid (readOut m s.data.toList = .tuple #[.int .i64 0, .bool false]) := readOut_no (Ost.not_good_dig m s k hlt hb)
          clear hts
          go_wp2_with (go_at_call 106; refine (digit_no _ _ hb).mono ?_; rintro e w' ⟨rfl, rfl⟩)
          go_ret2
          exact ⟨congrArg Ending.returned H.out.symm, rfl⟩
        | true =>
          have hb1 := ((Ost.isDig_iff s[k]).1 hb).1
          have hb2 := ((Ost.isDig_iff s[k]).1 hb).2
          have HV : Hid (Ost.val (s.data.toList.take (k + 1)) = Ost.val (s.data.toList.take k) * 10 + ((s[k].toNat : Int) - 48)) := by
            rw [hts, Ost.val_snoc]; rfl
          have HA : Hid (Ost.allDig (s.data.toList.take (k + 1)) = true) := by
            rw [hts, Ost.allDig_snoc, HD.out, hb]; rfl
          clear hts
          by_cases hov : (9223372036854775807 - ((s[k].toNat : Int) - 48)) / 10 < Ost.val (s.data.toList.take k)
          · have H : Hid (readOut m s.data.toList = .tuple #[.int .i64 0, .bool false]) := readOut_no (Ost.not_good_val m s (k + 1) (by
              rw [HV.out]; show (9223372036854775807 : Int) < _; omega))
            go_wp2_with (go_at_call 106; refine (digit_yes _ _ hb).mono ?_; rintro e w' ⟨rfl, rfl⟩)
            go_ret2
            exact ⟨congrArg Ending.returned H.out.symm, rfl⟩
          · have HM : Hid (Ost.val (s.data.toList.take (k + 1)) ≤ Ost.maxI) := by
              rw [HV.out]; show _ ≤ (9223372036854775807 : Int); omega
            go_wp2_with (go_at_call 106; refine (digit_yes _ _ hb).mono ?_; rintro e w' ⟨rfl, rfl⟩)
            go_round
            case rel => exact ⟨k + 1, by omega, by go_num, HA.out, HM.out, by rw [HV.out]⟩
            case measure => simp [intOf]; omega
      · have hke : k = s.size := by omega
        have hfull : s.data.toList.take k = s.data.toList := List.take_of_length_le (by simp; omega)
        have H : Hid (readOut m s.data.toList = .tuple #[.int .i64 (Ost.val (s.data.toList.take k)), .bool true]) := by
          have hg : Ost.good m s.data.toList = true := by
            rw [Ost.good_iff]
            refine ⟨⟨?_, HZ.out, ?_⟩, by simpa using hm', ?_⟩
            · intro h0
              have h3 : s.data.toList.length = 0 := by rw [h0]; rfl
              have h4 : s.data.toList.length = s.size := by simp
              omega
            · have := HD.out; rw [hfull] at this; exact this
            · rw [hfull] at hv1; exact hv1
          have := readOut_yes hg
          unfold Hid; rw [hfull]; exact this
        clear hfull hke
        go_wp2_with fail
        go_ret2
        exact ⟨congrArg Ending.returned H.out.symm, rfl⟩
end Go.Proofs.YtlljniaobbbjgaaGreatDoor
namespace Go.Proofs.YtlljniaobbbjgaaGreatDoor
namespace Qos
open Dvs (first nameMay allTo)
def shares (m : Int) : Int := min (max (m * 1024 / 1000) 2) 262144
def quota (m : Int) : Int := if m = 0 then -1 else max (m * 100) 1000
/-- A group. -/
structure Gp where
  path : ByteArray
  sh : Int
  qu : Int
  by' : Int
def gp0 : Gp := ⟨ByteArray.empty, 0, 0, 0⟩
instance : Inhabited Gp := ⟨gp0⟩
def gp (l : List Gp) (k : Nat) : Gp := l.getD k gp0
def lim (f : Ct → Int) (cs : List Ct) : Int := if allTo (fun k => decide (f (ct cs k) ≠ 0)) cs.length = true then sumTo (fun k => f (ct cs k)) cs.length else 0
/-- The words that open a path. -/
structure Words where
  low : ByteArray
  mid : ByteArray
  sep : ByteArray
  lowAll : ByteArray
  midAll : ByteArray
def pathOf (W : Words) (p : Pd) : ByteArray := if classOf p.cs = 1 then W.low ++ p.nm else if classOf p.cs = 2 then W.mid ++ p.nm else W.sep ++ p.nm
def podG (W : Words) (p : Pd) : Gp := ⟨pathOf W p, shares (sumM p.cs p.cs.length), quota (lim Ct.cm p.cs), lim Ct.cb p.cs⟩
def contG (W : Words) (p : Pd) (c : Ct) : Gp := ⟨pathOf W p ++ W.sep ++ c.nm, shares c.am, quota c.cm, c.cb⟩
def podGs (W : Words) (p : Pd) : List Gp := podG W p :: p.cs.map (contG W p)
def midOf (p : Pd) : Int := if classOf p.cs = 2 then sumM p.cs p.cs.length else 0
def middle (ps : List Pd) (n : Nat) : Int := sumTo (fun k => midOf (pd ps k)) n
def heads (W : Words) (ps : List Pd) : List Gp := [⟨W.midAll, shares (middle ps ps.length), -1, 0⟩, ⟨W.lowAll, 2, -1, 0⟩]
def upTo (W : Words) (ps : List Pd) (k : Nat) : List Gp := heads W ps ++ (ps.take k).flatMap (podGs W)
def groups (W : Words) (ps : List Pd) : List Gp := upTo W ps ps.length
def within (W : Words) (ps : List Pd) (k j : Nat) : List Gp := upTo W ps k ++ podG W (pd ps k) :: ((pd ps k).cs.take j).map (contG W (pd ps k))
theorem upTo_zero (W : Words) (ps : List Pd) : upTo W ps 0 = heads W ps := by simp [upTo]
theorem take_pd {ps : List Pd} {k : Nat} (h : k < ps.length) : ps.take (k + 1) = ps.take k ++ [pd ps k] := by
  rw [List.take_add_one, pd, List.getD_eq_getElem?_getD, List.getElem?_eq_getElem h]; rfl
theorem take_ct {cs : List Ct} {k : Nat} (h : k < cs.length) : cs.take (k + 1) = cs.take k ++ [ct cs k] := by
  rw [List.take_add_one, ct, List.getD_eq_getElem?_getD, List.getElem?_eq_getElem h]; rfl
theorem within_zero (W : Words) (ps : List Pd) (k : Nat) : within W ps k 0 = upTo W ps k ++ [podG W (pd ps k)] := by simp [within]
theorem within_succ (W : Words) (ps : List Pd) (k j : Nat) (h : j < (pd ps k).cs.length) : within W ps k (j + 1) = within W ps k j ++ [contG W (pd ps k) (ct (pd ps k).cs j)] := by
  unfold within
  rw [take_ct h]
  simp
theorem within_all (W : Words) (ps : List Pd) (k : Nat) (h : k < ps.length) : within W ps k (pd ps k).cs.length = upTo W ps (k + 1) := by
  unfold within upTo
  rw [take_pd h, List.take_of_length_le (Nat.le_refl _)]
  simp [podGs]
theorem within_len (W : Words) (ps : List Pd) (k j : Nat) (h : j ≤ (pd ps k).cs.length) : (within W ps k j).length = (upTo W ps k).length + 1 + j := by
  simp [within]; omega
theorem upTo_len0 (W : Words) (ps : List Pd) : (upTo W ps 0).length = 2 := by simp [upTo, heads]
theorem upTo_pre (W : Words) (ps : List Pd) (k n : Nat) (h : k ≤ n) : ∃ r, upTo W ps n = upTo W ps k ++ r := by
  unfold upTo
  refine ⟨((ps.take n).drop k).flatMap (podGs W), ?_⟩
  rw [List.append_assoc, ← List.flatMap_append]
  congr 2
  have := List.take_append_drop k (ps.take n)
  rw [List.take_take, Nat.min_eq_left h] at this
  exact this.symm
theorem groups_pod (W : Words) {ps : List Pd} {k : Nat} (h : k < ps.length) : (upTo W ps k).length < (groups W ps).length ∧ gp (groups W ps) (upTo W ps k).length = podG W (pd ps k) := by
  obtain ⟨r, hr⟩ := upTo_pre W ps (k + 1) ps.length (by omega)
  unfold groups
  rw [hr, ← within_all W ps k h]
  unfold within gp
  refine ⟨by simp, ?_⟩
  rw [List.append_assoc, List.getD_eq_getElem?_getD, List.getElem?_append_right (Nat.le_refl _)]
  simp
theorem groups_cont (W : Words) {ps : List Pd} {k j : Nat} (h : k < ps.length) (hj : j < (pd ps k).cs.length) : (upTo W ps k).length + 1 + j < (groups W ps).length ∧ gp (groups W ps) ((upTo W ps k).length + 1 + j) = contG W (pd ps k) (ct (pd ps k).cs j) := by
  obtain ⟨r, hr⟩ := upTo_pre W ps (k + 1) ps.length (by omega)
  unfold groups
  rw [hr, ← within_all W ps k h]
  unfold within gp
  refine ⟨by simp; omega, ?_⟩
  rw [List.append_assoc, List.getD_eq_getElem?_getD, List.getElem?_append_right (by omega), show (upTo W ps k).length + 1 + j - (upTo W ps k).length = j + 1 by omega]
  rw [List.take_of_length_le (Nat.le_refl _), List.cons_append, List.getElem?_cons_succ, List.getElem?_append_left (by simpa using hj)]
  simp [ct, hj]
theorem upTo_step (W : Words) {ps : List Pd} {k : Nat} (h : k < ps.length) : (upTo W ps (k + 1)).length = (upTo W ps k).length + 1 + (pd ps k).cs.length := by
  rw [← within_all W ps k h, within_len W ps k _ (Nat.le_refl _)]
theorem upTo_most {ps : List Pd} (hl : ps.length ≤ 16) (h3 : ∀ j, j < ps.length → (pd ps j).cs.length ≤ 3) (W : Words) {k : Nat} (hk : k ≤ ps.length) : (upTo W ps k).length ≤ 66 := by
  have : ∀ n, n ≤ ps.length → (upTo W ps n).length ≤ 2 + 4 * n := by
    intro n
    induction n with
    | zero => intro _; rw [upTo_len0]; omega
    | succ n ih =>
      intro hn
      rw [upTo_step W (by omega)]
      have h1 := ih (by omega)
      have h2 := h3 n (by omega)
      omega
  have := this k hk
  omega
theorem shares_mono {a b : Int} (h : a ≤ b) : shares a ≤ shares b := by
  unfold shares
  have : a * 1024 / 1000 ≤ b * 1024 / 1000 := by omega
  omega
theorem lim_pos {f : Ct → Int} {cs : List Ct} (h0 : ∀ k, k < cs.length → 0 ≤ f (ct cs k)) (h : 0 < lim f cs) {k : Nat} (hk : k < cs.length) : 0 < f (ct cs k) ∧ f (ct cs k) ≤ lim f cs := by
  unfold lim at *
  split at h
  · rename_i ha
    have h1 := allTo_at ha k hk
    have h2 := h0 k hk
    rw [if_pos ha]
    simp at h1
    exact ⟨by omega, sumTo_part (f := fun k => f (ct cs k)) h0 hk⟩
  · omega
theorem quota_pos {m : Int} (h0 : 0 ≤ m) (h : 0 < quota m) : 0 < m := by
  unfold quota at h
  split at h <;> omega
theorem lim_nonneg {f : Ct → Int} {cs : List Ct} (h0 : ∀ k, k < cs.length → 0 ≤ f (ct cs k)) : 0 ≤ lim f cs := by
  unfold lim
  split
  · exact sumTo_nonneg h0
  · exact Int.le_refl _
/-- What 'TopTree' asks of a container's group beside its pod's. -/
theorem tree (W : Words) {p : Pd} (hm : Mild p.cs) {j : Nat} (hj : j < p.cs.length) :
    (contG W p (ct p.cs j)).sh ≤ (podG W p).sh ∧ (0 < (podG W p).by' → 0 < (contG W p (ct p.cs j)).by' ∧ (contG W p (ct p.cs j)).by' ≤ (podG W p).by') ∧ (0 < (podG W p).qu → 0 ≤ (contG W p (ct p.cs j)).qu ∧ (contG W p (ct p.cs j)).qu ≤ (podG W p).qu) := by
  obtain ⟨h1, h2, h3, h4, _⟩ := hm.2 j hj
  refine ⟨shares_mono (sumTo_part (f := fun k => (ct p.cs k).am) (fun k hk => (hm.2 k hk).1.1) hj), fun h => lim_pos (f := Ct.cb) (fun k hk => (hm.2 k hk).2.2.2.1.1) h hj, fun h => ?_⟩
  have hl0 := lim_nonneg (f := Ct.cm) (cs := p.cs) (fun k hk => (hm.2 k hk).2.2.1.1)
  have hl := quota_pos hl0 h
  obtain ⟨g1, g2⟩ := lim_pos (f := Ct.cm) (fun k hk => (hm.2 k hk).2.2.1.1) hl hj
  show 0 ≤ quota (ct p.cs j).cm ∧ quota (ct p.cs j).cm ≤ quota (lim Ct.cm p.cs)
  unfold quota
  rw [if_neg (by omega), if_neg (by omega)]
  omega
theorem path_pre (a b : ByteArray) : (a ++ b).extract 0 a.size = a := by
  have := ByteArray.extract_append_eq_left (a := a) (b := b) (i := a.size) rfl
  exact this
end Qos
end Go.Proofs.YtlljniaobbbjgaaGreatDoor
namespace Go.Proofs.YtlljniaobbbjgaaGreatDoor
namespace Ost
/-- The numbers of a set, rising, below a bound. -/
def listTo (A k : Nat) : List Nat := (List.range k).filter (A.testBit ·)
theorem listTo_succ (A k : Nat) : listTo A (k + 1) = if A.testBit k then listTo A k ++ [k] else listTo A k := by
  unfold listTo
  rw [List.range_succ, List.filter_append]
  by_cases h : A.testBit k <;> simp [h]
/-- Where the run of numbers begins that a number lies in. -/
def runStart (A : Nat) : Nat → Nat
  | 0 => 0
  | n + 1 => if A.testBit n then runStart A n else n + 1
/-- Runs that end below a bound. -/
def spansTo (A : Nat) : Nat → List (Nat × Nat)
  | 0 => []
  | k + 1 => if A.testBit k && !A.testBit (k + 1) then spansTo A k ++ [(runStart A k, k)] else spansTo A k
def spanTxt (p : Nat × Nat) : List UInt8 := if p.1 = p.2 then Lib.decDigits p.1 else Lib.decDigits p.1 ++ [45] ++ Lib.decDigits p.2
def joined (l : List (Nat × Nat)) : List UInt8 := Lib.join (l.map spanTxt) [44]
theorem join_snoc (xs : List (List UInt8)) (x sep : List UInt8) : Lib.join (xs ++ [x]) sep = if xs = [] then x else Lib.join xs sep ++ sep ++ x := by
  unfold Lib.join
  induction xs with
  | nil => simp [List.intercalate]
  | cons a r ih =>
    simp only [List.cons_append, reduceCtorEq, if_false]
    cases r with
    | nil => simp [List.intercalate]
    | cons b t =>
      simp only [List.cons_append, reduceCtorEq, if_false] at ih
      have e1 : sep.intercalate (a :: b :: (t ++ [x])) = a ++ sep ++ sep.intercalate (b :: (t ++ [x])) := by simp [List.intercalate, List.intersperse]
      have e2 : sep.intercalate (a :: b :: t) = a ++ sep ++ sep.intercalate (b :: t) := by simp [List.intercalate, List.intersperse]
      rw [List.cons_append, e1, e2, ih]
      simp
theorem decDigits_ne (n : Nat) : Lib.decDigits n ≠ [] := by
  intro h
  have := Lib.decDigits_length n
  rw [h] at this
  have := Lib.nDigits_pos n
  simp at *
  omega
theorem spanTxt_ne (p : Nat × Nat) : spanTxt p ≠ [] := by
  unfold spanTxt
  split
  · exact decDigits_ne _
  · simp
theorem joined_nil (l : List (Nat × Nat)) : joined l = [] ↔ l = [] := by
  constructor
  · intro h
    cases l with
    | nil => rfl
    | cons a r =>
      exfalso
      unfold joined at h
      cases r with
      | nil => simp [Lib.join, List.intercalate] at h; exact spanTxt_ne a h
      | cons b t => simp [Lib.join, List.intercalate] at h
  · rintro rfl; rfl
theorem joined_snoc (l : List (Nat × Nat)) (p : Nat × Nat) : joined (l ++ [p]) = if joined l = [] then spanTxt p else joined l ++ [44] ++ spanTxt p := by
  unfold joined
  rw [List.map_append, List.map_cons, List.map_nil, join_snoc]
  by_cases h : l = []
  · subst h; simp [Lib.join, List.intercalate]
  · rw [if_neg (by simpa using h), if_neg]
    intro e
    exact h ((joined_nil l).1 e)
end Ost
end Go.Proofs.YtlljniaobbbjgaaGreatDoor
namespace Go.Proofs.YtlljniaobbbjgaaGreatDoor
namespace Ost
theorem good_of_num (m : Int) (l : List UInt8) (hm : m ≤ 18) : good m l = (isNum l && decide ((l.length : Int) ≤ m)) := by
  cases hn : isNum l with
  | false => simp [good, hn]
  | true =>
    by_cases hl : (l.length : Int) ≤ m
    · have hd := ((isNum_iff l).1 hn).2.2
      have h1 := val_lt_pow l hd
      have h2 : (10 : Int) ^ l.length ≤ 10 ^ 18 := by
        have : (10 : Nat) ^ l.length ≤ 10 ^ 18 := Nat.pow_le_pow_right (by omega) (by omega)
        exact_mod_cast this
      have : val l ≤ maxI := by unfold maxI; omega
      simp [good, hn, hl, this]
    · simp [good, hn, hl]
/-- Where the first point stands (or the end) in what is behind place j. -/
def dotAt (l : List UInt8) (j : Nat) : Nat := j + (cut1 46 (l.drop j)).1.length
theorem dotAt_end (l : List UInt8) : dotAt l l.length = l.length := by simp [dotAt, cut1]
theorem dotAt_dot (l : List UInt8) (j : Nat) (h : j < l.length) (hd : l[j] = 46) : dotAt l j = j := by
  unfold dotAt
  rw [List.drop_eq_getElem_cons h, cut1, if_pos hd]; simp
theorem dotAt_not (l : List UInt8) (j : Nat) (h : j < l.length) (hd : l[j] ≠ 46) : dotAt l j = dotAt l (j + 1) := by
  unfold dotAt
  rw [List.drop_eq_getElem_cons h, cut1, if_neg hd]; simp; omega
theorem dotAt_le (l : List UInt8) (j : Nat) (h : j ≤ l.length) : dotAt l j ≤ l.length := by
  unfold dotAt
  rcases cut1_index 46 (l.drop j) with ⟨_, e⟩ | ⟨i, _, e⟩ <;> rw [e] <;> simp <;> omega
theorem cut1_dotAt (l : List UInt8) : cut1 46 l = (l.take (dotAt l 0), l.drop (dotAt l 0 + 1), decide (dotAt l 0 < l.length)) := by
  unfold dotAt
  rw [List.drop_zero, Nat.zero_add]
  rcases cut1_index 46 l with ⟨_, e⟩ | ⟨i, h, e⟩
  · rw [e]; simp
  · rw [e]
    have hi : i < l.length := by
      induction l generalizing i with
      | nil => simp [Lib.index] at h
      | cons b r ih =>
        simp only [List.length_cons]
        cases i with
        | zero => omega
        | succ i =>
          have hb : ¬ b = 46 := fun hb => by rw [cut1, if_pos hb] at e; simp at e
          rw [cut1, if_neg hb] at e
          simp at e
          have hp : ([46] : List UInt8).isPrefixOf (b :: r) = false := by simp [List.isPrefixOf]; exact fun e => hb e.symm
          rw [Lib.index, hp] at h
          by_cases hq : Lib.index r [46] = -1
          · simp [hq] at h; omega
          · have := ih i (by simp [hq] at h; omega) (by rw [← e.1, ← e.2.1, ← e.2.2])
            omega
    simp; omega
theorem hasSuffix_one (l : List UInt8) (c : UInt8) : Lib.hasSuffix l [c] = decide (l.getLast? = some c) := by
  unfold Lib.hasSuffix
  rw [Bool.eq_iff_iff]
  simp only [List.isSuffixOf_iff_suffix, decide_eq_true_eq]
  constructor
  · rintro ⟨t, rfl⟩; simp
  · intro h
    obtain ⟨t, rfl⟩ := List.getLast?_eq_some_iff.1 h
    exact ⟨t, rfl⟩
theorem trim_one (l : List UInt8) (c : UInt8) (h : Lib.hasSuffix l [c] = true) : Lib.trimSuffix l [c] = l.take (l.length - 1) := by
  simp [Lib.trimSuffix, h]
theorem last_s (s : ByteArray) (h : 0 < s.size) (c : UInt8) : s.data.toList.getLast? = some c ↔ s[s.size - 1] = c := by
  have hl : s.data.toList.length = s.size := by simp
  rw [List.getLast?_eq_getElem?, hl, List.getElem?_eq_getElem (by omega)]
  simp only [Option.some.injEq]
  exact Iff.rfl
end Ost
end Go.Proofs.YtlljniaobbbjgaaGreatDoor
namespace Go.Proofs.YtlljniaobbbjgaaGreatDoor.S1
open Go.RowKit
theorem bit_eq (A n : Nat) (hA : A < 18446744073709551616) : (bits BinOp.and IntKind.u64 ((A : Int) / 2 ^ n) 1 == 1) = A.testBit n := by
  have e : ((A : Int) / 2 ^ n) = ((A / 2 ^ n : Nat) : Int) := by simp
  have hlt : A / 2 ^ n < 18446744073709551616 := Nat.lt_of_le_of_lt (Nat.div_le_self _ _) hA
  rw [e, show (1 : Int) = ((1 : Nat) : Int) from rfl, bits_and_u64_nat _ _ hlt (by omega), Nat.testBit_eq_decide_div_mod_eq, Nat.and_one_is_mod]
  rw [Bool.eq_iff_iff]; simp; omega
set_option maxHeartbeats 400000 in
theorem has_in (A n : Nat) (w : World) (hA : A < 18446744073709551616) (hn : n < 64) :
    Calls Tryz.prog 80 #[.int .u64 A, .int .i64 n] w fun e w' => e = .returned (.bool (A.testBit n)) ∧ w' = w := by
  have HB := bit_eq A n hA
  go_enter Tryz.func80, Tryz.ntmps80
  go_wp2_with go_in
  go_ret
  exact ⟨rfl, rfl⟩
set_option maxHeartbeats 400000 in
theorem has_out (A : Nat) (n : Int) (w : World) (hn : n < 0 ∨ 64 ≤ n) :
    Calls Tryz.prog 80 #[.int .u64 A, .int .i64 n] w fun e w' => e = .returned (.bool false) ∧ w' = w := by
  have key : n < 0 ∨ (0 ≤ n ∧ 64 ≤ n) := by omega
  clear hn
  rcases key with h | ⟨h1, h⟩
  all_goals
    go_enter Tryz.func80, Tryz.ntmps80
    go_wp2_with go_in
    go_ret
    exact ⟨rfl, rfl⟩
theorem infoInt : (Tryz.prog.info? 3).map (fun i => (i.zero, i.size, i.bytes)) = some (some (.int .i64 0), 1, 8) := by kernel_rfl
def nums (l : List Nat) : List Value := l.map fun (n : Nat) => Value.int .i64 (n : Int)
theorem nums_snoc (l : List Nat) (n : Nat) : nums (l ++ [n]) = nums l ++ [.int .i64 n] := by simp [nums]
theorem nums_length (l : List Nat) : (nums l).length = l.length := by simp [nums]
theorem listTo_le (A k : Nat) : (Ost.listTo A k).length ≤ k := by
  unfold Ost.listTo
  exact Nat.le_trans (List.length_filter_le _ _) (by simp)
end Go.Proofs.YtlljniaobbbjgaaGreatDoor.S1
namespace Go.Proofs.YtlljniaobbbjgaaGreatDoor.S1
open Go.RowKit
/-- An error's number as Go's value. -/
def errV (n : Int) : Value := if n = 0 then .nilIface else .iface 80 (.int .i64 n)
theorem read_yes (s : ByteArray) (m : Int) (w : World) (hs : s.size ≤ maxLen) (h : Ost.good m s.data.toList = true) :
    Calls Tryz.prog 119 #[.string s, .int .i64 m] w fun e w' => e = .returned (.tuple #[.int .i64 (Ost.val s.data.toList), .bool true]) ∧ w' = w := by
  have := read_any s m w hs
  rw [readOut_yes h] at this; exact this
theorem read_no (s : ByteArray) (m : Int) (w : World) (hs : s.size ≤ maxLen) (h : Ost.good m s.data.toList = false) :
    Calls Tryz.prog 119 #[.string s, .int .i64 m] w fun e w' => e = .returned (.tuple #[.int .i64 0, .bool false]) ∧ w' = w := by
  have := read_any s m w hs
  rw [readOut_no h] at this; exact this

/-- What amount.readPlaces answers. -/
def placesOut (l : List UInt8) : Value := if Ost.placesOk l then .tuple #[.int .i64 (Ost.val (Ost.pad l)), .bool true] else .tuple #[.int .i64 0, .bool false]
theorem placesOut_yes {l : List UInt8} (h : Ost.placesOk l = true) : placesOut l = .tuple #[.int .i64 (Ost.val (Ost.pad l)), .bool true] := by simp [placesOut, h]
theorem placesOut_no {l : List UInt8} (h : Ost.placesOk l = false) : placesOut l = .tuple #[.int .i64 0, .bool false] := by simp [placesOut, h]
theorem trim_le (s p : List UInt8) : (Lib.trimSuffix s p).length ≤ s.length := by
  unfold Lib.trimSuffix; split
  · simp
  · exact Nat.le_refl _
theorem cut1_le (c : UInt8) (l : List UInt8) : (Ost.cut1 c l).1.length ≤ l.length ∧ (Ost.cut1 c l).2.1.length ≤ l.length := by
  rcases Ost.cut1_index c l with ⟨_, h⟩ | ⟨i, _, h⟩ <;> rw [h] <;> simp <;> omega

/-- The library's variable that strings.Cut may look at holds some number. -/
def Mx (w : World) : Prop := ∃ m : Int, w.cell? ⟨0, 0, none⟩ = some (.int .i64 m)
theorem Mx.below {w w' : World} (h : Mx w) (hb : Below w.heap.size w w') : Mx w' := by
  obtain ⟨m, hm⟩ := h
  exact ⟨m, (hb.cell (p := ⟨0, 0, none⟩) (World.block_lt_of_cell? w _ hm)).trans hm⟩
theorem cut_any (s : ByteArray) (c : UInt8) (w : World) (hs : s.size < 4294967281) (hm : Mx w) :
    Calls Tryz.prog 121 #[.string s, .string ⟨#[c]⟩] w fun e w' => e = .returned (.tuple #[.string ⟨(Ost.cut1 c s.data.toList).1.toArray⟩, .string ⟨(Ost.cut1 c s.data.toList).2.1.toArray⟩, .bool (Ost.cut1 c s.data.toList).2.2]) ∧ ∃ n, w' = w.drewN n := by
  obtain ⟨m, hm⟩ := hm
  have := Tryz.strings_Cut s ⟨#[c]⟩ m w hs hm
  rw [show Lib.cut s.data.toList (ByteArray.mk #[c]).data.toList = Ost.cut1 c s.data.toList from Ost.cut_one c _] at this
  exact this
theorem cut_yes (s : ByteArray) (c : UInt8) (w : World) (hs : s.size < 4294967281) (hm : Mx w) (h : (Ost.cut1 c s.data.toList).2.2 = true) :
    Calls Tryz.prog 121 #[.string s, .string ⟨#[c]⟩] w fun e w' => e = .returned (.tuple #[.string ⟨(Ost.cut1 c s.data.toList).1.toArray⟩, .string ⟨(Ost.cut1 c s.data.toList).2.1.toArray⟩, .bool true]) ∧ ∃ n, w' = w.drewN n := by
  have := cut_any s c w hs hm
  rw [h] at this; exact this
theorem cut_no (s : ByteArray) (c : UInt8) (w : World) (hs : s.size < 4294967281) (hm : Mx w) (h : (Ost.cut1 c s.data.toList).2.2 = false) :
    Calls Tryz.prog 121 #[.string s, .string ⟨#[c]⟩] w fun e w' => e = .returned (.tuple #[.string ⟨(Ost.cut1 c s.data.toList).1.toArray⟩, .string ⟨(Ost.cut1 c s.data.toList).2.1.toArray⟩, .bool false]) ∧ ∃ n, w' = w.drewN n := by
  have := cut_any s c w hs hm
  rw [h] at this; exact this

/-- What amount.readMilli answers. -/
def rawOut : Option Int → Value
  | none => .tuple #[.int .i64 0, .bool false]
  | some v => .tuple #[.int .i64 v, .bool true]
theorem good_val (m : Int) (l : List UInt8) (h : Ost.good m l = true) : 0 ≤ Ost.val l ∧ Ost.val l < 10 ^ l.length ∧ (l.length : Int) ≤ m := by
  obtain ⟨⟨_, _, h3⟩, h4, _⟩ := (Ost.good_iff m l).1 h
  exact ⟨Ost.val_nonneg l h3, Ost.val_lt_pow l h3, h4⟩
theorem good6_val (l : List UInt8) (h : Ost.good 6 l = true) : 0 ≤ Ost.val l ∧ Ost.val l ≤ 999999 := by
  obtain ⟨h1, h2, h3⟩ := good_val 6 l h
  refine ⟨h1, ?_⟩
  have : l.length = 0 ∨ l.length = 1 ∨ l.length = 2 ∨ l.length = 3 ∨ l.length = 4 ∨ l.length = 5 ∨ l.length = 6 := by omega
  rcases this with e | e | e | e | e | e | e <;> rw [e] at h2 <;> omega
theorem places_val (l : List UInt8) (h : Ost.placesOk l = true) : 0 ≤ Ost.val (Ost.pad l) ∧ Ost.val (Ost.pad l) ≤ 999 := by
  unfold Ost.placesOk at h
  rw [Bool.and_eq_true, decide_eq_true_eq] at h
  have := Ost.val_pad_bound l h.2 3 (by omega) h.1.2
  rw [List.take_of_length_le (by rw [Ost.pad_length l h.1.2]; omega)] at this
  exact this
end Go.Proofs.YtlljniaobbbjgaaGreatDoor.S1
namespace Go.Proofs.YtlljniaobbbjgaaGreatDoor
namespace Ost
theorem land_split (a m q n : Nat) (ha : a < 256) (hm : m < 256) : (a + 256 * q) &&& (m + 256 * n) = (a &&& m) + 256 * (q &&& n) := by
  have h1 : ∀ x y : Nat, x < 256 → x + 256 * y = 2 ^ 8 * y ||| x := fun x y hx => by
    rw [← Nat.two_pow_add_eq_or_of_lt (i := 8) hx]; omega
  have h2 : a &&& m < 256 := Nat.lt_of_le_of_lt Nat.and_le_left ha
  rw [h1 a q ha, h1 m n hm, h1 _ (q &&& n) h2]
  apply Nat.eq_of_testBit_eq
  intro i
  simp only [Nat.testBit_and, Nat.testBit_or, Nat.testBit_two_pow_mul]
  by_cases hi : 8 ≤ i
  · have e1 : a.testBit i = false := Nat.testBit_lt_two_pow (Nat.lt_of_lt_of_le ha (Nat.pow_le_pow_right (n := 2) (by omega) hi))
    have e2 : m.testBit i = false := Nat.testBit_lt_two_pow (Nat.lt_of_lt_of_le hm (Nat.pow_le_pow_right (n := 2) (by omega) hi))
    simp [e1, e2, hi]
  · simp [hi]
def M0 : Nat → Nat
  | 0 => 0
  | k + 1 => 85 + 256 * M0 k
def M1 : Nat → Nat
  | 0 => 0
  | k + 1 => 51 + 256 * M1 k
def M2 : Nat → Nat
  | 0 => 0
  | k + 1 => 15 + 256 * M2 k
def p1 (k x : Nat) : Nat := (x / 2 &&& M0 k) + (x &&& M0 k)
def p2 (k x : Nat) : Nat := (x / 4 &&& M1 k) + (x &&& M1 k)
def p3 (k x : Nat) : Nat := (x / 16 + x) &&& M2 k
def f1 (b : Nat) : Nat := (b / 2 &&& 85) + (b &&& 85)
def f2 (b : Nat) : Nat := (b / 4 &&& 51) + (b &&& 51)
def f3 (b : Nat) : Nat := (b / 16 + b) &&& 15
theorem c1 : ∀ (b : Fin 256) (c : Fin 2), (b.val / 2 + 128 * c.val) &&& 85 = b.val / 2 &&& 85 := by decide +kernel
theorem c2 : ∀ (b : Fin 256) (c : Fin 4), (b.val / 4 + 64 * c.val) &&& 51 = b.val / 4 &&& 51 := by decide +kernel
theorem c3 : ∀ (b : Fin 256) (c : Fin 5), (f2 (f1 b.val) / 16 + f2 (f1 b.val) + 16 * c.val) &&& 15 = f3 (f2 (f1 b.val)) := by decide +kernel
theorem c4 : ∀ b : Fin 256, f1 b.val < 256 ∧ f2 (f1 b.val) < 69 ∧ f2 (f1 b.val) % 16 ≤ 4 ∧ f3 (f2 (f1 b.val)) ≤ 8 := by decide +kernel
theorem p1_step (k b q : Nat) (hb : b < 256) : p1 (k + 1) (b + 256 * q) = f1 b + 256 * p1 k q := by
  unfold p1 f1
  have e : (b + 256 * q) / 2 = (b / 2 + 128 * (q % 2)) + 256 * (q / 2) := by omega
  rw [e, M0, land_split _ 85 _ _ (by omega) (by omega), land_split b 85 q _ hb (by omega)]
  have h := c1 ⟨b, hb⟩ ⟨q % 2, by omega⟩
  simp only at h
  rw [h]
  generalize b / 2 &&& 85 = u1
  generalize b &&& 85 = u2
  generalize q / 2 &&& M0 k = u3
  generalize q &&& M0 k = u4
  omega
theorem p2_step (k b q : Nat) (hb : b < 256) : p2 (k + 1) (b + 256 * q) = f2 b + 256 * p2 k q := by
  unfold p2 f2
  have e : (b + 256 * q) / 4 = (b / 4 + 64 * (q % 4)) + 256 * (q / 4) := by omega
  rw [e, M1, land_split _ 51 _ _ (by omega) (by omega), land_split b 51 q _ hb (by omega)]
  have h := c2 ⟨b, hb⟩ ⟨q % 4, by omega⟩
  simp only at h
  rw [h]
  generalize b / 4 &&& 51 = u1
  generalize b &&& 51 = u2
  generalize q / 4 &&& M1 k = u3
  generalize q &&& M1 k = u4
  omega
theorem p21_step (k x : Nat) : p2 (k + 1) (p1 (k + 1) x) = f2 (f1 (x % 256)) + 256 * p2 k (p1 k (x / 256)) := by
  have hb : x % 256 < 256 := Nat.mod_lt _ (by omega)
  conv => lhs; rw [show x = x % 256 + 256 * (x / 256) by omega]
  rw [p1_step k _ _ hb, p2_step k _ _ (c4 ⟨_, hb⟩).1]
theorem p21_low (k x : Nat) : p2 k (p1 k x) % 16 ≤ 4 := by
  cases k with
  | zero => simp [p2, M1]
  | succ k =>
    have hb : x % 256 < 256 := Nat.mod_lt _ (by omega)
    have h := (c4 ⟨x % 256, hb⟩).2.2.1
    rw [p21_step]
    simp only at h
    omega
/-- How many, byte by byte. -/
def G (k x : Nat) : Nat := p3 k (p2 k (p1 k x))
def g8 (b : Nat) : Nat := f3 (f2 (f1 b))
theorem G_step (k x : Nat) : G (k + 1) x = g8 (x % 256) + 256 * G k (x / 256) := by
  have hb : x % 256 < 256 := Nat.mod_lt _ (by omega)
  unfold G g8
  rw [p21_step]
  have hq := p21_low k (x / 256)
  generalize hQ : p2 k (p1 k (x / 256)) = Q at hq ⊢
  have hF := (c4 ⟨x % 256, hb⟩).2.1
  have h3 := c3 ⟨x % 256, hb⟩ ⟨Q % 16, by omega⟩
  simp only at hF h3
  generalize f2 (f1 (x % 256)) = F at hF h3 ⊢
  unfold p3
  have e : (F + 256 * Q) / 16 + (F + 256 * Q) = (F / 16 + F + 16 * (Q % 16)) + 256 * (Q / 16 + Q) := by omega
  rw [e, M2, land_split _ 15 _ _ (by omega) (by omega), h3]
theorem testBit_low (b q i : Nat) (hb : b < 256) : (b + 256 * q).testBit i = if i < 8 then b.testBit i else q.testBit (i - 8) := by
  have e : b + 256 * q = 2 ^ 8 * q + b := by omega
  rw [e, Nat.testBit_two_pow_mul_add q (i := 8) hb]
theorem listTo_low (b q k : Nat) (hb : b < 256) : (listTo (b + 256 * q) (8 + k)).length = (listTo b 8).length + (listTo q k).length := by
  induction k with
  | zero =>
    have : listTo (b + 256 * q) (8 + 0) = listTo b 8 := by
      unfold listTo
      apply List.filter_congr
      intro i hi
      rw [testBit_low b q i hb, if_pos (by simpa using hi)]
    rw [this]; rfl
  | succ k ih =>
    show (listTo (b + 256 * q) ((8 + k) + 1)).length = _
    have e : (b + 256 * q).testBit (8 + k) = q.testBit k := by
      rw [testBit_low b q _ hb, if_neg (by omega), show 8 + k - 8 = k by omega]
    rw [listTo_succ, listTo_succ q, e]
    by_cases h : q.testBit k = true
    · rw [if_pos h, if_pos h, List.length_append, List.length_append, ih]; simp; omega
    · rw [if_neg h, if_neg h, ih]
theorem c5 : ∀ b : Fin 256, g8 b.val = (listTo b.val 8).length := by decide +kernel
theorem listTo_step (x k : Nat) : (listTo x (8 + k)).length = g8 (x % 256) + (listTo (x / 256) k).length := by
  have hb : x % 256 < 256 := Nat.mod_lt _ (by omega)
  conv => lhs; rw [show x = x % 256 + 256 * (x / 256) by omega]
  rw [listTo_low _ _ k hb, ← c5 ⟨_, hb⟩]
theorem g8_le (x : Nat) : g8 (x % 256) ≤ 8 := (c4 ⟨x % 256, Nat.mod_lt _ (by omega)⟩).2.2.2
/-- The whole of it. -/
theorem pop_sum (x : Nat) : ∃ a b c d e f g h : Nat, a ≤ 8 ∧ b ≤ 8 ∧ c ≤ 8 ∧ d ≤ 8 ∧ e ≤ 8 ∧ f ≤ 8 ∧ g ≤ 8 ∧ h ≤ 8 ∧
    G 8 x = a + 256 * (b + 256 * (c + 256 * (d + 256 * (e + 256 * (f + 256 * (g + 256 * h)))))) ∧ (listTo x 64).length = a + b + c + d + e + f + g + h := by
  refine ⟨_, _, _, _, _, _, _, _, g8_le x, g8_le (x / 256), g8_le (x / 256 / 256), g8_le (x / 256 / 256 / 256), g8_le (x / 256 / 256 / 256 / 256), g8_le (x / 256 / 256 / 256 / 256 / 256), g8_le (x / 256 / 256 / 256 / 256 / 256 / 256), g8_le (x / 256 / 256 / 256 / 256 / 256 / 256 / 256), ?_, ?_⟩
  · rw [G_step, G_step, G_step, G_step, G_step, G_step, G_step, G_step]
    have : ∀ y, G 0 y = 0 := fun y => by simp [G, p3, M2]
    rw [this, Nat.mul_zero, Nat.add_zero]
  · rw [listTo_step x 56, listTo_step (x / 256) 48, listTo_step (x / 256 / 256) 40, listTo_step (x / 256 / 256 / 256) 32, listTo_step (x / 256 / 256 / 256 / 256) 24, listTo_step (x / 256 / 256 / 256 / 256 / 256) 16, listTo_step (x / 256 / 256 / 256 / 256 / 256 / 256) 8, listTo_step (x / 256 / 256 / 256 / 256 / 256 / 256 / 256) 0]
    have : ∀ y, (listTo y 0).length = 0 := fun y => rfl
    rw [this]; omega
theorem pop_end (X : Nat) (a b c d e f g h : Nat) (_ha : a ≤ 8) (_hb : b ≤ 8) (_hc : c ≤ 8) (_hd : d ≤ 8) (_he : e ≤ 8) (_hf : f ≤ 8) (_hg : g ≤ 8) (_hh : h ≤ 8)
    (hX : X = a + 256 * (b + 256 * (c + 256 * (d + 256 * (e + 256 * (f + 256 * (g + 256 * h))))))) :
    X + X / 256 = (a + b) + 256 * ((b + c) + 256 * ((c + d) + 256 * ((d + e) + 256 * ((e + f) + 256 * ((f + g) + 256 * ((g + h) + 256 * h)))))) := by
  subst hX
  have : (a + 256 * (b + 256 * (c + 256 * (d + 256 * (e + 256 * (f + 256 * (g + 256 * h))))))) / 256 = b + 256 * (c + 256 * (d + 256 * (e + 256 * (f + 256 * (g + 256 * h))))) := by omega
  rw [this]; omega
end Ost
end Go.Proofs.YtlljniaobbbjgaaGreatDoor
