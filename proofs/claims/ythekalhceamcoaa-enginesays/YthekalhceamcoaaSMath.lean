/- Plain facts about sets of numbers below 64 and how they are written: no program, no world. -/
import Derived.Test.YthekalhceamcoaaMath
import Derived.Lib.Join
import Derived.Lib.ItoaNum
namespace Go.Proofs.Ythekalhceamcoaa
namespace Ost
/-- The numbers of a set, rising, below a bound. -/
def listTo (A k : Nat) : List Nat := (List.range k).filter (A.testBit ·)
theorem listTo_succ (A k : Nat) : listTo A (k + 1) = if A.testBit k then listTo A k ++ [k] else listTo A k := by
  unfold listTo
  rw [List.range_succ, List.filter_append]
  by_cases h : A.testBit k <;> simp [h]
/-- Where the run of numbers begins that a number lies in. -/
def runStart (A : Nat) : Nat → Nat
  | 0 => 0
  | n + 1 => if A.testBit n then runStart A n else n + 1
/-- Runs that end below a bound. -/
def spansTo (A : Nat) : Nat → List (Nat × Nat)
  | 0 => []
  | k + 1 => if A.testBit k && !A.testBit (k + 1) then spansTo A k ++ [(runStart A k, k)] else spansTo A k
def spanTxt (p : Nat × Nat) : List UInt8 := if p.1 = p.2 then Lib.decDigits p.1 else Lib.decDigits p.1 ++ [45] ++ Lib.decDigits p.2
def joined (l : List (Nat × Nat)) : List UInt8 := Lib.join (l.map spanTxt) [44]
theorem join_snoc (xs : List (List UInt8)) (x sep : List UInt8) : Lib.join (xs ++ [x]) sep = if xs = [] then x else Lib.join xs sep ++ sep ++ x := by
  unfold Lib.join
  induction xs with
  | nil => simp [List.intercalate]
  | cons a r ih =>
    simp only [List.cons_append, reduceCtorEq, if_false]
    cases r with
    | nil => simp [List.intercalate]
    | cons b t =>
      simp only [List.cons_append, reduceCtorEq, if_false] at ih
      have e1 : sep.intercalate (a :: b :: (t ++ [x])) = a ++ sep ++ sep.intercalate (b :: (t ++ [x])) := by simp [List.intercalate, List.intersperse]
      have e2 : sep.intercalate (a :: b :: t) = a ++ sep ++ sep.intercalate (b :: t) := by simp [List.intercalate, List.intersperse]
      rw [List.cons_append, e1, e2, ih]
      simp
theorem decDigits_ne (n : Nat) : Lib.decDigits n ≠ [] := by
  intro h
  have := Lib.decDigits_length n
  rw [h] at this
  have := Lib.nDigits_pos n
  simp at *
  omega
theorem spanTxt_ne (p : Nat × Nat) : spanTxt p ≠ [] := by
  unfold spanTxt
  split
  · exact decDigits_ne _
  · simp
theorem joined_nil (l : List (Nat × Nat)) : joined l = [] ↔ l = [] := by
  constructor
  · intro h
    cases l with
    | nil => rfl
    | cons a r =>
      exfalso
      unfold joined at h
      cases r with
      | nil => simp [Lib.join, List.intercalate] at h; exact spanTxt_ne a h
      | cons b t => simp [Lib.join, List.intercalate] at h
  · rintro rfl; rfl
theorem joined_snoc (l : List (Nat × Nat)) (p : Nat × Nat) : joined (l ++ [p]) = if joined l = [] then spanTxt p else joined l ++ [44] ++ spanTxt p := by
  unfold joined
  rw [List.map_append, List.map_cons, List.map_nil, join_snoc]
  by_cases h : l = []
  · subst h; simp [Lib.join, List.intercalate]
  · rw [if_neg (by simpa using h), if_neg]
    intro e
    exact h ((joined_nil l).1 e)
end Ost
end Go.Proofs.Ythekalhceamcoaa
