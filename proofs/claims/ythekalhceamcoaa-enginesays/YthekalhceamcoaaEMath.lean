/- Who goes first: no program, no world. -/
import Derived.Test.YthekalhceamcoaaQMath
import Derived.Lib.Small
import Derived.Sort.Statements
import Derived.WideShapes
import Derived.WideAt
namespace Go.Proofs.Ythekalhceamcoaa
namespace Qos
open Go.Sort
/-- What is used by one of a name: the first word on it, else nothing. -/
def usedOf (us : List Nd) (nm : ByteArray) : Int := ((us.find? fun u => decide (u.kind = nm)).map Nd.many).getD 0
structure Key where
  ab : Int
  pr : Int
  nm : ByteArray
instance : Inhabited Key := ⟨⟨0, 0, ByteArray.empty⟩⟩
def turnOf (x : Int) : Int := if 0 < x then 0 else 1
def ltS (a b : ByteArray) : Bool := Op.bytesLess a.toList b.toList
def cmpS (a b : ByteArray) : Int := if ltS a b = true then -1 else if ltS b a = true then 1 else 0
def orI (a b : Int) : Int := if a = 0 then b else a
def keyCmp (a b : Key) : Int := orI (Lib.compareInt (turnOf a.ab) (turnOf b.ab)) (orI (Lib.compareInt a.pr b.pr) (orI (Lib.compareInt b.ab a.ab) (cmpS a.nm b.nm)))
def keyLt (a b : Key) : Bool := decide (keyCmp a b < 0)
def key (us : List Nd) (p : Pd) : Key := ⟨usedOf us p.nm - sumB p.cs p.cs.length, p.pr, p.nm⟩
theorem less_before : ∀ a b : List UInt8, Op.bytesLess a b = bytesBefore a b
  | [], [] => rfl
  | _ :: _, [] => rfl
  | [], _ :: _ => rfl
  | a :: x, b :: y => by rw [Op.bytesLess, bytesBefore, less_before x y]
def one (b : Bool) : Int := if b = true then 1 else 0
theorem one_in (b : Bool) : one b = 0 ∨ one b = 1 := by cases b <;> simp [one]
theorem ltS_irrefl (a : ByteArray) : one (ltS a a) = 0 := by simp [one, ltS, less_before, WideAt.bytes_irrefl]
theorem ltS_trans (a b c : ByteArray) : one (ltS a b) = 1 → one (ltS b c) = 1 → one (ltS a c) = 1 := by
  simp only [one, ltS, less_before]
  intro h1 h2
  have h1' : bytesBefore a.toList b.toList = true := by
    rcases Bool.eq_false_or_eq_true (bytesBefore a.toList b.toList) with h | h
    · exact h
    · rw [h] at h1; cases h1
  have h2' : bytesBefore b.toList c.toList = true := by
    rcases Bool.eq_false_or_eq_true (bytesBefore b.toList c.toList) with h | h
    · exact h
    · rw [h] at h2; cases h2
  rw [WideShapes.bytes_trans _ _ _ h1' h2']; rfl
theorem str_ext {a b : ByteArray} (h : a.toList = b.toList) : a = b := by
  rw [ByteArray.toList_eq, ByteArray.toList_eq] at h
  exact ByteArray.ext (Array.toList_inj.mp h)
theorem ltS_total (a b : ByteArray) : one (ltS a b) = 0 → one (ltS b a) = 0 → a = b := by
  simp only [one, ltS, less_before]
  intro h1 h2
  by_cases e : a.toList = b.toList
  · exact str_ext e
  · rcases WideAt.bytes_total _ _ e with h | h
    · rw [h] at h1; cases h1
    · rw [h] at h2; cases h2
theorem ltS_asymm (a b : ByteArray) : one (ltS a b) = 1 → one (ltS b a) = 0 := by
  intro h
  rcases one_in (ltS b a) with g | g
  · exact g
  · have := ltS_trans a b a h g
    rw [ltS_irrefl] at this; cases this
theorem ltS_ntrans (a b c : ByteArray) : one (ltS a b) = 0 → one (ltS b c) = 0 → one (ltS a c) = 0 := by
  intro h1 h2
  rcases one_in (ltS a c) with g | g
  · exact g
  rcases one_in (ltS b a) with k | k
  · rw [ltS_total a b h1 k] at g; omega
  · have := ltS_trans b a c k g; omega
theorem keyLt_eq (a b : Key) : keyLt a b = true ↔ (turnOf a.ab < turnOf b.ab ∨ (turnOf a.ab = turnOf b.ab ∧ (a.pr < b.pr ∨ (a.pr = b.pr ∧ (b.ab < a.ab ∨ (a.ab = b.ab ∧ one (ltS a.nm b.nm) = 1)))))) := by
  unfold keyLt keyCmp orI Lib.compareInt cmpS
  have hs := ltS_asymm a.nm b.nm
  generalize turnOf a.ab = ta
  generalize turnOf b.ab = tb
  generalize ltS a.nm b.nm = s1 at *
  generalize ltS b.nm a.nm = s2 at *
  rw [decide_eq_true_iff]
  cases s1 <;> cases s2 <;> simp [one] at * <;> (repeat' split) <;> omega
theorem keyLt_no (a b : Key) : keyLt a b = false ↔ ¬ (turnOf a.ab < turnOf b.ab ∨ (turnOf a.ab = turnOf b.ab ∧ (a.pr < b.pr ∨ (a.pr = b.pr ∧ (b.ab < a.ab ∨ (a.ab = b.ab ∧ one (ltS a.nm b.nm) = 1)))))) := by
  rw [← keyLt_eq]; simp
theorem swoKey : SWO keyLt where
  irrefl a := by
    rw [keyLt_no]
    have := ltS_irrefl a.nm
    omega
  trans a b c h1 h2 := by
    rw [keyLt_eq] at *
    have := ltS_trans a.nm b.nm c.nm
    omega
  ntrans a b c h1 h2 := by
    rw [keyLt_no] at *
    have h3 := ltS_ntrans a.nm b.nm c.nm
    have h4 := one_in (ltS a.nm b.nm)
    have h5 := one_in (ltS b.nm c.nm)
    have h6 := one_in (ltS a.nm c.nm)
    omega
theorem key_total {a b : Key} (h1 : keyLt a b = false) (h2 : keyLt b a = false) : a = b := by
  rw [keyLt_no] at *
  have h3 := ltS_total a.nm b.nm
  have h4 := one_in (ltS a.nm b.nm)
  have h5 := one_in (ltS b.nm a.nm)
  have e1 : a.pr = b.pr := by omega
  have e2 : a.ab = b.ab := by omega
  have e3 : a.nm = b.nm := h3 (by omega) (by omega)
  cases a; cases b
  simp at e1 e2 e3
  simp [e1, e2, e3]
/-- In order. -/
def Ranked (l : List Key) : Prop := l.Pairwise fun a b => keyLt b a = false
theorem ranked_unique {l1 l2 : List Key} (hp : l1.Perm l2) (h1 : Ranked l1) (h2 : Ranked l2) : l1 = l2 :=
  List.Perm.eq_of_pairwise (le := fun a b => keyLt b a = false) (fun _ _ _ _ g1 g2 => key_total g2 g1) h1 h2 hp
/-- What those behind a place use together. -/
def tail (us : List Nd) (l : List Pd) (i : Nat) : Int := ((l.drop i).map fun p => usedOf us p.nm).sum
theorem tail_end (us : List Nd) (l : List Pd) : tail us l l.length = 0 := by simp [tail]
theorem tail_step (us : List Nd) {l : List Pd} {i : Nat} (h : i < l.length) : tail us l i = usedOf us (pd l i).nm + tail us l (i + 1) := by
  unfold tail
  rw [List.drop_eq_getElem_cons h, List.map_cons, List.sum_cons, pd, List.getD_eq_getElem?_getD, List.getElem?_eq_getElem h]
  rfl
/-- The first place from i on behind which no more is used than may be; the end, if there is none. -/
structure Least (us : List Nd) (l : List Pd) (most : Int) (i g : Nat) : Prop where
  lo : i ≤ g
  hi : g ≤ l.length
  no : ∀ j, i ≤ j → j < g → most < tail us l j
  yes : g < l.length → tail us l g ≤ most
theorem Least.start (us : List Nd) (l : List Pd) (most : Int) : Least us l most l.length l.length := ⟨Nat.le_refl _, Nat.le_refl _, fun j h1 h2 => by omega, fun h => by omega⟩
theorem Least.stay {us : List Nd} {l : List Pd} {most : Int} {i g : Nat} (h : Least us l most (i + 1) g) (hm : most < tail us l i) : Least us l most i g :=
  ⟨by have := h.lo; omega, h.hi, fun j h1 h2 => by
    by_cases e : j = i
    · subst e; exact hm
    · exact h.no j (by omega) h2, h.yes⟩
theorem Least.here {us : List Nd} {l : List Pd} {most : Int} {i : Nat} (hi : i < l.length) (hm : tail us l i ≤ most) : Least us l most i i :=
  ⟨Nat.le_refl _, by omega, fun j h1 h2 => by omega, fun _ => hm⟩
theorem Least.unique {us : List Nd} {l : List Pd} {most : Int} {i g g' : Nat} (h : Least us l most i g) (h' : Least us l most i g') : g = g' := by
  rcases Nat.lt_trichotomy g g' with e | e | e
  · have h1 := h'.no g h.lo e
    have h2 := h.yes (by have := h'.hi; omega)
    omega
  · exact e
  · have h1 := h.no g' h'.lo e
    have h2 := h'.yes (by have := h.hi; omega)
    omega
end Qos
end Go.Proofs.Ythekalhceamcoaa
