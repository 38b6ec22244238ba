/- Pods, what they are and what is set for them: no program, no world. -/
import Derived.Test.YthekalhceamcoaaDMath
namespace Go.Proofs.Ythekalhceamcoaa
namespace Qos
open Dvs (first nameMay allTo)
/-- A need of devices. -/
structure Nd where
  kind : ByteArray
  many : Int
def nd0 : Nd := ⟨ByteArray.empty, 0⟩
/-- A container: what it asks for, what it may have. -/
structure Ct where
  nm : ByteArray
  am : Int
  ab : Int
  cm : Int
  cb : Int
  ds : List Nd
def ct0 : Ct := ⟨ByteArray.empty, 0, 0, 0, 0, []⟩
/-- A pod. -/
structure Pd where
  nm : ByteArray
  pr : Int
  cs : List Ct
def pd0 : Pd := ⟨ByteArray.empty, 0, []⟩
instance : Inhabited Nd := ⟨nd0⟩
instance : Inhabited Ct := ⟨ct0⟩
instance : Inhabited Pd := ⟨pd0⟩
def nd (l : List Nd) (k : Nat) : Nd := l.getD k nd0
def ct (l : List Ct) (k : Nat) : Ct := l.getD k ct0
def pd (l : List Pd) (k : Nat) : Pd := l.getD k pd0
/-- Is one ahead of another, or like it, as bytes? -/
def leS (a b : ByteArray) : Bool := Op.bytesLess a.toList b.toList || a.toList == b.toList
def needF (ds : List Nd) (j : Nat) : Nat :=
  if nameMay (nd ds j).kind = false ∨ (0 < j ∧ leS (nd ds j).kind (nd ds (j - 1)).kind = true) then 3
  else if (nd ds j).many < 1 ∨ 16 < (nd ds j).many then 1 else 0
def amtOk (m b : Int) : Bool := decide (0 ≤ m) && decide (m ≤ 1000000) && decide (0 ≤ b) && decide (b ≤ 1125899906842624)
def over (a c : Int) : Bool := decide (c ≠ 0) && decide (c < a)
def twice (cs : List Ct) (k : Nat) : Bool := (cs.take k).any fun o => decide (o.nm = (ct cs k).nm)
def contF (cs : List Ct) (k : Nat) : Nat :=
  if nameMay (ct cs k).nm = false then 3
  else if twice cs k = true then 5
  else if amtOk (ct cs k).am (ct cs k).ab = false ∨ amtOk (ct cs k).cm (ct cs k).cb = false then 1
  else if over (ct cs k).am (ct cs k).cm = true ∨ over (ct cs k).ab (ct cs k).cb = true then 3
  else if 3 < (ct cs k).ds.length then 2
  else first (needF (ct cs k).ds) (ct cs k).ds.length
def podF (p : Pd) : Nat :=
  if nameMay p.nm = false then 3
  else if p.pr < 0 ∨ 1000 < p.pr then 1
  else if p.cs.length < 1 ∨ 3 < p.cs.length then 2
  else first (contF p.cs) p.cs.length
def quiet (c : Ct) : Bool := decide (c.am = 0) && decide (c.ab = 0) && decide (c.cm = 0) && decide (c.cb = 0)
def sure (c : Ct) : Bool := decide (c.am = c.cm) && decide (c.ab = c.cb) && decide (c.am ≠ 0) && decide (c.ab ≠ 0)
def silent (cs : List Ct) (n : Nat) : Bool := allTo (fun k => quiet (ct cs k)) n
def certain (cs : List Ct) (n : Nat) : Bool := allTo (fun k => sure (ct cs k)) n
def classOf (cs : List Ct) : Int := if silent cs cs.length = true then 1 else if certain cs cs.length = true then 3 else 2
def sumTo (f : Nat → Int) : Nat → Int
  | 0 => 0
  | k + 1 => sumTo f k + f k
def sumM (cs : List Ct) (n : Nat) : Int := sumTo (fun k => (ct cs k).am) n
def sumB (cs : List Ct) (n : Nat) : Int := sumTo (fun k => (ct cs k).ab) n
def ownOf (cs : List Ct) (m : Int) : Int := if classOf cs = 3 ∧ m % 1000 = 0 then m / 1000 else 0
/-- What they ask for, and may have, is such as there may be. -/
def Mild (cs : List Ct) : Prop := cs.length ≤ 3 ∧ ∀ k, k < cs.length → (0 ≤ (ct cs k).am ∧ (ct cs k).am ≤ 1000000) ∧ (0 ≤ (ct cs k).ab ∧ (ct cs k).ab ≤ 1125899906842624) ∧ (0 ≤ (ct cs k).cm ∧ (ct cs k).cm ≤ 1000000) ∧ (0 ≤ (ct cs k).cb ∧ (ct cs k).cb ≤ 1125899906842624) ∧ ((ct cs k).cm ≠ 0 → (ct cs k).am ≤ (ct cs k).cm) ∧ ((ct cs k).cb ≠ 0 → (ct cs k).ab ≤ (ct cs k).cb)
theorem amt_in {m b : Int} (h : amtOk m b = true) : (0 ≤ m ∧ m ≤ 1000000) ∧ (0 ≤ b ∧ b ≤ 1125899906842624) := by
  simp [amtOk] at h; omega
theorem cont_mild {cs : List Ct} {k : Nat} (h : contF cs k = 0) : amtOk (ct cs k).am (ct cs k).ab = true ∧ amtOk (ct cs k).cm (ct cs k).cb = true ∧ over (ct cs k).am (ct cs k).cm = false ∧ over (ct cs k).ab (ct cs k).cb = false := by
  unfold contF at h
  split at h
  · cases h
  split at h
  · cases h
  split at h
  · cases h
  split at h
  · cases h
  · rename_i h1 h2
    rw [not_or] at h1 h2
    exact ⟨by simpa using h1.1, by simpa using h1.2, by simpa using h2.1, by simpa using h2.2⟩
theorem pod_len {p : Pd} (h : podF p = 0) : nameMay p.nm = true ∧ (0 ≤ p.pr ∧ p.pr ≤ 1000) ∧ (1 ≤ p.cs.length ∧ p.cs.length ≤ 3) ∧ first (contF p.cs) p.cs.length = 0 := by
  unfold podF at h
  split at h
  · cases h
  split at h
  · cases h
  split at h
  · cases h
  · rename_i h1 h2 h3
    exact ⟨by simpa using h1, by omega, by omega, h⟩
theorem pod_mild {p : Pd} (h : podF p = 0) : Mild p.cs := by
  obtain ⟨_, _, ⟨_, h3⟩, hf⟩ := pod_len h
  refine ⟨h3, fun k hk => ?_⟩
  obtain ⟨h1, h2, h4, h5⟩ := cont_mild (Dvs.first_all hf k hk)
  obtain ⟨a1, a2⟩ := amt_in h1
  obtain ⟨a3, a4⟩ := amt_in h2
  refine ⟨a1, a2, a3, a4, ?_, ?_⟩
  · intro h0
    simp [over, h0] at h4
    exact h4
  · intro h0
    simp [over, h0] at h5
    exact h5
theorem mild_nil : Mild [] := ⟨by simp, fun k hk => by simp at hk⟩
theorem allTo_at {f : Nat → Bool} {n : Nat} (h : allTo f n = true) : ∀ k, k < n → f k = true := by
  induction n with
  | zero => intro k hk; omega
  | succ n ih =>
    rw [allTo, Bool.and_eq_true] at h
    intro k hk
    by_cases e : k = n
    · subst e; exact h.2
    · exact ih h.1 k (by omega)
theorem sumTo_le {f g : Nat → Int} {n : Nat} (h : ∀ k, k < n → f k ≤ g k) : sumTo f n ≤ sumTo g n := by
  induction n with
  | zero => exact Int.le_refl _
  | succ n ih =>
    have h1 := ih (fun k hk => h k (by omega))
    have h2 := h n (by omega)
    simp only [sumTo]
    omega
theorem sumTo_congr {f g : Nat → Int} {n : Nat} (h : ∀ k, k < n → f k = g k) : sumTo f n = sumTo g n := by
  induction n with
  | zero => rfl
  | succ n ih => simp only [sumTo]; rw [ih (fun k hk => h k (by omega)), h n (by omega)]
theorem sumTo_nonneg {f : Nat → Int} {n : Nat} (h : ∀ k, k < n → 0 ≤ f k) : 0 ≤ sumTo f n := by
  induction n with
  | zero => exact Int.le_refl _
  | succ n ih =>
    have h1 := ih (fun k hk => h k (by omega))
    have h2 := h n (by omega)
    simp only [sumTo]
    omega
theorem sumTo_most {f : Nat → Int} {n : Nat} {B : Int} (h : ∀ k, k < n → f k ≤ B) : sumTo f n ≤ n * B := by
  induction n with
  | zero => simp [sumTo]
  | succ n ih =>
    have h1 := ih (fun k hk => h k (by omega))
    have h2 := h n (by omega)
    simp only [sumTo]
    have e : ((n + 1 : Nat) : Int) * B = n * B + B := by rw [Int.natCast_add, Int.add_mul]; simp
    omega
theorem sumTo_mul (c : Int) (f : Nat → Int) (n : Nat) : c * sumTo f n = sumTo (fun k => c * f k) n := by
  induction n with
  | zero => simp [sumTo]
  | succ n ih => simp only [sumTo, Int.mul_add, ih]
theorem sumTo_part {f : Nat → Int} {n k : Nat} (h : ∀ j, j < n → 0 ≤ f j) (hk : k < n) : f k ≤ sumTo f n := by
  induction n with
  | zero => omega
  | succ n ih =>
    simp only [sumTo]
    by_cases e : k = n
    · subst e
      have := sumTo_nonneg (f := f) (n := k) (fun j hj => h j (by omega))
      omega
    · have h1 := ih (fun j hj => h j (by omega)) (by omega)
      have h2 := h n (by omega)
      omega
theorem sumM_in {cs : List Ct} (hm : Mild cs) {n : Nat} (hn : n ≤ cs.length) : 0 ≤ sumM cs n ∧ sumM cs n ≤ 3000000 := by
  have h1 := sumTo_nonneg (f := fun k => (ct cs k).am) (n := n) (fun k hk => (hm.2 k (by omega)).1.1)
  have h2 := sumTo_most (f := fun k => (ct cs k).am) (n := n) (B := 1000000) (fun k hk => (hm.2 k (by omega)).1.2)
  have := hm.1
  unfold sumM
  omega
theorem sumB_in {cs : List Ct} (hm : Mild cs) {n : Nat} (hn : n ≤ cs.length) : 0 ≤ sumB cs n ∧ sumB cs n ≤ 3377699720527872 := by
  have h1 := sumTo_nonneg (f := fun k => (ct cs k).ab) (n := n) (fun k hk => (hm.2 k (by omega)).2.1.1)
  have h2 := sumTo_most (f := fun k => (ct cs k).ab) (n := n) (B := 1125899906842624) (fun k hk => (hm.2 k (by omega)).2.1.2)
  have := hm.1
  unfold sumB
  omega
theorem class_in (cs : List Ct) : classOf cs = 1 ∨ classOf cs = 2 ∨ classOf cs = 3 := by
  unfold classOf
  split
  · exact .inl rfl
  split
  · exact .inr (.inr rfl)
  · exact .inr (.inl rfl)
theorem class_sure {cs : List Ct} (h : classOf cs = 3) : ∀ k, k < cs.length → sure (ct cs k) = true := by
  unfold classOf at h
  split at h
  · cases h
  split at h
  · rename_i h1; exact allTo_at h1
  · cases h
theorem class_quiet {cs : List Ct} (h : classOf cs = 1) : ∀ k, k < cs.length → quiet (ct cs k) = true := by
  unfold classOf at h
  split at h
  · rename_i h1; exact allTo_at h1
  split at h <;> cases h
theorem quiet_sums {cs : List Ct} (h : classOf cs = 1) : sumM cs cs.length = 0 ∧ sumB cs cs.length = 0 := by
  have hq := class_quiet h
  have hz : ∀ n, sumTo (fun _ => 0) n = 0 := by
    intro n
    induction n with
    | zero => rfl
    | succ n ih => simp [sumTo, ih]
  constructor
  · rw [sumM, ← hz cs.length]
    exact sumTo_congr fun k hk => by have := hq k hk; simp [quiet] at this; omega
  · rw [sumB, ← hz cs.length]
    exact sumTo_congr fun k hk => by have := hq k hk; simp [quiet] at this; omega
theorem own_in {cs : List Ct} {k : Nat} (hm : Mild cs) (hk : k < cs.length) : 0 ≤ ownOf cs (ct cs k).am ∧ 1000 * ownOf cs (ct cs k).am ≤ (ct cs k).am ∧ ownOf cs (ct cs k).am ≤ 1000 := by
  have h := (hm.2 k hk).1
  unfold ownOf
  split <;> omega
theorem own_pos {cs : List Ct} {k : Nat} (hk : k < cs.length) (h : 0 < ownOf cs (ct cs k).am) : classOf cs = 3 ∧ (ct cs k).am = (ct cs k).cm ∧ (ct cs k).ab = (ct cs k).cb ∧ 1000 * ownOf cs (ct cs k).am = (ct cs k).am := by
  unfold ownOf at *
  split at h
  · rename_i hc
    have hs := class_sure hc.1 k hk
    simp [sure] at hs
    rw [if_pos hc]
    exact ⟨hc.1, by omega, by omega, by omega⟩
  · omega
theorem own_sum {cs : List Ct} (hm : Mild cs) : 1000 * sumTo (fun k => ownOf cs (ct cs k).am) cs.length ≤ sumM cs cs.length := by
  rw [sumTo_mul]
  exact sumTo_le fun k hk => (own_in hm hk).2.1
theorem own_part {cs : List Ct} (hm : Mild cs) {n : Nat} (hn : n ≤ cs.length) : 0 ≤ sumTo (fun k => ownOf cs (ct cs k).am) n ∧ sumTo (fun k => ownOf cs (ct cs k).am) n ≤ 3000 := by
  have h1 := sumTo_nonneg (f := fun k => ownOf cs (ct cs k).am) (n := n) (fun k hk => (own_in hm (by omega)).1)
  have h2 := sumTo_most (f := fun k => ownOf cs (ct cs k).am) (n := n) (B := 1000) (fun k hk => (own_in hm (by omega)).2.2)
  have := hm.1
  omega
/-- The kind ahead of a place. -/
def lastOf (ds : List Nd) (k : Nat) : ByteArray := if k = 0 then ByteArray.empty else (nd ds (k - 1)).kind
theorem last_succ (ds : List Nd) (k : Nat) : lastOf ds (k + 1) = (nd ds k).kind := by simp [lastOf]
theorem leS_empty {s : ByteArray} (h : nameMay s = true) : leS s ByteArray.empty = false := by
  unfold nameMay at h
  have h0 : 0 < s.size := by
    simp at h; omega
  have h1 : s.toList ≠ [] := by
    intro e
    rw [ByteArray.toList_eq] at e
    have : s.data.toList.length = 0 := by rw [e]; rfl
    rw [Array.length_toList] at this
    have h2 : s.data.size = s.size := rfl
    omega
  unfold leS
  rw [show ByteArray.empty.toList = [] by rw [ByteArray.toList_eq]; rfl]
  cases hs : s.toList with
  | nil => exact absurd hs h1
  | cons a l => simp [Op.bytesLess]
theorem need_name {ds : List Nd} {k : Nat} (h : nameMay (nd ds k).kind = false) : needF ds k = 3 := by unfold needF; rw [if_pos (.inl h)]
theorem need_le {ds : List Nd} {k : Nat} (h : nameMay (nd ds k).kind = true) (h2 : leS (nd ds k).kind (lastOf ds k) = true) : needF ds k = 3 := by
  unfold needF
  by_cases h0 : k = 0
  · subst h0
    rw [show lastOf ds 0 = ByteArray.empty from rfl, leS_empty h] at h2
    cases h2
  · rw [lastOf, if_neg h0] at h2
    rw [if_pos (.inr ⟨by omega, h2⟩)]
theorem need_many {ds : List Nd} {k : Nat} (h : nameMay (nd ds k).kind = true) (h2 : leS (nd ds k).kind (lastOf ds k) = false) : needF ds k = if (nd ds k).many < 1 ∨ 16 < (nd ds k).many then 1 else 0 := by
  unfold needF
  rw [if_neg]
  rintro (h3 | ⟨h3, h4⟩)
  · rw [h] at h3; cases h3
  · rw [lastOf, if_neg (by omega)] at h2
    rw [h2] at h4; cases h4
end Qos
end Go.Proofs.Ythekalhceamcoaa
