/- Plain facts: how many bits are set, as math/bits counts them. -/
import Derived.Test.YthekalhceamcoaaSMath
namespace Go.Proofs.Ythekalhceamcoaa
namespace Ost
theorem land_split (a m q n : Nat) (ha : a < 256) (hm : m < 256) : (a + 256 * q) &&& (m + 256 * n) = (a &&& m) + 256 * (q &&& n) := by
  have h1 : ∀ x y : Nat, x < 256 → x + 256 * y = 2 ^ 8 * y ||| x := fun x y hx => by
    rw [← Nat.two_pow_add_eq_or_of_lt (i := 8) hx]; omega
  have h2 : a &&& m < 256 := Nat.lt_of_le_of_lt Nat.and_le_left ha
  rw [h1 a q ha, h1 m n hm, h1 _ (q &&& n) h2]
  apply Nat.eq_of_testBit_eq
  intro i
  simp only [Nat.testBit_and, Nat.testBit_or, Nat.testBit_two_pow_mul]
  by_cases hi : 8 ≤ i
  · have e1 : a.testBit i = false := Nat.testBit_lt_two_pow (Nat.lt_of_lt_of_le ha (Nat.pow_le_pow_right (n := 2) (by omega) hi))
    have e2 : m.testBit i = false := Nat.testBit_lt_two_pow (Nat.lt_of_lt_of_le hm (Nat.pow_le_pow_right (n := 2) (by omega) hi))
    simp [e1, e2, hi]
  · simp [hi]
def M0 : Nat → Nat
  | 0 => 0
  | k + 1 => 85 + 256 * M0 k
def M1 : Nat → Nat
  | 0 => 0
  | k + 1 => 51 + 256 * M1 k
def M2 : Nat → Nat
  | 0 => 0
  | k + 1 => 15 + 256 * M2 k
def p1 (k x : Nat) : Nat := (x / 2 &&& M0 k) + (x &&& M0 k)
def p2 (k x : Nat) : Nat := (x / 4 &&& M1 k) + (x &&& M1 k)
def p3 (k x : Nat) : Nat := (x / 16 + x) &&& M2 k
def f1 (b : Nat) : Nat := (b / 2 &&& 85) + (b &&& 85)
def f2 (b : Nat) : Nat := (b / 4 &&& 51) + (b &&& 51)
def f3 (b : Nat) : Nat := (b / 16 + b) &&& 15
theorem c1 : ∀ (b : Fin 256) (c : Fin 2), (b.val / 2 + 128 * c.val) &&& 85 = b.val / 2 &&& 85 := by decide +kernel
theorem c2 : ∀ (b : Fin 256) (c : Fin 4), (b.val / 4 + 64 * c.val) &&& 51 = b.val / 4 &&& 51 := by decide +kernel
theorem c3 : ∀ (b : Fin 256) (c : Fin 5), (f2 (f1 b.val) / 16 + f2 (f1 b.val) + 16 * c.val) &&& 15 = f3 (f2 (f1 b.val)) := by decide +kernel
theorem c4 : ∀ b : Fin 256, f1 b.val < 256 ∧ f2 (f1 b.val) < 69 ∧ f2 (f1 b.val) % 16 ≤ 4 ∧ f3 (f2 (f1 b.val)) ≤ 8 := by decide +kernel
theorem p1_step (k b q : Nat) (hb : b < 256) : p1 (k + 1) (b + 256 * q) = f1 b + 256 * p1 k q := by
  unfold p1 f1
  have e : (b + 256 * q) / 2 = (b / 2 + 128 * (q % 2)) + 256 * (q / 2) := by omega
  rw [e, M0, land_split _ 85 _ _ (by omega) (by omega), land_split b 85 q _ hb (by omega)]
  have h := c1 ⟨b, hb⟩ ⟨q % 2, by omega⟩
  simp only at h
  rw [h]
  generalize b / 2 &&& 85 = u1
  generalize b &&& 85 = u2
  generalize q / 2 &&& M0 k = u3
  generalize q &&& M0 k = u4
  omega
theorem p2_step (k b q : Nat) (hb : b < 256) : p2 (k + 1) (b + 256 * q) = f2 b + 256 * p2 k q := by
  unfold p2 f2
  have e : (b + 256 * q) / 4 = (b / 4 + 64 * (q % 4)) + 256 * (q / 4) := by omega
  rw [e, M1, land_split _ 51 _ _ (by omega) (by omega), land_split b 51 q _ hb (by omega)]
  have h := c2 ⟨b, hb⟩ ⟨q % 4, by omega⟩
  simp only at h
  rw [h]
  generalize b / 4 &&& 51 = u1
  generalize b &&& 51 = u2
  generalize q / 4 &&& M1 k = u3
  generalize q &&& M1 k = u4
  omega
theorem p21_step (k x : Nat) : p2 (k + 1) (p1 (k + 1) x) = f2 (f1 (x % 256)) + 256 * p2 k (p1 k (x / 256)) := by
  have hb : x % 256 < 256 := Nat.mod_lt _ (by omega)
  conv => lhs; rw [show x = x % 256 + 256 * (x / 256) by omega]
  rw [p1_step k _ _ hb, p2_step k _ _ (c4 ⟨_, hb⟩).1]
theorem p21_low (k x : Nat) : p2 k (p1 k x) % 16 ≤ 4 := by
  cases k with
  | zero => simp [p2, M1]
  | succ k =>
    have hb : x % 256 < 256 := Nat.mod_lt _ (by omega)
    have h := (c4 ⟨x % 256, hb⟩).2.2.1
    rw [p21_step]
    simp only at h
    omega
/-- How many, byte by byte. -/
def G (k x : Nat) : Nat := p3 k (p2 k (p1 k x))
def g8 (b : Nat) : Nat := f3 (f2 (f1 b))
theorem G_step (k x : Nat) : G (k + 1) x = g8 (x % 256) + 256 * G k (x / 256) := by
  have hb : x % 256 < 256 := Nat.mod_lt _ (by omega)
  unfold G g8
  rw [p21_step]
  have hq := p21_low k (x / 256)
  generalize hQ : p2 k (p1 k (x / 256)) = Q at hq ⊢
  have hF := (c4 ⟨x % 256, hb⟩).2.1
  have h3 := c3 ⟨x % 256, hb⟩ ⟨Q % 16, by omega⟩
  simp only at hF h3
  generalize f2 (f1 (x % 256)) = F at hF h3 ⊢
  unfold p3
  have e : (F + 256 * Q) / 16 + (F + 256 * Q) = (F / 16 + F + 16 * (Q % 16)) + 256 * (Q / 16 + Q) := by omega
  rw [e, M2, land_split _ 15 _ _ (by omega) (by omega), h3]
theorem testBit_low (b q i : Nat) (hb : b < 256) : (b + 256 * q).testBit i = if i < 8 then b.testBit i else q.testBit (i - 8) := by
  have e : b + 256 * q = 2 ^ 8 * q + b := by omega
  rw [e, Nat.testBit_two_pow_mul_add q (i := 8) hb]
theorem listTo_low (b q k : Nat) (hb : b < 256) : (listTo (b + 256 * q) (8 + k)).length = (listTo b 8).length + (listTo q k).length := by
  induction k with
  | zero =>
    have : listTo (b + 256 * q) (8 + 0) = listTo b 8 := by
      unfold listTo
      apply List.filter_congr
      intro i hi
      rw [testBit_low b q i hb, if_pos (by simpa using hi)]
    rw [this]; rfl
  | succ k ih =>
    show (listTo (b + 256 * q) ((8 + k) + 1)).length = _
    have e : (b + 256 * q).testBit (8 + k) = q.testBit k := by
      rw [testBit_low b q _ hb, if_neg (by omega), show 8 + k - 8 = k by omega]
    rw [listTo_succ, listTo_succ q, e]
    by_cases h : q.testBit k = true
    · rw [if_pos h, if_pos h, List.length_append, List.length_append, ih]; simp; omega
    · rw [if_neg h, if_neg h, ih]
theorem c5 : ∀ b : Fin 256, g8 b.val = (listTo b.val 8).length := by decide +kernel
theorem listTo_step (x k : Nat) : (listTo x (8 + k)).length = g8 (x % 256) + (listTo (x / 256) k).length := by
  have hb : x % 256 < 256 := Nat.mod_lt _ (by omega)
  conv => lhs; rw [show x = x % 256 + 256 * (x / 256) by omega]
  rw [listTo_low _ _ k hb, ← c5 ⟨_, hb⟩]
theorem g8_le (x : Nat) : g8 (x % 256) ≤ 8 := (c4 ⟨x % 256, Nat.mod_lt _ (by omega)⟩).2.2.2
/-- The whole of it. -/
theorem pop_sum (x : Nat) : ∃ a b c d e f g h : Nat, a ≤ 8 ∧ b ≤ 8 ∧ c ≤ 8 ∧ d ≤ 8 ∧ e ≤ 8 ∧ f ≤ 8 ∧ g ≤ 8 ∧ h ≤ 8 ∧
    G 8 x = a + 256 * (b + 256 * (c + 256 * (d + 256 * (e + 256 * (f + 256 * (g + 256 * h)))))) ∧ (listTo x 64).length = a + b + c + d + e + f + g + h := by
  refine ⟨_, _, _, _, _, _, _, _, g8_le x, g8_le (x / 256), g8_le (x / 256 / 256), g8_le (x / 256 / 256 / 256), g8_le (x / 256 / 256 / 256 / 256), g8_le (x / 256 / 256 / 256 / 256 / 256), g8_le (x / 256 / 256 / 256 / 256 / 256 / 256), g8_le (x / 256 / 256 / 256 / 256 / 256 / 256 / 256), ?_, ?_⟩
  · rw [G_step, G_step, G_step, G_step, G_step, G_step, G_step, G_step]
    have : ∀ y, G 0 y = 0 := fun y => by simp [G, p3, M2]
    rw [this, Nat.mul_zero, Nat.add_zero]
  · rw [listTo_step x 56, listTo_step (x / 256) 48, listTo_step (x / 256 / 256) 40, listTo_step (x / 256 / 256 / 256) 32, listTo_step (x / 256 / 256 / 256 / 256) 24, listTo_step (x / 256 / 256 / 256 / 256 / 256) 16, listTo_step (x / 256 / 256 / 256 / 256 / 256 / 256) 8, listTo_step (x / 256 / 256 / 256 / 256 / 256 / 256 / 256) 0]
    have : ∀ y, (listTo y 0).length = 0 := fun y => rfl
    rw [this]; omega
theorem pop_end (X : Nat) (a b c d e f g h : Nat) (_ha : a ≤ 8) (_hb : b ≤ 8) (_hc : c ≤ 8) (_hd : d ≤ 8) (_he : e ≤ 8) (_hf : f ≤ 8) (_hg : g ≤ 8) (_hh : h ≤ 8)
    (hX : X = a + 256 * (b + 256 * (c + 256 * (d + 256 * (e + 256 * (f + 256 * (g + 256 * h))))))) :
    X + X / 256 = (a + b) + 256 * ((b + c) + 256 * ((c + d) + 256 * ((d + e) + 256 * ((e + f) + 256 * ((f + g) + 256 * ((g + h) + 256 * h)))))) := by
  subst hX
  have : (a + 256 * (b + 256 * (c + 256 * (d + 256 * (e + 256 * (f + 256 * (g + 256 * h))))))) / 256 = b + 256 * (c + 256 * (d + 256 * (e + 256 * (f + 256 * (g + 256 * h))))) := by omega
  rw [this]; omega
end Ost
end Go.Proofs.Ythekalhceamcoaa
