/- Plain facts about the reference's way of bringing hints together: no program, no world. -/
import Derived.Test.YtlpogejkmigimaaMMath
namespace Go.Proofs.Ytlpogejkmigimaa
namespace Ost
def inTo (a : Hi) (C : List Hi) (sel : Bool) : Nat → Nat → Bool
  | 0, _ => false
  | j + 1, m => inTo a C sel j m || decide (com a (C.getD j (0, false)) = (m, sel))
def outTo (L C : List Hi) (sel : Bool) : Nat → Nat → Bool
  | 0, _ => false
  | i + 1, m => outTo L C sel i m || inTo (L.getD i (0, false)) C sel C.length m
theorem inTo_iff (a : Hi) (C : List Hi) (sel : Bool) (j m : Nat) : inTo a C sel j m = true ↔ ∃ b, b < j ∧ com a (C.getD b (0, false)) = (m, sel) := by
  induction j with
  | zero => simp [inTo]
  | succ j ih =>
    rw [inTo, Bool.or_eq_true, ih, decide_eq_true_eq]
    constructor
    · rintro (⟨b, hb, h⟩ | h)
      · exact ⟨b, by omega, h⟩
      · exact ⟨j, by omega, h⟩
    · rintro ⟨b, hb, h⟩
      by_cases e : b = j
      · subst e; exact .inr h
      · exact .inl ⟨b, by omega, h⟩
theorem outTo_iff (L C : List Hi) (sel : Bool) (i m : Nat) (hi : i ≤ L.length) : outTo L C sel i m = true ↔ ∃ k, k < i ∧ ∃ c, c ∈ C ∧ com (L.getD k (0, false)) c = (m, sel) := by
  induction i with
  | zero => simp [outTo]
  | succ i ih =>
    rw [outTo, Bool.or_eq_true, ih (by omega), inTo_iff]
    constructor
    · rintro (⟨k, hk, c, hc, h⟩ | ⟨b, hb, h⟩)
      · exact ⟨k, by omega, c, hc, h⟩
      · exact ⟨i, by omega, _, getD_mem C _ b hb, h⟩
    · rintro ⟨k, hk, c, hc, h⟩
      by_cases e : k = i
      · subst e
        obtain ⟨b, hb, rfl⟩ := mem_getD (0, false) hc
        exact .inr ⟨b, hb, h⟩
      · exact .inl ⟨k, by omega, c, hc, h⟩
/-- The table's list. -/
def soTo (g b : Nat → Bool) : Nat → List Hi
  | 0 => []
  | 1 => []
  | k + 2 => (soTo g b (k + 1) ++ if g (k + 1) then [(k + 1, true)] else []) ++ if b (k + 1) then [(k + 1, false)] else []
theorem soTo_step (g b : Nat → Bool) (k : Nat) (hk : 1 ≤ k) : soTo g b (k + 1) = (soTo g b k ++ if g k then [(k, true)] else []) ++ if b k then [(k, false)] else [] := by
  obtain ⟨i, rfl⟩ : ∃ i, k = i + 1 := ⟨k - 1, by omega⟩
  rfl
theorem soTo_len (g b : Nat → Bool) (k : Nat) : (soTo g b k).length ≤ 2 * k := by
  induction k with
  | zero => simp [soTo]
  | succ k ih =>
    rcases Nat.eq_zero_or_pos k with rfl | hk
    · simp [soTo]
    · rw [soTo_step g b k hk]
      simp only [List.length_append]
      split <;> split <;> simp <;> omega
theorem soTo_mem (g b : Nat → Bool) (k : Nat) (x : Hi) : x ∈ soTo g b k ↔ 1 ≤ x.1 ∧ x.1 < k ∧ (if x.2 then g x.1 else b x.1) = true := by
  induction k with
  | zero => simp [soTo]
  | succ k ih =>
    rcases Nat.eq_zero_or_pos k with rfl | hk
    · simp [soTo]
      intro h1 h2
      omega
    · rw [soTo_step g b k hk, List.mem_append, List.mem_append, ih]
      obtain ⟨m, s⟩ := x
      constructor
      · rintro ((⟨h1, h2, h3⟩ | h) | h)
        · exact ⟨h1, by omega, h3⟩
        · by_cases hg : g k = true
          · rw [if_pos hg] at h
            simp at h
            obtain ⟨rfl, rfl⟩ := h
            exact ⟨hk, by show m < m + 1; omega, by simpa using hg⟩
          · rw [if_neg hg] at h; simp at h
        · by_cases hg : b k = true
          · rw [if_pos hg] at h
            simp at h
            obtain ⟨rfl, rfl⟩ := h
            exact ⟨hk, by show m < m + 1; omega, by simpa using hg⟩
          · rw [if_neg hg] at h; simp at h
      · rintro ⟨h1, h2, h3⟩
        by_cases e : m = k
        · subst e
          cases s
          · right
            have : b m = true := by simpa using h3
            rw [if_pos this]; simp
          · left; right
            have : g m = true := by simpa using h3
            rw [if_pos this]; simp
        · left; left
          exact ⟨h1, by show m < k; have : m < k + 1 := h2; omega, h3⟩
theorem outs_step {pol : Int} {nodes : Nat} {ws : List Wi} {k : Nat} {L : List Hi} (hn : nodes < 256) (h : Outs pol nodes ws k L) : Outs pol nodes ws (k + 1) (soTo (outTo L (cho pol nodes (ws.getD k wi0)) true L.length) (outTo L (cho pol nodes (ws.getD k wi0)) false L.length) 256) := by
  intro x
  rw [soTo_mem, reach]
  have key : (if x.2 then outTo L (cho pol nodes (ws.getD k wi0)) true L.length x.1 else outTo L (cho pol nodes (ws.getD k wi0)) false L.length x.1) = true ↔ ∃ a, a ∈ L ∧ ∃ c, c ∈ cho pol nodes (ws.getD k wi0) ∧ com a c = x := by
    obtain ⟨m, s⟩ := x
    have e : (if s then outTo L (cho pol nodes (ws.getD k wi0)) true L.length m else outTo L (cho pol nodes (ws.getD k wi0)) false L.length m) = outTo L (cho pol nodes (ws.getD k wi0)) s L.length m := by cases s <;> rfl
    show (if s then outTo L (cho pol nodes (ws.getD k wi0)) true L.length m else outTo L (cho pol nodes (ws.getD k wi0)) false L.length m) = true ↔ _
    rw [e, outTo_iff _ _ _ _ _ (Nat.le_refl _)]
    constructor
    · rintro ⟨i, hi, c, hc, h⟩
      exact ⟨_, getD_mem L _ i hi, c, hc, h⟩
    · rintro ⟨a, ha, c, hc, h⟩
      obtain ⟨i, hi, rfl⟩ := mem_getD (0, false) ha
      exact ⟨i, hi, c, hc, h⟩
  rw [key]
  constructor
  · rintro ⟨h1, _, a, ha, c, hc, rfl⟩
    exact ⟨by omega, a, c, (h a).1 ha, hc, rfl⟩
  · rintro ⟨h0, a, c, ha, hc, rfl⟩
    have hlt : (com a c).1 < 256 := Nat.lt_of_le_of_lt Nat.and_le_left (reach_lt hn ha)
    exact ⟨by omega, hlt, a, (h a).2 ha, c, hc, rfl⟩
theorem cho_len (pol : Int) (nodes : Nat) (w : Wi) (h : w.hs.length ≤ 16) : (cho pol nodes w).length ≤ 16 := by
  unfold cho
  split
  · simp
  · split
    · simp
    · exact Nat.le_trans (List.length_filter_le _ _) h
theorem cho_low (pol : Int) (nodes : Nat) (w : Wi) (hn : nodes < 256) (h : Low w.hs) : Low (cho pol nodes w) := by
  unfold cho
  split
  · intro x hx; rw [List.mem_singleton] at hx; subst hx; exact hn
  · split
    · intro x hx; rw [List.mem_singleton] at hx; subst hx; exact hn
    · intro x hx; exact h x (List.mem_filter.1 hx).1
end Ost
end Go.Proofs.Ytlpogejkmigimaa
