/- Plain facts about bringing hints together: which places come out, and which is best: no program, no world. -/
import Derived.Test.YtlpogejkmigimaaHMath
namespace Go.Proofs.Ytlpogejkmigimaa
namespace Ost
abbrev Hi := Nat × Bool
/-- A wish: may it lie anywhere, and its hints. -/
structure Wi where
  any : Bool
  hs : List Hi
def wi0 : Wi := ⟨false, []⟩
/-- Is one place better than another one? -/
def bet (a b : Hi) : Bool := if a.2 != b.2 then a.2 else if pop8 a.1 != pop8 b.1 then decide (pop8 a.1 < pop8 b.1) else decide (a.1 < b.1)
/-- The same as one number. -/
def key (a : Hi) : Nat := (if a.2 then 0 else 4096) + pop8 a.1 * 256 + a.1
theorem bet_key (a b : Hi) (ha : a.1 < 256) (hb : b.1 < 256) : bet a b = decide (key a < key b) := by
  obtain ⟨m, g⟩ := a
  obtain ⟨n, f⟩ := b
  have h1 := pop8_le m
  have h2 := pop8_le n
  simp only at ha hb
  unfold bet key
  by_cases hp : pop8 m = pop8 n
  · cases g <;> cases f <;> simp [hp] <;> omega
  · have hp' : (pop8 m != pop8 n) = true := by simpa using hp
    cases g <;> cases f <;> simp [hp] <;> omega
theorem key_inj (a b : Hi) (ha : a.1 < 256) (hb : b.1 < 256) (h : key a = key b) : a = b := by
  obtain ⟨m, g⟩ := a
  obtain ⟨n, f⟩ := b
  have h1 := pop8_le m
  have h2 := pop8_le n
  simp only at ha hb
  unfold key at h
  cases g <;> cases f <;> simp at h
  · have : m = n := by omega
    rw [this]
  · omega
  · omega
  · have : m = n := by omega
    rw [this]
/-- The best of the first ones, and of one besides. -/
def bestTo (L : List Hi) (b0 : Hi) : Nat → Hi
  | 0 => b0
  | k + 1 => if bet (L.getD k (0, false)) (bestTo L b0 k) then L.getD k (0, false) else bestTo L b0 k
def best (L : List Hi) (b0 : Hi) : Hi := bestTo L b0 L.length
def Low (L : List Hi) : Prop := ∀ x, x ∈ L → x.1 < 256
theorem getD_mem {α : Type} (L : List α) (d : α) (k : Nat) (h : k < L.length) : L.getD k d ∈ L := by simp [h]
theorem mem_getD {α : Type} {L : List α} (d : α) {x : α} (h : x ∈ L) : ∃ k, k < L.length ∧ L.getD k d = x := by
  obtain ⟨k, hk, he⟩ := List.getElem_of_mem h
  exact ⟨k, hk, by simp [hk, he]⟩
theorem bestTo_spec (L : List Hi) (b0 : Hi) (hL : Low L) (h0 : b0.1 < 256) (k : Nat) (hk : k ≤ L.length) :
    (bestTo L b0 k = b0 ∨ bestTo L b0 k ∈ L) ∧ (bestTo L b0 k).1 < 256 ∧ key (bestTo L b0 k) ≤ key b0 ∧ ∀ j, j < k → key (bestTo L b0 k) ≤ key (L.getD j (0, false)) := by
  induction k with
  | zero => exact ⟨.inl rfl, h0, Nat.le_refl _, fun j hj => by omega⟩
  | succ k ih =>
    obtain ⟨h1, h2, h3, h4⟩ := ih (by omega)
    have hm := getD_mem L (0, false) k (by omega)
    have hx := hL _ hm
    rw [bestTo]
    generalize hz : L.getD k (0, false) = x at *
    have hbk := bet_key x (bestTo L b0 k) hx h2
    by_cases hb : bet x (bestTo L b0 k) = true
    · rw [if_pos hb]
      rw [hb] at hbk
      have hlt := of_decide_eq_true hbk.symm
      refine ⟨.inr hm, hx, by omega, fun j hj => ?_⟩
      by_cases e : j = k
      · subst e; rw [hz]; exact Nat.le_refl _
      · have := h4 j (by omega); omega
    · rw [if_neg hb]
      have hb' : bet x (bestTo L b0 k) = false := by simpa using hb
      rw [hb'] at hbk
      have hge := of_decide_eq_false hbk.symm
      refine ⟨h1, h2, h3, fun j hj => ?_⟩
      by_cases e : j = k
      · subst e; rw [hz]; omega
      · exact h4 j (by omega)
theorem best_lt {L : List Hi} {b0 : Hi} (hL : Low L) (h0 : b0.1 < 256) (k : Nat) (hk : k ≤ L.length) : (bestTo L b0 k).1 < 256 := (bestTo_spec L b0 hL h0 k hk).2.1
theorem best_mem {L : List Hi} {b0 : Hi} (hL : Low L) (h0 : b0.1 < 256) : best L b0 = b0 ∨ best L b0 ∈ L := (bestTo_spec L b0 hL h0 _ (Nat.le_refl _)).1
theorem best_le0 {L : List Hi} {b0 : Hi} (hL : Low L) (h0 : b0.1 < 256) : key (best L b0) ≤ key b0 := (bestTo_spec L b0 hL h0 _ (Nat.le_refl _)).2.2.1
theorem best_le {L : List Hi} {b0 : Hi} (hL : Low L) (h0 : b0.1 < 256) {x : Hi} (hx : x ∈ L) : key (best L b0) ≤ key x := by
  obtain ⟨k, hk, rfl⟩ := mem_getD (0, false) hx
  exact (bestTo_spec L b0 hL h0 _ (Nat.le_refl _)).2.2.2 k hk
theorem best_ext {L M : List Hi} {b0 : Hi} (hL : Low L) (hM : Low M) (h0 : b0.1 < 256) (h : ∀ x, x ∈ L ↔ x ∈ M) : best L b0 = best M b0 := by
  have key1 : ∀ (L M : List Hi), Low L → Low M → (∀ x, x ∈ L → x ∈ M) → key (best M b0) ≤ key (best L b0) := by
    intro L M hL hM h
    rcases best_mem hL h0 with e | e
    · rw [e]; exact best_le0 hM h0
    · exact best_le hM h0 (h _ e)
  have a := key1 L M hL hM fun x hx => (h x).1 hx
  have b := key1 M L hM hL fun x hx => (h x).2 hx
  exact key_inj _ _ (best_lt hL h0 _ (Nat.le_refl _)) (best_lt hM h0 _ (Nat.le_refl _)) (by omega)
/-- Which hints may be chosen under a policy. -/
def okH (pol : Int) (h : Hi) : Bool := decide (pol < 3) || (h.2 && decide (pop8 h.1 = 1))
/-- What a wish leaves. -/
def cho (pol : Int) (nodes : Nat) (w : Wi) : List Hi := if w.any then [(nodes, true)] else if (w.hs.filter (okH pol)).length = 0 then [(nodes, false)] else w.hs.filter (okH pol)
def com (a c : Hi) : Hi := (a.1 &&& c.1, a.2 && c.2)
/-- What comes out of the first wishes. -/
def reach (pol : Int) (nodes : Nat) (ws : List Wi) : Nat → Hi → Prop
  | 0, h => h = (nodes, true)
  | k + 1, h => h.1 ≠ 0 ∧ ∃ a c, reach pol nodes ws k a ∧ c ∈ cho pol nodes (ws.getD k wi0) ∧ h = com a c
theorem com_sub {a c : Hi} {nodes : Nat} (h : a.1 &&& nodes = a.1) : (com a c).1 &&& nodes = (com a c).1 := by
  show (a.1 &&& c.1) &&& nodes = a.1 &&& c.1
  rw [Nat.and_assoc, Nat.and_comm c.1, ← Nat.and_assoc, h]
theorem reach_sub {pol : Int} {nodes : Nat} {ws : List Wi} {k : Nat} {h : Hi} (hr : reach pol nodes ws k h) : h.1 &&& nodes = h.1 := by
  induction k generalizing h with
  | zero => rw [show h = (nodes, true) from hr]; exact Nat.and_self _
  | succ k ih =>
    obtain ⟨_, a, c, ha, _, rfl⟩ := hr
    exact com_sub (ih ha)
theorem reach_lt {pol : Int} {nodes : Nat} {ws : List Wi} {k : Nat} {h : Hi} (hn : nodes < 256) (hr : reach pol nodes ws k h) : h.1 < 256 := by
  rw [← reach_sub hr]
  exact Nat.lt_of_le_of_lt Nat.and_le_right hn
/-- A list of what comes out. -/
def Outs (pol : Int) (nodes : Nat) (ws : List Wi) (k : Nat) (L : List Hi) : Prop := ∀ x, x ∈ L ↔ reach pol nodes ws k x
theorem Outs.low {pol : Int} {nodes : Nat} {ws : List Wi} {k : Nat} {L : List Hi} (h : Outs pol nodes ws k L) (hn : nodes < 256) : Low L := fun x hx => reach_lt hn ((h x).1 hx)
/-- A choice within these nodes. -/
def within (nodes : Nat) (h : Hi) : Hi := (h.1 &&& nodes, h.2)
theorem com_within {a c : Hi} {nodes : Nat} (h : a.1 &&& nodes = a.1) : com a (within nodes c) = com a c := by
  unfold com within
  show (a.1 &&& (c.1 &&& nodes), a.2 && c.2) = _
  rw [Nat.and_comm c.1, ← Nat.and_assoc, h]
/-- A list and a hint, once. -/
def withL (l : List Hi) (h : Hi) : List Hi := if h ∈ l then l else l ++ [h]
theorem withL_mem (l : List Hi) (h x : Hi) : x ∈ withL l h ↔ x ∈ l ∨ x = h := by
  unfold withL
  split
  · rename_i hm
    constructor
    · exact .inl
    · rintro (h1 | rfl)
      · exact h1
      · exact hm
  · simp
theorem withL_len (l : List Hi) (h : Hi) : (withL l h).length ≤ l.length + 1 := by
  unfold withL
  split
  · omega
  · simp
/-- The choices, once each, within the nodes. -/
def choTo (pol : Int) (nodes : Nat) (hs : List Hi) : Nat → List Hi
  | 0 => []
  | k + 1 => if okH pol (hs.getD k (0, false)) then withL (choTo pol nodes hs k) (within nodes (hs.getD k (0, false))) else choTo pol nodes hs k
theorem choTo_len (pol : Int) (nodes : Nat) (hs : List Hi) (k : Nat) : (choTo pol nodes hs k).length ≤ k := by
  induction k with
  | zero => exact Nat.le_refl _
  | succ k ih =>
    rw [choTo]
    split
    · exact Nat.le_trans (withL_len _ _) (by omega)
    · omega
theorem choTo_mem (pol : Int) (nodes : Nat) (hs : List Hi) (k : Nat) (x : Hi) : x ∈ choTo pol nodes hs k ↔ ∃ j, j < k ∧ okH pol (hs.getD j (0, false)) = true ∧ x = within nodes (hs.getD j (0, false)) := by
  induction k with
  | zero => simp [choTo]
  | succ k ih =>
    rw [choTo]
    split
    · rename_i h
      rw [withL_mem, ih]
      constructor
      · rintro (⟨j, hj, h1, h2⟩ | h1)
        · exact ⟨j, by omega, h1, h2⟩
        · exact ⟨k, by omega, h, h1⟩
      · rintro ⟨j, hj, h1, h2⟩
        by_cases e : j = k
        · subst e; exact .inr h2
        · exact .inl ⟨j, by omega, h1, h2⟩
    · rename_i h
      rw [ih]
      constructor
      · rintro ⟨j, hj, h1, h2⟩
        exact ⟨j, by omega, h1, h2⟩
      · rintro ⟨j, hj, h1, h2⟩
        by_cases e : j = k
        · subst e; exact absurd h1 h
        · exact ⟨j, by omega, h1, h2⟩
def choP (pol : Int) (nodes : Nat) (w : Wi) : List Hi := if w.any then [(nodes, true)] else if (choTo pol nodes w.hs w.hs.length).length = 0 then [(nodes, false)] else choTo pol nodes w.hs w.hs.length
theorem choTo_all (pol : Int) (nodes : Nat) (hs : List Hi) (x : Hi) : x ∈ choTo pol nodes hs hs.length ↔ ∃ c, c ∈ hs.filter (okH pol) ∧ x = within nodes c := by
  rw [choTo_mem]
  constructor
  · rintro ⟨j, hj, h1, h2⟩
    exact ⟨_, List.mem_filter.2 ⟨getD_mem _ _ _ hj, h1⟩, h2⟩
  · rintro ⟨c, hc, h2⟩
    rw [List.mem_filter] at hc
    obtain ⟨j, hj, rfl⟩ := mem_getD (0, false) hc.1
    exact ⟨j, hj, hc.2, h2⟩
theorem nil_iff {α : Type} (l : List α) : l.length = 0 ↔ ∀ x, x ∉ l := by
  cases l with
  | nil => simp
  | cons a r =>
    constructor
    · intro h; simp at h
    · intro h; exact absurd List.mem_cons_self (h a)
theorem choP_mem (pol : Int) (nodes : Nat) (w : Wi) (x : Hi) : x ∈ choP pol nodes w ↔ ∃ c, c ∈ cho pol nodes w ∧ x = within nodes c := by
  unfold choP cho
  cases w.any
  · have e : (choTo pol nodes w.hs w.hs.length).length = 0 ↔ (w.hs.filter (okH pol)).length = 0 := by
      rw [nil_iff, nil_iff]
      constructor
      · intro h x hx
        exact h (within nodes x) ((choTo_all ..).2 ⟨x, hx, rfl⟩)
      · intro h x hx
        obtain ⟨c, hc, _⟩ := (choTo_all ..).1 hx
        exact h c hc
    simp only [Bool.false_eq_true, if_false]
    by_cases h : (w.hs.filter (okH pol)).length = 0
    · rw [if_pos h, if_pos (e.2 h)]
      simp [within]
    · rw [if_neg h, if_neg (fun h' => h (e.1 h'))]
      exact choTo_all ..
  · simp [within]
theorem choP_len (pol : Int) (nodes : Nat) (w : Wi) (h : w.hs.length ≤ 16) : (choP pol nodes w).length ≤ 16 := by
  unfold choP
  split
  · simp
  · split
    · simp
    · exact Nat.le_trans (choTo_len ..) h
/-- The next ways: of the first choices with all ways, and of one choice with the first ways. -/
def nextIn (c : Hi) (W : List Hi) (N : List Hi) : Nat → List Hi
  | 0 => N
  | j + 1 => if (com (W.getD j (0, false)) c).1 = 0 then nextIn c W N j else withL (nextIn c W N j) (com (W.getD j (0, false)) c)
def nextTo (C W : List Hi) : Nat → List Hi
  | 0 => []
  | i + 1 => nextIn (C.getD i (0, false)) W (nextTo C W i) W.length
theorem nextIn_len (c : Hi) (W N : List Hi) (j : Nat) : (nextIn c W N j).length ≤ N.length + j := by
  induction j with
  | zero => exact Nat.le_refl _
  | succ j ih =>
    rw [nextIn]
    split
    · omega
    · exact Nat.le_trans (withL_len _ _) (by omega)
theorem nextTo_len (C W : List Hi) (i : Nat) : (nextTo C W i).length ≤ i * W.length := by
  induction i with
  | zero => simp [nextTo]
  | succ i ih =>
    rw [nextTo, Nat.succ_mul]
    exact Nat.le_trans (nextIn_len ..) (by omega)
theorem nextIn_mem (c : Hi) (W N : List Hi) (j : Nat) (x : Hi) : x ∈ nextIn c W N j ↔ x ∈ N ∨ ∃ i, i < j ∧ x.1 ≠ 0 ∧ x = com (W.getD i (0, false)) c := by
  induction j with
  | zero => simp [nextIn]
  | succ j ih =>
    rw [nextIn]
    split
    · rename_i h
      rw [ih]
      constructor
      · rintro (h1 | ⟨i, hi, h1⟩)
        · exact .inl h1
        · exact .inr ⟨i, by omega, h1⟩
      · rintro (h1 | ⟨i, hi, h1, h2⟩)
        · exact .inl h1
        · by_cases e : i = j
          · subst e; rw [← h2] at h; exact absurd h h1
          · exact .inr ⟨i, by omega, h1, h2⟩
    · rename_i h
      rw [withL_mem, ih]
      constructor
      · rintro ((h1 | ⟨i, hi, h1⟩) | rfl)
        · exact .inl h1
        · exact .inr ⟨i, by omega, h1⟩
        · exact .inr ⟨j, by omega, h, rfl⟩
      · rintro (h1 | ⟨i, hi, h1, h2⟩)
        · exact .inl (.inl h1)
        · by_cases e : i = j
          · subst e; exact .inr h2
          · exact .inl (.inr ⟨i, by omega, h1, h2⟩)
theorem nextTo_mem (C W : List Hi) (i : Nat) (x : Hi) : x ∈ nextTo C W i ↔ x.1 ≠ 0 ∧ ∃ k, k < i ∧ ∃ a, a ∈ W ∧ x = com a (C.getD k (0, false)) := by
  induction i with
  | zero => simp [nextTo]
  | succ i ih =>
    rw [nextTo, nextIn_mem, ih]
    constructor
    · rintro (⟨h0, k, hk, a, ha, h1⟩ | ⟨j, hj, h0, h1⟩)
      · exact ⟨h0, k, by omega, a, ha, h1⟩
      · exact ⟨h0, i, by omega, _, getD_mem _ _ _ hj, h1⟩
    · rintro ⟨h0, k, hk, a, ha, h1⟩
      by_cases e : k = i
      · subst e
        obtain ⟨j, hj, rfl⟩ := mem_getD (0, false) ha
        exact .inr ⟨j, hj, h0, h1⟩
      · exact .inl ⟨h0, k, by omega, a, ha, h1⟩
/-- The ways, as the program goes them. -/
def waysTo (pol : Int) (nodes : Nat) (ws : List Wi) : Nat → List Hi
  | 0 => [(nodes, true)]
  | k + 1 => nextTo (choP pol nodes (ws.getD k wi0)) (waysTo pol nodes ws k) (choP pol nodes (ws.getD k wi0)).length
theorem waysTo_outs (pol : Int) (nodes : Nat) (ws : List Wi) (k : Nat) : Outs pol nodes ws k (waysTo pol nodes ws k) := by
  induction k with
  | zero => intro x; simp [waysTo, reach]
  | succ k ih =>
    intro x
    rw [waysTo, nextTo_mem, reach]
    constructor
    · rintro ⟨h0, j, hj, a, ha, h1⟩
      obtain ⟨c, hc, h2⟩ := (choP_mem ..).1 (getD_mem _ (0, false) _ hj)
      refine ⟨h0, a, c, (ih a).1 ha, hc, ?_⟩
      rw [h1, h2, com_within (reach_sub ((ih a).1 ha))]
    · rintro ⟨h0, a, c, ha, hc, h1⟩
      obtain ⟨j, hj, h2⟩ := mem_getD (0, false) ((choP_mem ..).2 ⟨c, hc, rfl⟩)
      refine ⟨h0, j, hj, a, (ih a).2 ha, ?_⟩
      rw [h2, com_within (reach_sub ha), h1]
theorem pow_le4 (k : Nat) (h : k ≤ 4) : 16 ^ k ≤ 65536 := by
  have : k = 0 ∨ k = 1 ∨ k = 2 ∨ k = 3 ∨ k = 4 := by omega
  rcases this with rfl | rfl | rfl | rfl | rfl <;> decide
theorem waysTo_len (pol : Int) (nodes : Nat) (ws : List Wi) (hw : ∀ w, w ∈ ws → w.hs.length ≤ 16) (k : Nat) (hk : k ≤ ws.length) : (waysTo pol nodes ws k).length ≤ 16 ^ k := by
  induction k with
  | zero => simp [waysTo]
  | succ k ih =>
    rw [waysTo]
    have h1 := nextTo_len (choP pol nodes (ws.getD k wi0)) (waysTo pol nodes ws k) (choP pol nodes (ws.getD k wi0)).length
    have h2 := choP_len pol nodes (ws.getD k wi0) (hw _ (getD_mem _ _ _ (by omega)))
    have h3 := Nat.mul_le_mul h2 (ih (by omega))
    rw [Nat.pow_succ]
    omega
/-- The place that is told. -/
def told (pol : Int) (nodes : Nat) (ws : List Wi) : Hi := best (waysTo pol nodes ws ws.length) (nodes, false)
theorem told_outs {pol : Int} {nodes : Nat} {ws : List Wi} {L : List Hi} (hn : nodes < 256) (h : Outs pol nodes ws ws.length L) : best L (nodes, false) = told pol nodes ws :=
  best_ext (h.low hn) (Outs.low (waysTo_outs pol nodes ws ws.length) hn) hn fun x => (h x).trans (waysTo_outs pol nodes ws ws.length x).symm
theorem told_lt (pol : Int) (nodes : Nat) (ws : List Wi) (hn : nodes < 256) : (told pol nodes ws).1 < 256 := best_lt (Outs.low (waysTo_outs pol nodes ws ws.length) hn) hn _ (Nat.le_refl _)
/-- No place that comes out is better than the one that is told. -/
theorem told_least {pol : Int} {nodes : Nat} {ws : List Wi} (hn : nodes < 256) {x : Hi} (hx : reach pol nodes ws ws.length x) : key (told pol nodes ws) ≤ key x :=
  best_le (Outs.low (waysTo_outs pol nodes ws ws.length) hn) hn ((waysTo_outs pol nodes ws ws.length x).2 hx)
theorem reach_good {nodes : Nat} {ws : List Wi} {k : Nat} {h : Hi} (hr : reach 3 nodes ws k h) (hg : h.2 = true) : reach 2 nodes ws k h := by
  induction k generalizing h with
  | zero => exact hr
  | succ k ih =>
    obtain ⟨h0, a, c, ha, hc, rfl⟩ := hr
    have hg' : (a.2 && c.2) = true := hg
    rw [Bool.and_eq_true] at hg'
    refine ⟨h0, a, c, ih ha hg'.1, ?_, rfl⟩
    unfold cho at hc ⊢
    split at hc
    · rename_i h; rw [if_pos h]; exact hc
    · rename_i h
      rw [if_neg h]
      split at hc
      · rw [List.mem_singleton] at hc
        rw [hc] at hg'; simp at hg'
      · have hm := (List.mem_filter.1 hc).1
        have hm2 : c ∈ (ws.getD k wi0).hs.filter (okH 2) := List.mem_filter.2 ⟨hm, by simp [okH]⟩
        rw [if_neg (fun h0 => (nil_iff _).1 h0 _ hm2)]
        exact hm2
theorem key_good (a b : Hi) (ha : a.1 < 256) (hg : a.2 = true) (h : key b ≤ key a) : b.2 = true := by
  obtain ⟨m, g⟩ := a
  obtain ⟨n, f⟩ := b
  have h1 := pop8_le m
  simp only at ha hg
  subst hg
  unfold key at h
  cases f
  · simp at h; omega
  · rfl
/-- What the strictest policy finds good, a looser one finds good. -/
theorem told_strict {nodes : Nat} {ws : List Wi} (hn : nodes < 256) (h : (told 3 nodes ws).2 = true) : (told 2 nodes ws).2 = true := by
  rcases best_mem (Outs.low (waysTo_outs 3 nodes ws ws.length) hn) (b0 := (nodes, false)) hn with e | e
  · unfold told at h
    rw [e] at h
    cases h
  · have hr := (waysTo_outs 3 nodes ws ws.length _).1 e
    exact key_good _ _ (reach_lt hn hr) h (told_least hn (reach_good hr h))
end Ost
end Go.Proofs.Ytlpogejkmigimaa
