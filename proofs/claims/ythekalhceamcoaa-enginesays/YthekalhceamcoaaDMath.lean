/- Devices, and who has them: no program, no world. -/
import Derived.WalkKit
namespace Go.Proofs.Ythekalhceamcoaa
namespace Dvs
/-- A device. -/
structure Dv where
  kind : ByteArray
  node : Int
  sick : Bool
def dv0 : Dv := ⟨ByteArray.empty, 0, false⟩
instance : Inhabited Dv := ⟨dv0⟩
/-- The one of a number. -/
def dv (ds : List Dv) (k : Nat) : Dv := ds.getD k dv0
/-- A list's number at a place. -/
def nth (l : List Int) (k : Nat) : Int := l.getD k 0
theorem take_nth {l : List Int} {k : Nat} (h : k < l.length) : l.take (k + 1) = l.take k ++ [nth l k] := by
  rw [List.take_add_one, nth, List.getD_eq_getElem?_getD, List.getElem?_eq_getElem h]; rfl
/-- Those below a bound that are so. -/
def sel (p : Nat → Bool) (n : Nat) : List Nat := (List.range n).filter p
theorem sel_zero (p : Nat → Bool) : sel p 0 = [] := rfl
theorem sel_yes {p : Nat → Bool} {n : Nat} (h : p n = true) : sel p (n + 1) = sel p n ++ [n] := by simp [sel, List.range_succ, List.filter_append, h]
theorem sel_no {p : Nat → Bool} {n : Nat} (h : p n = false) : sel p (n + 1) = sel p n := by simp [sel, List.range_succ, List.filter_append, h]
theorem sel_mem {p : Nat → Bool} {n j : Nat} : j ∈ sel p n ↔ j < n ∧ p j = true := by simp [sel]
theorem sel_nodup (p : Nat → Bool) (n : Nat) : (sel p n).Nodup := List.Pairwise.filter _ (by simpa [List.Nodup] using List.nodup_range (n := n))
theorem sel_rising (p : Nat → Bool) (n : Nat) : (sel p n).Pairwise (· < ·) := List.Pairwise.filter _ List.pairwise_lt_range
theorem sel_le (p : Nat → Bool) (n : Nat) : (sel p n).length ≤ n := by simpa [sel] using List.length_filter_le p (List.range n)
theorem sel_congr {p q : Nat → Bool} {n : Nat} (h : ∀ j, j < n → p j = q j) : sel p n = sel q n := by
  unfold sel
  exact List.filter_congr (fun j hj => h j (List.mem_range.1 hj))
/-- Rising numbers below sixteen, those of a list. -/
def srt (l : List Nat) : List Nat := sel (fun j => decide (j ∈ l)) 16
/-- The first ones of a list, when one comes behind it. -/
theorem snoc_take {l : List Nat} {many i : Nat} (h : (l.take many).length < many) : (l ++ [i]).take many = l.take many ++ [i] := by
  rw [List.length_take] at h
  rw [List.take_append, List.take_of_length_le (l := [i]) (by simp; omega)]
theorem full_take {l x : List Nat} {many : Nat} (h : many ≤ (l.take many).length) : (l ++ x).take many = l.take many := by
  rw [List.length_take] at h
  rw [List.take_append, show many - l.length = 0 by omega]; simp
theorem all_take {l : List Nat} {many : Nat} (h : (l.take many).length < many) : l.take many = l := by
  rw [List.length_take] at h
  exact List.take_of_length_le (by omega)
/-- Those that are used, when some more are. -/
def usedBy (us : Nat → Bool) (l : List Nat) (j : Nat) : Bool := us j || decide (j ∈ l)
theorem usedBy_nil (us : Nat → Bool) : usedBy us [] = us := by funext j; simp [usedBy]
theorem usedBy_snoc (us : Nat → Bool) (l : List Nat) (i j : Nat) : usedBy us (l ++ [i]) j = (usedBy us l j || decide (j = i)) := by
  unfold usedBy
  by_cases h1 : j ∈ l <;> by_cases h2 : j = i <;> simp [h1, h2]
/-- May it be taken: of that kind, not sick, not used? -/
def fits (ds : List Dv) (us : Nat → Bool) (kind : ByteArray) (k : Nat) : Bool := decide ((dv ds k).kind = kind) && !(dv ds k).sick && !us k
/-- Does it lie on nodes? -/
def near (ds : List Dv) (m : Nat) (k : Nat) : Bool := m.testBit (dv ds k).node.toNat
def nearP (ds : List Dv) (us : Nat → Bool) (kind : ByteArray) (m : Nat) (k : Nat) : Bool := fits ds us kind k && near ds m k
def farP (ds : List Dv) (us : Nat → Bool) (kind : ByteArray) (m : Nat) (k : Nat) : Bool := fits ds us kind k && !near ds m k
/-- All that may be taken, those on the nodes first. -/
def ord (ds : List Dv) (us : Nat → Bool) (kind : ByteArray) (m : Nat) : List Nat := sel (nearP ds us kind m) ds.length ++ sel (farP ds us kind m) ds.length
def took (ds : List Dv) (us : Nat → Bool) (kind : ByteArray) (m many : Nat) : List Nat := (ord ds us kind m).take many
theorem parts_len (f g : Nat → Bool) (n : Nat) : (sel (fun k => f k && g k) n).length + (sel (fun k => f k && !g k) n).length = (sel f n).length := by
  induction n with
  | zero => rfl
  | succ n ih =>
    cases hf : f n <;> cases hg : g n
    · rw [sel_no (by simp [hf]), sel_no (by simp [hf]), sel_no hf]; exact ih
    · rw [sel_no (by simp [hf]), sel_no (by simp [hf]), sel_no hf]; exact ih
    · rw [sel_no (by simp [hg]), sel_yes (by simp [hf, hg]), sel_yes hf]; simp; omega
    · rw [sel_yes (by simp [hf, hg]), sel_no (by simp [hg]), sel_yes hf]; simp; omega
theorem ord_len (ds : List Dv) (us : Nat → Bool) (kind : ByteArray) (m : Nat) : (ord ds us kind m).length = (sel (fits ds us kind) ds.length).length := by
  unfold ord
  rw [List.length_append]
  exact parts_len (fits ds us kind) (near ds m) ds.length
theorem ord_mem {ds : List Dv} {us : Nat → Bool} {kind : ByteArray} {m j : Nat} : j ∈ ord ds us kind m ↔ j < ds.length ∧ fits ds us kind j = true := by
  unfold ord nearP farP
  rw [List.mem_append, sel_mem, sel_mem]
  cases near ds m j <;> simp
theorem ord_nodup (ds : List Dv) (us : Nat → Bool) (kind : ByteArray) (m : Nat) : (ord ds us kind m).Nodup := by
  unfold ord
  rw [List.nodup_append]
  refine ⟨sel_nodup _ _, sel_nodup _ _, ?_⟩
  intro a ha b hb e
  subst e
  rw [sel_mem] at ha hb
  unfold nearP farP at *
  cases hn : near ds m a <;> simp [hn] at ha hb
theorem took_mem {ds : List Dv} {us : Nat → Bool} {kind : ByteArray} {m many j : Nat} (h : j ∈ took ds us kind m many) : j < ds.length ∧ fits ds us kind j = true := ord_mem.1 (List.mem_of_mem_take h)
theorem took_nodup (ds : List Dv) (us : Nat → Bool) (kind : ByteArray) (m many : Nat) : (took ds us kind m many).Nodup := List.Pairwise.sublist (List.take_sublist _ _) (ord_nodup ds us kind m)
theorem srt_mem {l : List Nat} (h16 : ∀ j ∈ l, j < 16) {j : Nat} : j ∈ srt l ↔ j ∈ l := by
  unfold srt
  rw [sel_mem]
  constructor
  · intro ⟨_, h⟩; simpa using h
  · intro h; exact ⟨h16 j h, by simpa using h⟩
theorem srt_perm {l : List Nat} (h16 : ∀ j ∈ l, j < 16) (hn : l.Nodup) : (srt l).Perm l := by
  refine (List.perm_ext_iff_of_nodup (sel_nodup _ _) hn).2 fun j => ?_
  exact srt_mem h16
theorem srt_len {l : List Nat} (h16 : ∀ j ∈ l, j < 16) (hn : l.Nodup) : (srt l).length = l.length := (srt_perm h16 hn).length_eq
theorem rise_eq {l k : List Int} (hp : l.Perm k) (hl : l.Pairwise (· ≤ ·)) (hk : k.Pairwise (· ≤ ·)) : l = k :=
  hp.eq_of_pairwise (fun _ _ _ _ h1 h2 => Int.le_antisymm h1 h2) hl hk
theorem sorted_srt {l : List Nat} (h16 : ∀ j ∈ l, j < 16) (hn : l.Nodup) : (l.map (fun j : Nat => (j : Int))).mergeSort (fun x y => decide (x ≤ y)) = (srt l).map (fun j : Nat => (j : Int)) := by
  refine rise_eq ?_ ?_ ?_
  · exact (List.mergeSort_perm _ _).trans ((srt_perm h16 hn).map _).symm
  · have h := List.pairwise_mergeSort (le := fun x y : Int => decide (x ≤ y)) (fun a b c h1 h2 => by simp at *; omega) (fun a b => by simp; omega) (l.map (fun j : Nat => (j : Int)))
    exact h.imp (fun {a b} hab => by simpa using hab)
  · rw [List.pairwise_map]
    exact (sel_rising _ _).imp (fun {a b} hab => by omega)
/-- The first fault of some. -/
def first (f : Nat → Nat) : Nat → Nat
  | 0 => 0
  | k + 1 => if first f k = 0 then f k else first f k
theorem first_zero {f : Nat → Nat} {k : Nat} (h : first f k = 0) (h2 : f k = 0) : first f (k + 1) = 0 := by rw [first, if_pos h, h2]
theorem first_stay {f : Nat → Nat} {k : Nat} (h : first f k ≠ 0) (j : Nat) : first f (k + j) = first f k := by
  induction j with
  | zero => rfl
  | succ j ih => rw [← Nat.add_assoc, first, if_neg (by rw [ih]; exact h), ih]
theorem first_hit {f : Nat → Nat} {k n : Nat} (h : first f k = 0) (h2 : f k ≠ 0) (hk : k < n) : first f n = f k := by
  have e : first f (k + 1) = f k := by rw [first, if_pos h]
  have := first_stay (f := f) (k := k + 1) (by rw [e]; exact h2) (n - (k + 1))
  rw [show k + 1 + (n - (k + 1)) = n by omega] at this
  rw [this, e]
theorem first_all {f : Nat → Nat} {n : Nat} (h : first f n = 0) : ∀ k, k < n → f k = 0 := by
  induction n with
  | zero => intro k hk; omega
  | succ n ih =>
    rw [first] at h
    split at h
    · rename_i h0
      intro k hk
      by_cases e : k = n
      · subst e; exact h
      · exact ih h0 k (by omega)
    · rename_i h0; exact absurd h h0
theorem first_none {f : Nat → Nat} {n : Nat} (h : ∀ k, k < n → f k = 0) : first f n = 0 := by
  induction n with
  | zero => rfl
  | succ n ih => exact first_zero (ih (fun k hk => h k (by omega))) (h n (by omega))
theorem first_congr {f g : Nat → Nat} {n : Nat} (h : ∀ k, k < n → f k = g k) : first f n = first g n := by
  induction n with
  | zero => rfl
  | succ n ih => rw [first, first, ih (fun k hk => h k (by omega)), h n (by omega)]
/-- What is wrong with the k-th of those that are claimed. -/
def clF (n : Nat) (us : Nat → Bool) (l : List Int) (k : Nat) : Nat :=
  if nth l k < 0 ∨ (n : Int) ≤ nth l k then 1 else if (us (nth l k).toNat || decide (nth l k ∈ l.take k)) = true then 5 else 0
def gvF (n : Nat) (us : Nat → Bool) (l : List Int) (k : Nat) : Nat :=
  if nth l k < 0 ∨ (n : Int) ≤ nth l k then 1 else if us (nth l k).toNat = true then 0 else 6
def claimed (us : Nat → Bool) (l : List Int) (j : Nat) : Bool := us j || decide ((j : Int) ∈ l)
def given (us : Nat → Bool) (l : List Int) (j : Nat) : Bool := us j && !decide ((j : Int) ∈ l)
theorem claimed_nil (us : Nat → Bool) : claimed us [] = us := by funext j; simp [claimed]
theorem given_nil (us : Nat → Bool) : given us [] = us := by funext j; simp [given]
theorem claimed_snoc (us : Nat → Bool) (l : List Int) (x : Int) (h : 0 ≤ x) (j : Nat) : claimed us (l ++ [x]) j = (claimed us l j || decide (j = x.toNat)) := by
  unfold claimed
  have e : decide ((j : Int) ∈ l ++ [x]) = (decide ((j : Int) ∈ l) || decide (j = x.toNat)) := by
    rw [← Bool.decide_or]
    apply decide_eq_decide.2
    have e2 : ((j : Int) = x) ↔ (j = x.toNat) := by omega
    rw [List.mem_append, List.mem_singleton, e2]
  rw [e, Bool.or_assoc]
theorem given_snoc (us : Nat → Bool) (l : List Int) (x : Int) (h : 0 ≤ x) (j : Nat) : given us (l ++ [x]) j = (given us l j && !decide (j = x.toNat)) := by
  unfold given
  have e : decide ((j : Int) ∈ l ++ [x]) = (decide ((j : Int) ∈ l) || decide (j = x.toNat)) := by
    rw [← Bool.decide_or]
    apply decide_eq_decide.2
    have e2 : ((j : Int) = x) ↔ (j = x.toNat) := by omega
    rw [List.mem_append, List.mem_singleton, e2]
  rw [e, Bool.not_or, Bool.and_assoc]
/-- Is it a letter; a digit? -/
def isLet (b : UInt8) : Bool := decide (97 ≤ b.toNat) && decide (b.toNat ≤ 122)
def isNum (b : UInt8) : Bool := decide (48 ≤ b.toNat ∧ b.toNat ≤ 57)
def okB (s : ByteArray) (i : Nat) : Bool := isLet (s.data.toList.getD i 0) || (isNum (s.data.toList.getD i 0) && decide (0 < i))
theorem byte_at (s : ByteArray) (k : Nat) (h : k < s.size) : s.data.toList.getD k 0 = s[k] := by
  have h2 : k < s.data.size := h
  rw [List.getD_eq_getElem?_getD, Array.getElem?_toList, Array.getElem?_eq_getElem h2]
  rfl
theorem okB_at (s : ByteArray) (k : Nat) (h : k < s.size) : okB s k = (isLet s[k] || (isNum s[k] && decide (0 < k))) := by rw [okB, byte_at s k h]
/-- All of the first ones. -/
def allTo (f : Nat → Bool) : Nat → Bool
  | 0 => true
  | k + 1 => allTo f k && f k
theorem allTo_yes {f : Nat → Bool} {k : Nat} (h : allTo f k = true) (h2 : f k = true) : allTo f (k + 1) = true := by rw [allTo, h, h2]; rfl
theorem allTo_no {f : Nat → Bool} {k n : Nat} (h2 : f k = false) (hk : k < n) : allTo f n = false := by
  induction n with
  | zero => omega
  | succ n ih =>
    rw [allTo]
    by_cases e : k = n
    · subst e; rw [h2, Bool.and_false]
    · rw [ih (by omega), Bool.false_and]
def nameMay (s : ByteArray) : Bool := decide (0 < s.size) && decide (s.size ≤ 8) && allTo (okB s) s.size
theorem nameMay_none {s : ByteArray} (h : s.size = 0) : nameMay s = false := by simp [nameMay, h]
theorem nameMay_long {s : ByteArray} (h : 8 < s.size) : nameMay s = false := by simp [nameMay]; omega
theorem nameMay_all {s : ByteArray} (h0 : 0 < s.size) (h8 : s.size ≤ 8) : nameMay s = allTo (okB s) s.size := by rw [nameMay, decide_eq_true h0, decide_eq_true h8]; rfl
/-- What is wrong with the k-th device. -/
def newF (ds : List Dv) (k : Nat) : Nat := if nameMay (dv ds k).kind = false then 3 else if (dv ds k).node < 0 ∨ 3 < (dv ds k).node then 1 else 0
def fault (ds : List Dv) : Nat := if 16 < ds.length then 2 else first (newF ds) ds.length
/-- Their nodes are such as there may be. -/
def Nodes (ds : List Dv) : Prop := ds.length ≤ 16 ∧ ∀ k, k < ds.length → 0 ≤ (dv ds k).node ∧ (dv ds k).node ≤ 3
theorem fault_nodes {ds : List Dv} (h : fault ds = 0) : Nodes ds := by
  unfold fault at h
  split at h
  · cases h
  · refine ⟨by omega, fun k hk => ?_⟩
    have := first_all h k hk
    unfold newF at this
    split at this
    · cases this
    · split at this
      · cases this
      · omega
/-- So many on a node. -/
def cn (p : Nat → Bool) (ds : List Dv) (x n : Nat) : Nat := (sel (fun j => p j && decide ((dv ds j).node = (x : Int))) n).length
theorem cn_le (p : Nat → Bool) (ds : List Dv) (x n : Nat) : cn p ds x n ≤ n := sel_le _ _
theorem cn_no {p : Nat → Bool} {ds : List Dv} {n : Nat} (h : p n = false) (x : Nat) : cn p ds x (n + 1) = cn p ds x n := by
  unfold cn; rw [sel_no (by rw [h]; rfl)]
theorem cn_yes {p : Nat → Bool} {ds : List Dv} {n : Nat} (h : p n = true) (h0 : 0 ≤ (dv ds n).node) (x : Nat) : cn p ds x (n + 1) = cn p ds x n + (if x = (dv ds n).node.toNat then 1 else 0) := by
  unfold cn
  by_cases e : x = (dv ds n).node.toNat
  · rw [sel_yes (by rw [h, decide_eq_true (by omega)]; rfl), if_pos e]; simp
  · rw [sel_no (by rw [h, decide_eq_false (by omega)]; rfl), if_neg e]; rfl
theorem cn_sum {p : Nat → Bool} {ds : List Dv} (h : Nodes ds) {n : Nat} (hn : n ≤ ds.length) : cn p ds 0 n + cn p ds 1 n + cn p ds 2 n + cn p ds 3 n = (sel p n).length := by
  induction n with
  | zero => rfl
  | succ n ih =>
    have hi := ih (by omega)
    obtain ⟨h0, h3⟩ := h.2 n (by omega)
    cases hp : p n
    · rw [cn_no hp, cn_no hp, cn_no hp, cn_no hp, sel_no hp]; exact hi
    · rw [cn_yes hp h0, cn_yes hp h0, cn_yes hp h0, cn_yes hp h0, sel_yes hp]
      have : (dv ds n).node.toNat = 0 ∨ (dv ds n).node.toNat = 1 ∨ (dv ds n).node.toNat = 2 ∨ (dv ds n).node.toNat = 3 := by omega
      rcases this with e | e | e | e <;> rw [e] <;> simp <;> omega
/-- Of that kind, and not sick. -/
def kindP (ds : List Dv) (kind : ByteArray) (k : Nat) : Bool := decide ((dv ds k).kind = kind) && !(dv ds k).sick
theorem fits_kind (ds : List Dv) (us : Nat → Bool) (kind : ByteArray) (k : Nat) : fits ds us kind k = (kindP ds kind k && !us k) := rfl
/-- What Take tells. -/
def takeF (ds : List Dv) (us : Nat → Bool) (kind : ByteArray) (many : Int) : Nat := if many < 0 then 1 else if ((sel (fits ds us kind) ds.length).length : Int) < many then 9 else 0
/-- One is sick, or is not. -/
def sicken (ds : List Dv) (n : Nat) (on : Bool) : List Dv := ds.set n ⟨(dv ds n).kind, (dv ds n).node, on⟩
theorem sicken_len (ds : List Dv) (n : Nat) (on : Bool) : (sicken ds n on).length = ds.length := by simp [sicken]
theorem sicken_at {ds : List Dv} {n : Nat} (h : n < ds.length) (on : Bool) (k : Nat) : dv (sicken ds n on) k = if k = n then ⟨(dv ds n).kind, (dv ds n).node, on⟩ else dv ds k := by
  unfold sicken
  rw [dv, List.getD_eq_getElem?_getD, List.getElem?_set]
  by_cases e : n = k
  · subst e; simp [h]
  · rw [if_neg e, if_neg (fun h => e h.symm)]; rfl
theorem sicken_nodes {ds : List Dv} (hN : Nodes ds) {n : Nat} (h : n < ds.length) (on : Bool) : Nodes (sicken ds n on) := by
  refine ⟨by rw [sicken_len]; exact hN.1, fun k hk => ?_⟩
  rw [sicken_len] at hk
  rw [sicken_at h]
  split
  · exact hN.2 n h
  · exact hN.2 k hk
/-- The document's first round: those on the nodes. -/
def got (ds : List Dv) (us : Nat → Bool) (kind : ByteArray) (m many i : Nat) : List Nat := (sel (nearP ds us kind m) i).take many
/-- Its second one: the others. -/
def got2 (ds : List Dv) (us : Nat → Bool) (kind : ByteArray) (m many i : Nat) : List Nat := (sel (nearP ds us kind m) ds.length ++ sel (farP ds us kind m) i).take many
theorem got_le (ds : List Dv) (us : Nat → Bool) (kind : ByteArray) (m many i : Nat) : (got ds us kind m many i).length ≤ many := by unfold got; rw [List.length_take]; omega
theorem got2_le (ds : List Dv) (us : Nat → Bool) (kind : ByteArray) (m many i : Nat) : (got2 ds us kind m many i).length ≤ many := by unfold got2; rw [List.length_take]; omega
theorem got_nil (ds : List Dv) (us : Nat → Bool) (kind : ByteArray) (m many : Nat) : got ds us kind m many 0 = [] := by simp [got, sel]
theorem got_end (ds : List Dv) (us : Nat → Bool) (kind : ByteArray) (m many : Nat) : got ds us kind m many ds.length = got2 ds us kind m many 0 := by simp [got, got2, sel_zero]
theorem got2_end (ds : List Dv) (us : Nat → Bool) (kind : ByteArray) (m many : Nat) : got2 ds us kind m many ds.length = took ds us kind m many := rfl
theorem got_lt {ds : List Dv} {us : Nat → Bool} {kind : ByteArray} {m many i j : Nat} (h : j ∈ got ds us kind m many i) : j < i := (sel_mem.1 (List.mem_of_mem_take h)).1
/-- Where enough are there the rest turns nothing. -/
theorem sel_more (p : Nat → Bool) {i n : Nat} (h : i ≤ n) : ∃ x, sel p n = sel p i ++ x := by
  obtain ⟨d, rfl⟩ := Nat.exists_eq_add_of_le h
  induction d with
  | zero => exact ⟨[], by simp⟩
  | succ d ih =>
    obtain ⟨x, hx⟩ := ih (by omega)
    cases hp : p (i + d)
    · exact ⟨x, by rw [← Nat.add_assoc, sel_no hp, hx]⟩
    · exact ⟨x ++ [i + d], by rw [← Nat.add_assoc, sel_yes hp, hx, List.append_assoc]⟩
theorem got_full {ds : List Dv} {us : Nat → Bool} {kind : ByteArray} {m many i : Nat} (hi : i ≤ ds.length) (h : many ≤ (got ds us kind m many i).length) : got ds us kind m many ds.length = got ds us kind m many i := by
  obtain ⟨x, hx⟩ := sel_more (nearP ds us kind m) hi
  unfold got at *
  rw [hx, full_take h]
theorem got2_full {ds : List Dv} {us : Nat → Bool} {kind : ByteArray} {m many i : Nat} (hi : i ≤ ds.length) (h : many ≤ (got2 ds us kind m many i).length) : got2 ds us kind m many ds.length = got2 ds us kind m many i := by
  obtain ⟨x, hx⟩ := sel_more (farP ds us kind m) hi
  unfold got2 at *
  rw [hx, ← List.append_assoc, full_take h]
theorem got_yes {ds : List Dv} {us : Nat → Bool} {kind : ByteArray} {m many i : Nat} (h : (got ds us kind m many i).length < many) (hp : nearP ds us kind m i = true) : got ds us kind m many (i + 1) = got ds us kind m many i ++ [i] := by
  unfold got at *
  rw [sel_yes hp, snoc_take h]
theorem got_no {ds : List Dv} {us : Nat → Bool} {kind : ByteArray} {m many i : Nat} (hp : nearP ds us kind m i = false) : got ds us kind m many (i + 1) = got ds us kind m many i := by
  unfold got
  rw [sel_no hp]
theorem got2_yes {ds : List Dv} {us : Nat → Bool} {kind : ByteArray} {m many i : Nat} (h : (got2 ds us kind m many i).length < many) (hp : farP ds us kind m i = true) : got2 ds us kind m many (i + 1) = got2 ds us kind m many i ++ [i] := by
  unfold got2 at *
  rw [sel_yes hp, ← List.append_assoc, snoc_take h]
theorem got2_no {ds : List Dv} {us : Nat → Bool} {kind : ByteArray} {m many i : Nat} (hp : farP ds us kind m i = false) : got2 ds us kind m many (i + 1) = got2 ds us kind m many i := by
  unfold got2
  rw [sel_no hp]
/-- In the first round one that comes is not yet taken. -/
theorem used_first {ds : List Dv} {us : Nat → Bool} {kind : ByteArray} {m many i : Nat} : usedBy us (got ds us kind m many i) i = us i := by
  unfold usedBy
  rw [decide_eq_false (fun h => absurd (got_lt h) (Nat.lt_irrefl _)), Bool.or_false]
/-- In the second one those are used that lie on the nodes. -/
theorem used_second {ds : List Dv} {us : Nat → Bool} {kind : ByteArray} {m many i : Nat} (hi : i < ds.length) (h : (got2 ds us kind m many i).length < many) (hk : kindP ds kind i = true) : usedBy us (got2 ds us kind m many i) i = !farP ds us kind m i := by
  unfold usedBy
  have e : got2 ds us kind m many i = sel (nearP ds us kind m) ds.length ++ sel (farP ds us kind m) i := all_take h
  rw [e]
  have hm : i ∈ sel (nearP ds us kind m) ds.length ++ sel (farP ds us kind m) i ↔ nearP ds us kind m i = true := by
    rw [List.mem_append, sel_mem, sel_mem]
    constructor
    · rintro (⟨_, h⟩ | ⟨h, _⟩)
      · exact h
      · omega
    · intro h; exact .inl ⟨hi, h⟩
  cases hn : nearP ds us kind m i
  · rw [decide_eq_false (fun hh => by rw [hm.1 hh] at hn; cases hn)]
    unfold nearP at hn; unfold farP
    rw [fits_kind, hk] at *
    cases hu : us i <;> simp [hu] at hn ⊢
    exact hn
  · rw [decide_eq_true (hm.2 hn)]
    unfold nearP at hn; unfold farP
    rw [fits_kind, hk] at *
    cases hu : us i <;> simp [hu] at hn ⊢
    exact hn
end Dvs
end Go.Proofs.Ythekalhceamcoaa
