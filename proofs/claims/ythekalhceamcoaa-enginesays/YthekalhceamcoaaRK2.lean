/- What runs, in a map: looked up, put, struck, and gone over. -/
import Derived.Test.YthekalhceamcoaaRK1
namespace Go.Proofs.Ythekalhceamcoaa
open Go.RowKit Go.ChangeMaps Go.Maps Go.WideShapes
def RV.key (x : RV) : Lit := nameL x.pod x.cont
def RV.Short (x : RV) : Prop := x.pod.size ≤ 7000 ∧ x.cont.size ≤ 7000
theorem short_max {n : Nat} (h : n ≤ 7000) : n ≤ maxLen := by unfold maxLen; omega
theorem RV.keyOf {x : RV} (h : x.Short) : keyOf Try.prog 189 (nameV x.pod x.cont) = some x.key := nameKey _ _ (short_max h.1) (short_max h.2)
theorem RV.key_eq {x : RV} (h : x.Short) {a b : ByteArray} (ha : a.size ≤ 7000) (hb : b.size ≤ 7000) : x.key = nameL a b ↔ (x.pod = a ∧ x.cont = b) := by
  constructor
  · exact fun e => nameL_inj (short_max h.1) (short_max h.2) (short_max ha) (short_max hb) e
  · rintro ⟨rfl, rfl⟩; rfl
theorem name_same (a b c d : ByteArray) : (nameL a b).sameKey (nameL c d) = true ↔ nameL a b = nameL c d := by
  constructor
  · exact WideAt.sameKey_eq
  · intro e; rw [e]; exact WideAt.sameKey_self trivial
def ents (xs : List RV) : List (Lit × DataW Value) := xs.map fun x => (x.key, .held x.val)
/-- A map of what runs. -/
def MapR (w : World) (B n : Nat) (xs : List RV) : Prop := (∀ x ∈ xs, x.Short) ∧ ∃ es, w.ownsMap Try.prog 189 rvElem B n (.map es) ∧ es.Perm (ents xs)
theorem MapR.lt {w : World} {B n : Nat} {xs : List RV} (h : MapR w B n xs) : B < w.heap.size := by
  obtain ⟨_, es, ho, _⟩ := h
  exact ho.lt
theorem MapR.block {w w' : World} {B n : Nat} {xs : List RV} (h : MapR w B n xs) (hb : w'.heap[B]? = w.heap[B]?) : MapR w' B n xs := by
  obtain ⟨hs, es, ⟨ms, clock, hh, r⟩, hp⟩ := h
  exact ⟨hs, es, ⟨ms, clock, hb.trans hh, r⟩, hp⟩
theorem MapR.made (w : World) : MapR (w.alloc (.map #[] 0)) w.heap.size 0 [] :=
  ⟨fun x hx => by simp at hx, [], World.ownsMap_made w _ _ _, List.Perm.nil⟩
theorem MapR.perm {w : World} {B n : Nat} {xs ys : List RV} (h : MapR w B n xs) (hp : ys.Perm xs) : MapR w B n ys := by
  obtain ⟨hs, es, ho, he⟩ := h
  exact ⟨fun x hx => hs x (hp.mem_iff.1 hx), es, ho, he.trans (hp.symm.map _)⟩
theorem MapR.keys {w : World} {B n : Nat} {xs : List RV} (h : MapR w B n xs) : (xs.map RV.key).Nodup := by
  obtain ⟨hs, es, ho, he⟩ := h
  obtain ⟨es', e, hd, _⟩ := ho.entries keyN
  cases e
  have h1 : (es.map Prod.fst).Nodup := List.pairwise_map.2 hd
  have h2 := (he.map Prod.fst).nodup_iff.1 h1
  unfold ents at h2
  rw [List.map_map] at h2
  exact h2
theorem MapR.has {w : World} {B n : Nat} {xs : List RV} (h : MapR w B n xs) {es : List (Lit × DataW Value)} (he : es.Perm (ents xs)) {a b : ByteArray} (ha : a.size ≤ 7000) (hb : b.size ≤ 7000) :
    Maps.has (.map es) (nameL a b) = xs.any fun x => decide (x.pod = a ∧ x.cont = b) := by
  rw [Maps.has_eq, Bool.eq_iff_iff, List.any_eq_true, List.any_eq_true]
  constructor
  · rintro ⟨p, hp, hk⟩
    obtain ⟨x, hx, rfl⟩ := List.mem_map.1 (he.mem_iff.1 hp)
    exact ⟨x, hx, decide_eq_true ((RV.key_eq (h.1 x hx) ha hb).1 (WideAt.sameKey_eq hk))⟩
  · rintro ⟨x, hx, hk⟩
    refine ⟨(x.key, .held x.val), he.mem_iff.2 (List.mem_map.2 ⟨x, hx, rfl⟩), ?_⟩
    rw [show x.key = nameL a b from (RV.key_eq (h.1 x hx) ha hb).2 (of_decide_eq_true hk)]
    exact WideAt.sameKey_self trivial
theorem zeroRun (w : World) : (zeroValue 119).run Try.prog w = .ok (RV.val ⟨ByteArray.empty, ByteArray.empty, 0, none, 0, 0⟩) w := by kernel_rfl
theorem MapR.look {w : World} {B n : Nat} {xs : List RV} (h : MapR w B n xs) (a b : ByteArray) (ha : a.size ≤ 7000) (hb : b.size ≤ 7000) :
    ∃ y : RV, (Instr.lookup 184 (.map (some B)) (nameV a b) true).run Try.prog w = .ok (.tuple #[y.val, .bool (xs.any fun x => decide (x.pod = a ∧ x.cont = b))]) w := by
  obtain ⟨es, ho, he⟩ := h.2
  obtain ⟨v, ps, hrun, hv⟩ := ho.look_ok keyN Try.underlying184 (zeroRun w) (rvElem_mk _) (nameKey a b (short_max ha) (short_max hb))
  obtain ⟨y, rfl, _⟩ := rvElem_inv hv
  exact ⟨y, by rw [← h.has he ha hb]; exact hrun⟩
theorem MapR.put {w : World} {B n : Nat} {xs : List RV} (h : MapR w B n xs) (x : RV) (hx : x.Short) (hn : n < 1000) (hno : (xs.any fun y => decide (y.pod = x.pod ∧ y.cont = x.cont)) = false) :
    ∃ w', (Instr.mapUpdate 184 (.map (some B)) (nameV x.pod x.cont) x.val).run Try.prog w = .ok () w' ∧ MapR w' B (n + 1) (x :: xs) ∧ w.grownBy w' (some B) ∧ w'.heap.size = w.heap.size := by
  obtain ⟨es, ho, he⟩ := h.2
  obtain ⟨w', hrun, ho', ht⟩ := ho.store keyN Try.underlying184 (by unfold maxLen; omega) (RV.keyOf hx) (rvElem_mk x)
  refine ⟨w', hrun, ⟨fun y hy => ?_, putKey x.key (.held x.val) es, ho', ?_⟩, ht.grown, ?_⟩
  · rcases List.mem_cons.1 hy with rfl | hy
    · exact hx
    · exact h.1 y hy
  · unfold putKey
    refine (insert_perm _ _).trans ?_
    have hf : es.filter (notKey x.key) = es := by
      refine List.filter_eq_self.2 fun p hp => ?_
      obtain ⟨y, hy, rfl⟩ := List.mem_map.1 (he.mem_iff.1 hp)
      have hne : ¬ (y.pod = x.pod ∧ y.cont = x.cont) := of_decide_eq_false (by have := List.any_eq_false.1 hno y hy; simpa using this)
      show (!y.key.sameKey x.key) = true
      rw [Bool.not_eq_true']
      refine sameKey_ne fun e => hne ((RV.key_eq (h.1 y hy) hx.1 hx.2).1 e)
    rw [hf]
    exact List.Perm.cons _ he
  · obtain ⟨es0, c0, es1, c1, _, rfl⟩ := ht
    simp [setBlock]
theorem MapR.drop {w : World} {B n : Nat} {xs : List RV} (h : MapR w B n xs) (a b : ByteArray) (ha : a.size ≤ 7000) (hb : b.size ≤ 7000) (ty : TypeId) :
    ∃ w', (Builtin.delete_ #[184, 189] ty #[.map (some B), nameV a b]).run Try.prog w = .ok (.tuple #[]) w' ∧ MapR w' B n (xs.filter fun x => !decide (x.pod = a ∧ x.cont = b)) ∧ w.grownBy w' (some B) ∧ w'.heap.size = w.heap.size := by
  obtain ⟨es, ho, he⟩ := h.2
  obtain ⟨w', hrun, ho', ht⟩ := ho.drop keyN Try.underlying184 (nameKey a b (short_max ha) (short_max hb)) ty
  refine ⟨w', hrun, ⟨fun y hy => h.1 y (List.mem_filter.1 hy).1, delKey (nameL a b) es, ho', ?_⟩, ht.grown, ?_⟩
  · unfold delKey
    refine (he.filter _).trans ?_
    unfold ents
    rw [List.filter_map]
    have hfc : xs.filter (notKey (nameL a b) ∘ fun x : RV => (x.key, (DataW.held x.val : DataW Value))) = xs.filter fun x => !decide (x.pod = a ∧ x.cont = b) := by
      refine List.filter_congr fun x hx => ?_
      have e : x.key.sameKey (nameL a b) = decide (x.pod = a ∧ x.cont = b) := by
        rw [Bool.eq_iff_iff, decide_eq_true_iff]
        exact (name_same _ _ _ _).trans (RV.key_eq (h.1 x hx) ha hb)
      show (!x.key.sameKey (nameL a b)) = _
      rw [e]
    rw [hfc]
  · obtain ⟨es0, c0, es1, c1, _, rfl⟩ := ht
    simp [setBlock]
/-- Those that have come, and those that are left. -/
def Came (left : Lit → Bool) (xs pre : List RV) : Prop := ∃ rest, xs.Perm (pre ++ rest) ∧ (∀ x ∈ pre, left x.key = false) ∧ ∀ x ∈ rest, left x.key = true
theorem Came.start {xs : List RV} {es : List (Lit × DataW Value)} (he : es.Perm (ents xs)) : Came (Maps.has (.map es)) xs [] :=
  ⟨xs, by simp, fun x hx => by simp at hx, fun x hx => List.any_eq_true.2 ⟨(x.key, .held x.val), he.mem_iff.2 (List.mem_map.2 ⟨x, hx, rfl⟩), WideAt.sameKey_self trivial⟩⟩
theorem Came.finish {left : Lit → Bool} {xs pre : List RV} (h : Came left xs pre) (hl : ∀ kl, left kl = false) : pre.Perm xs := by
  obtain ⟨rest, hp, _, hr⟩ := h
  have : rest = [] := by
    cases rest with
    | nil => rfl
    | cons x l => have := hr x (by simp); rw [hl] at this; cases this
  subst this
  rw [List.append_nil] at hp
  exact hp.symm
theorem at_mem {es : List (Lit × DataW Value)} {kl : Lit} {y : DataW Value} (hat : ∀ zd, (DataW.map es).atKey kl zd = y) : ∃ p ∈ es, p.1 = kl ∧ p.2 = y := by
  unfold DataW.atKey at hat
  simp only at hat
  cases hf : es.find? (fun p => p.1.sameKey kl) with
  | none =>
    rw [hf] at hat
    have h1 := hat .nil
    have h2 := hat (.lit .nil)
    simp only at h1 h2
    rw [← h1] at h2
    cases h2
  | some p =>
    rw [hf] at hat
    exact ⟨p, List.mem_of_find?_eq_some hf, WideAt.sameKey_eq (List.find?_some (p := fun q : Lit × DataW Value => q.1.sameKey kl) hf), hat .nil⟩
theorem Came.step {left : Lit → Bool} {xs pre : List RV} {es : List (Lit × DataW Value)} (h : Came left xs pre) (he : es.Perm (ents xs)) (hk : (xs.map RV.key).Nodup) {kl : Lit} {c : RV} (hlk : left kl = true) (hat : ∀ zd, (DataW.map es).atKey kl zd = .held c.val) :
    Came (fun z => left z && !z.sameKey kl) xs (pre ++ [c]) ∧ kl = c.key := by
  obtain ⟨p, hp, rfl, hp2⟩ := at_mem hat
  obtain ⟨x, hx, rfl⟩ := List.mem_map.1 (he.mem_iff.1 hp)
  have e : x = c := RV.val_inj (by simpa using hp2)
  subst e
  obtain ⟨rest, hpm, h1, h2⟩ := h
  have hmem : x ∈ rest := by
    rcases List.mem_append.1 (hpm.mem_iff.1 hx) with hm | hm
    · have := h1 x hm
      rw [this] at hlk; cases hlk
    · exact hm
  obtain ⟨r1, r2, rfl⟩ := List.append_of_mem hmem
  have hp3 : xs.Perm ((pre ++ [x]) ++ (r1 ++ r2)) := by
    refine hpm.trans ?_
    rw [List.append_assoc]
    exact List.Perm.append_left _ List.perm_middle
  have hnd : ((pre ++ (r1 ++ x :: r2)).map RV.key).Nodup := (hpm.map _).nodup_iff.1 hk
  refine ⟨⟨r1 ++ r2, hp3, fun y hy => ?_, fun y hy => ?_⟩, rfl⟩
  · rcases List.mem_append.1 hy with hm | hm
    · show (left y.key && !y.key.sameKey x.key) = false
      rw [h1 y hm]; rfl
    · simp at hm
      subst hm
      show (left y.key && !y.key.sameKey y.key) = false
      rw [WideAt.sameKey_self (show WideAt.IsKeyLit y.key from trivial)]; simp
  · have hm : y ∈ r1 ++ x :: r2 := by
      rcases List.mem_append.1 hy with hm | hm
      · exact List.mem_append.2 (.inl hm)
      · exact List.mem_append.2 (.inr (List.mem_cons_of_mem _ hm))
    have hne : y.key ≠ x.key := by
      rw [List.map_append, List.nodup_append] at hnd
      have hnd2 := hnd.2.1
      have hp4 : ((x :: (r1 ++ r2)).map RV.key).Nodup := ((List.perm_middle (a := x) (l₁ := r1) (l₂ := r2)).map RV.key).nodup_iff.1 hnd2
      rw [List.map_cons, List.nodup_cons] at hp4
      exact fun e => hp4.1 (by rw [← e]; exact List.mem_map_of_mem hy)
    show (left y.key && !y.key.sameKey x.key) = true
    rw [h2 y hm, sameKey_ne hne]
    rfl
end Go.Proofs.Ythekalhceamcoaa
