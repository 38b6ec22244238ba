/- What 'TopPool' keeps beside a pool. -/
import Derived.Test.YthekalhceamcoaaDSame
import Derived.Test.YthekalhceamcoaaDClaim
import Derived.Test.YthekalhceamcoaaDLight2
namespace Go.Proofs.Ythekalhceamcoaa
open Go.RowKit
open Dvs (Dv dv0 dv nth Nodes fault first gvF given takeF took srt sel usedBy fits)
/-- Where things lie: apart, above what came in. -/
structure TApart (B pb db M S n : Nat) : Prop where
  lp : B ≤ pb
  ld : 0 < n → B ≤ db
  lm : B ≤ M
  ls : B ≤ S
  pm : pb ≠ M
  ps : pb ≠ S
  ms : M ≠ S
  dm : 0 < n → db ≠ M
  dS : 0 < n → db ≠ S
/-- The pool; who has what, what is sick, and what was taken last. -/
structure TopAt (W w : World) (pb db : Nat) (ao : Option Addr) (c M S : Nat) (ds0 ds : List Dv) (us : Nat → Bool) (lv : Value) (g : Nat) (L : List Nat) : Prop where
  pool : PoolAt w pb db ao c ds us
  nodes : Nodes ds
  mine : BitsAt w M us
  sick : BitsAt w S (fun j => (dv ds j).sick)
  last : NumsAt w lv g 0 (ints L)
  used : ∀ j ∈ L, j < ds.length ∧ us j = true
  lg : 0 < L.length → W.heap.size ≤ g ∧ g ≠ pb ∧ g ≠ M ∧ g ≠ S ∧ (0 < ds.length → g ≠ db)
  ll : L.length ≤ 16
  below : Below W.heap.size W w
  apart : TApart W.heap.size pb db M S ds.length
  kinds : ∀ j, j < ds.length → (dv ds j).kind = (dv ds0 j).kind
  len : ds.length = ds0.length
section
variable {W w w' w5 wr : World} {pb db : Nat} {ao : Option Addr} {c M S : Nat} {ds0 ds : List Dv} {us : Nat → Bool} {lv v : Value} {g g5 : Nat} {L : List Nat}
theorem TopAt.grows (h : TopAt W w pb db ao c M S ds0 ds us lv g L) (hb : Below w.heap.size w w') : TopAt W w' pb db ao c M S ds0 ds us lv g L :=
  ⟨h.pool.below hb, h.nodes, h.mine.below hb, h.sick.below hb, h.last.below hb, h.used, h.lg, h.ll, h.below.trans (hb.mono h.below.size), h.apart, h.kinds, h.len⟩
theorem TopAt.alloc (h : TopAt W w pb db ao c M S ds0 ds us lv g L) (o : Obj) : TopAt W (w.alloc o) pb db ao c M S ds0 ds us lv g L := h.grows ((Below.refl _ w).alloc (Nat.le_refl _) o)
theorem TopAt.lts (h : TopAt W w pb db ao c M S ds0 ds us lv g L) : pb < w.heap.size ∧ M < w.heap.size ∧ S < w.heap.size ∧ (0 < ds.length → db < w.heap.size) := ⟨h.pool.lt, h.mine.lt, h.sick.lt, fun h0 => (h.pool.at0 h0).2.2⟩
theorem usedBy_srt {us : Nat → Bool} {T : List Nat} (h16 : ∀ j ∈ T, j < 16) (j : Nat) : usedBy us (srt T) j = usedBy us T j := by
  unfold usedBy
  congr 1
  exact decide_eq_decide.2 (Dvs.srt_mem h16)
theorem BitsAt.congr {w : World} {T : Nat} {f g : Nat → Bool} (h : BitsAt w T f) (e : ∀ j, j < 16 → g j = f j) : BitsAt w T g := fun j hj => by rw [e j hj]; exact h j hj
/-- Some are taken. -/
theorem TopAt.take (h : TopAt W w pb db ao c M S ds0 ds us lv g L) {T : List Nat} (hT : ∀ j ∈ T, j < ds.length) (hg5 : w.grownBy w5 (some pb)) (hP5 : PoolAt w5 pb db ao c ds (usedBy us T)) (hn5 : NumsAt w5 v g5 0 (ints (srt T))) (hge : 0 < (srt T).length → w.heap.size ≤ g5)
    (hgr : w5.grownBy wr (some M)) (hm : BitsAt wr M (usedBy us (srt T))) : TopAt W wr pb db ao c M S ds0 ds (usedBy us T) v g5 (srt T) := by
  have h16 : ∀ j ∈ T, j < 16 := fun j hj => Nat.lt_of_lt_of_le (hT j hj) h.nodes.1
  obtain ⟨l1, l2, l3, l4⟩ := h.lts
  have b1 := below_grown hg5 (K := W.heap.size) h.below.size (fun j hj => by cases hj; exact h.apart.lp)
  have b2 := below_grown hgr (K := W.heap.size) (Nat.le_trans h.below.size hg5.size) (fun j hj => by cases hj; exact h.apart.lm)
  refine ⟨hP5.kept hgr (by simpa using h.apart.pm) (fun h0 => by simpa using h.apart.dm h0), h.nodes, hm.congr fun j _ => (usedBy_srt h16 j).symm, ?_, ?_, ?_, ?_, Dvs.sel_le _ 16, (h.below.trans b1).trans b2, h.apart, h.kinds, h.len⟩
  · exact (h.sick.kept hg5 (by simpa using fun e => h.apart.ps e.symm)).kept hgr (by simpa using fun e => h.apart.ms e.symm)
  · refine hn5.kept hgr (fun h0 => ?_)
    rw [ints_len] at h0
    have := hge h0
    simp
    omega
  · intro j hj
    have hj' := (Dvs.srt_mem h16).1 hj
    exact ⟨hT j hj', by unfold usedBy; rw [decide_eq_true hj', Bool.or_true]⟩
  · intro h0
    have := hge h0
    have := h.below.size
    exact ⟨by omega, by omega, by omega, by omega, fun hd => by have := l4 hd; omega⟩
theorem given_used {us : Nat → Bool} {l : List Int} {j : Nat} (h : us j = false) : given us l j = false := by rw [given, h]; rfl
/-- What was taken last is given back. -/
theorem TopAt.give (h : TopAt W w pb db ao c M S ds0 ds us lv g L) (hgr : w.grownBy w5 (some M)) (hm : BitsAt w5 M (given us (ints L))) (hg : w5.grownBy wr (some pb)) (hP : PoolAt wr pb db ao c ds (given us (ints L))) : TopAt W wr pb db ao c M S ds0 ds (given us (ints L)) (.slice none 0 0) 0 [] := by
  have b1 := below_grown hgr (K := W.heap.size) h.below.size (fun j hj => by cases hj; exact h.apart.lm)
  have b2 := below_grown hg (K := W.heap.size) (Nat.le_trans h.below.size hgr.size) (fun j hj => by cases hj; exact h.apart.lp)
  refine ⟨hP, h.nodes, hm.kept hg (by simpa using fun e => h.apart.pm e.symm), ?_, ⟨none, 0, rfl, fun h0 => by simp [ints] at h0⟩, fun j hj => by simp at hj, fun h0 => by simp at h0, by simp, (h.below.trans b1).trans b2, h.apart, h.kinds, h.len⟩
  exact (h.sick.kept hgr (by simpa using fun e => h.apart.ms e.symm)).kept hg (by simpa using fun e => h.apart.ps e.symm)
theorem TopAt.midGive (h : TopAt W w pb db ao c M S ds0 ds us lv g L) (hgr : w.grownBy w5 (some M)) : PoolAt w5 pb db ao c ds us ∧ NumsAt w5 lv g 0 (ints L) :=
  ⟨h.pool.kept hgr (by simpa using h.apart.pm) (fun h0 => by simpa using h.apart.dm h0), h.last.kept hgr (fun h0 => by rw [ints_len] at h0; simpa using (h.lg h0).2.2.1)⟩
theorem TopAt.noFault (h : TopAt W w pb db ao c M S ds0 ds us lv g L) : first (gvF ds.length us (ints L)) (ints L).length = 0 := by
  refine Dvs.first_none fun k hk => ?_
  rw [ints_len] at hk
  have e : nth (ints L) k = ((L[k] : Nat) : Int) := by simp [nth, ints, hk]
  obtain ⟨h1, h2⟩ := h.used L[k] (List.getElem_mem hk)
  exact gvF_good e h1 h2
/-- One is sick. -/
theorem TopAt.sicken (h : TopAt W w pb db ao c M S ds0 ds us lv g L) {n : Nat} (hn : n < ds.length) : TopAt W ((w.setCell ⟨db, n * 3 + 2, none⟩ (.bool true)).setCell ⟨S, n, none⟩ (.bool true)) pb db ao c M S ds0 (Dvs.sicken ds n true) us lv g L := by
  have h0 : 0 < ds.length := by omega
  have hn16 : n < 16 := Nat.lt_of_lt_of_le hn h.nodes.1
  have g1 := grown_setCell w ⟨db, n * 3 + 2, none⟩ (.bool true)
  have g2 := grown_setCell (w.setCell ⟨db, n * 3 + 2, none⟩ (.bool true)) ⟨S, n, none⟩ (.bool true)
  have hl := Dvs.sicken_len ds n true
  refine ⟨(h.pool.sicken hn true).kept g2 (by simpa using h.apart.ps) (fun _ => by simpa using h.apart.dS h0), Dvs.sicken_nodes h.nodes hn true, ?_, ?_, ?_, by rw [hl]; exact h.used, by rw [hl]; exact h.lg, h.ll, ?_, by rw [hl]; exact h.apart, ?_, by rw [hl]; exact h.len⟩
  · exact (h.mine.kept g1 (by simpa using fun e => h.apart.dm h0 e.symm)).kept g2 (by simpa using h.apart.ms)
  · refine (h.sick.kept g1 (by simpa using fun e => h.apart.dS h0 e.symm)).set hn16 true (fun j _ => ?_)
    show (dv (Dvs.sicken ds n true) j).sick = _
    rw [Dvs.sicken_at hn]
    by_cases e : j = n
    · rw [if_pos e, if_pos e]
    · rw [if_neg e, if_neg e]
  · refine (h.last.kept g1 (fun hh => ?_)).kept g2 (fun hh => ?_)
    · rw [ints_len] at hh; simpa using (h.lg hh).2.2.2.2 h0
    · rw [ints_len] at hh; simpa using (h.lg hh).2.2.2.1
  · exact (h.below.setCell (h.apart.ld h0) _).setCell h.apart.ls _
  · intro j hj
    rw [hl] at hj
    rw [Dvs.sicken_at hn]
    by_cases e : j = n
    · rw [if_pos e]; subst e; exact h.kinds j hj
    · rw [if_neg e]; exact h.kinds j hj
theorem TopAt.midSick (h : TopAt W w pb db ao c M S ds0 ds us lv g L) {n : Nat} (hn : n < ds.length) : (w.setCell ⟨db, n * 3 + 2, none⟩ (.bool true)).cell? ⟨S, n, none⟩ = some (.bool (dv ds n).sick) ∧ (w.setCell ⟨db, n * 3 + 2, none⟩ (.bool true)).frozen? ⟨S, n, none⟩ = false := by
  have h0 : 0 < ds.length := by omega
  have hn16 : n < 16 := Nat.lt_of_lt_of_le hn h.nodes.1
  exact (h.sick.kept (grown_setCell w ⟨db, n * 3 + 2, none⟩ (.bool true)) (by simpa using fun e => h.apart.dS h0 e.symm)) n hn16
end
/-- What holds of those that were taken. -/
theorem took_len {ds : List Dv} {us : Nat → Bool} {kind : ByteArray} {m : Nat} {many : Int} (h : takeF ds us kind many = 0) : ((took ds us kind m many.toNat).length : Int) = many := by
  unfold takeF at h
  split at h
  · cases h
  · split at h
    · cases h
    · unfold took
      rw [List.length_take, Dvs.ord_len]
      omega
theorem took_srt {ds : List Dv} (hN : Nodes ds) {us : Nat → Bool} {kind : ByteArray} {m n k : Nat} (hk : k < (srt (took ds us kind m n)).length) :
    ∃ q, (srt (took ds us kind m n))[k]? = some q ∧ q < ds.length ∧ (dv ds q).kind = kind ∧ (dv ds q).sick = false ∧ us q = false ∧ usedBy us ((srt (took ds us kind m n)).take k) q = false ∧ ∀ p, 0 < k → (srt (took ds us kind m n))[k - 1]? = some p → p < q := by
  have h16 : ∀ j ∈ took ds us kind m n, j < 16 := fun j hj => Nat.lt_of_lt_of_le (Dvs.took_mem hj).1 hN.1
  refine ⟨(srt (took ds us kind m n))[k], List.getElem?_eq_getElem hk, ?_⟩
  have hm := (Dvs.srt_mem h16).1 (List.getElem_mem hk)
  obtain ⟨h1, h2⟩ := Dvs.took_mem hm
  unfold fits at h2
  simp at h2
  have hr := Dvs.sel_rising (fun j => decide (j ∈ took ds us kind m n)) 16
  refine ⟨h1, h2.1.1, h2.1.2, h2.2, ?_, ?_⟩
  · unfold usedBy
    rw [h2.2, Bool.false_or, decide_eq_false]
    intro hh
    obtain ⟨i, hi, e⟩ := List.mem_iff_getElem.1 hh
    rw [List.length_take] at hi
    rw [List.getElem_take] at e
    have := List.pairwise_iff_getElem.1 hr i k (by show i < (srt (took ds us kind m n)).length; omega) hk (by omega)
    exact absurd e (Nat.ne_of_lt this)
  · intro p h0 hp
    obtain ⟨hp1, hp2⟩ := List.getElem?_eq_some_iff.1 hp
    have := List.pairwise_iff_getElem.1 hr (k - 1) k hp1 hk (by omega)
    rw [← hp2]
    exact this
end Go.Proofs.Ythekalhceamcoaa
