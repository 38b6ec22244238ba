/- Groups of pods: no program, no world. -/
import Derived.Test.YthekalhceamcoaaQMath
namespace Go.Proofs.Ythekalhceamcoaa
namespace Qos
open Dvs (first nameMay allTo)
def shares (m : Int) : Int := min (max (m * 1024 / 1000) 2) 262144
def quota (m : Int) : Int := if m = 0 then -1 else max (m * 100) 1000
/-- A group. -/
structure Gp where
  path : ByteArray
  sh : Int
  qu : Int
  by' : Int
def gp0 : Gp := ⟨ByteArray.empty, 0, 0, 0⟩
instance : Inhabited Gp := ⟨gp0⟩
def gp (l : List Gp) (k : Nat) : Gp := l.getD k gp0
def lim (f : Ct → Int) (cs : List Ct) : Int := if allTo (fun k => decide (f (ct cs k) ≠ 0)) cs.length = true then sumTo (fun k => f (ct cs k)) cs.length else 0
/-- The words that open a path. -/
structure Words where
  low : ByteArray
  mid : ByteArray
  sep : ByteArray
  lowAll : ByteArray
  midAll : ByteArray
def pathOf (W : Words) (p : Pd) : ByteArray := if classOf p.cs = 1 then W.low ++ p.nm else if classOf p.cs = 2 then W.mid ++ p.nm else W.sep ++ p.nm
def podG (W : Words) (p : Pd) : Gp := ⟨pathOf W p, shares (sumM p.cs p.cs.length), quota (lim Ct.cm p.cs), lim Ct.cb p.cs⟩
def contG (W : Words) (p : Pd) (c : Ct) : Gp := ⟨pathOf W p ++ W.sep ++ c.nm, shares c.am, quota c.cm, c.cb⟩
def podGs (W : Words) (p : Pd) : List Gp := podG W p :: p.cs.map (contG W p)
def midOf (p : Pd) : Int := if classOf p.cs = 2 then sumM p.cs p.cs.length else 0
def middle (ps : List Pd) (n : Nat) : Int := sumTo (fun k => midOf (pd ps k)) n
def heads (W : Words) (ps : List Pd) : List Gp := [⟨W.midAll, shares (middle ps ps.length), -1, 0⟩, ⟨W.lowAll, 2, -1, 0⟩]
def upTo (W : Words) (ps : List Pd) (k : Nat) : List Gp := heads W ps ++ (ps.take k).flatMap (podGs W)
def groups (W : Words) (ps : List Pd) : List Gp := upTo W ps ps.length
def within (W : Words) (ps : List Pd) (k j : Nat) : List Gp := upTo W ps k ++ podG W (pd ps k) :: ((pd ps k).cs.take j).map (contG W (pd ps k))
theorem upTo_zero (W : Words) (ps : List Pd) : upTo W ps 0 = heads W ps := by simp [upTo]
theorem take_pd {ps : List Pd} {k : Nat} (h : k < ps.length) : ps.take (k + 1) = ps.take k ++ [pd ps k] := by
  rw [List.take_add_one, pd, List.getD_eq_getElem?_getD, List.getElem?_eq_getElem h]; rfl
theorem take_ct {cs : List Ct} {k : Nat} (h : k < cs.length) : cs.take (k + 1) = cs.take k ++ [ct cs k] := by
  rw [List.take_add_one, ct, List.getD_eq_getElem?_getD, List.getElem?_eq_getElem h]; rfl
theorem within_zero (W : Words) (ps : List Pd) (k : Nat) : within W ps k 0 = upTo W ps k ++ [podG W (pd ps k)] := by simp [within]
theorem within_succ (W : Words) (ps : List Pd) (k j : Nat) (h : j < (pd ps k).cs.length) : within W ps k (j + 1) = within W ps k j ++ [contG W (pd ps k) (ct (pd ps k).cs j)] := by
  unfold within
  rw [take_ct h]
  simp
theorem within_all (W : Words) (ps : List Pd) (k : Nat) (h : k < ps.length) : within W ps k (pd ps k).cs.length = upTo W ps (k + 1) := by
  unfold within upTo
  rw [take_pd h, List.take_of_length_le (Nat.le_refl _)]
  simp [podGs]
theorem within_len (W : Words) (ps : List Pd) (k j : Nat) (h : j ≤ (pd ps k).cs.length) : (within W ps k j).length = (upTo W ps k).length + 1 + j := by
  simp [within]; omega
theorem upTo_len0 (W : Words) (ps : List Pd) : (upTo W ps 0).length = 2 := by simp [upTo, heads]
theorem upTo_pre (W : Words) (ps : List Pd) (k n : Nat) (h : k ≤ n) : ∃ r, upTo W ps n = upTo W ps k ++ r := by
  unfold upTo
  refine ⟨((ps.take n).drop k).flatMap (podGs W), ?_⟩
  rw [List.append_assoc, ← List.flatMap_append]
  congr 2
  have := List.take_append_drop k (ps.take n)
  rw [List.take_take, Nat.min_eq_left h] at this
  exact this.symm
theorem groups_pod (W : Words) {ps : List Pd} {k : Nat} (h : k < ps.length) : (upTo W ps k).length < (groups W ps).length ∧ gp (groups W ps) (upTo W ps k).length = podG W (pd ps k) := by
  obtain ⟨r, hr⟩ := upTo_pre W ps (k + 1) ps.length (by omega)
  unfold groups
  rw [hr, ← within_all W ps k h]
  unfold within gp
  refine ⟨by simp, ?_⟩
  rw [List.append_assoc, List.getD_eq_getElem?_getD, List.getElem?_append_right (Nat.le_refl _)]
  simp
theorem groups_cont (W : Words) {ps : List Pd} {k j : Nat} (h : k < ps.length) (hj : j < (pd ps k).cs.length) : (upTo W ps k).length + 1 + j < (groups W ps).length ∧ gp (groups W ps) ((upTo W ps k).length + 1 + j) = contG W (pd ps k) (ct (pd ps k).cs j) := by
  obtain ⟨r, hr⟩ := upTo_pre W ps (k + 1) ps.length (by omega)
  unfold groups
  rw [hr, ← within_all W ps k h]
  unfold within gp
  refine ⟨by simp; omega, ?_⟩
  rw [List.append_assoc, List.getD_eq_getElem?_getD, List.getElem?_append_right (by omega), show (upTo W ps k).length + 1 + j - (upTo W ps k).length = j + 1 by omega]
  rw [List.take_of_length_le (Nat.le_refl _), List.cons_append, List.getElem?_cons_succ, List.getElem?_append_left (by simpa using hj)]
  simp [ct, hj]
theorem upTo_step (W : Words) {ps : List Pd} {k : Nat} (h : k < ps.length) : (upTo W ps (k + 1)).length = (upTo W ps k).length + 1 + (pd ps k).cs.length := by
  rw [← within_all W ps k h, within_len W ps k _ (Nat.le_refl _)]
theorem upTo_most {ps : List Pd} (hl : ps.length ≤ 16) (h3 : ∀ j, j < ps.length → (pd ps j).cs.length ≤ 3) (W : Words) {k : Nat} (hk : k ≤ ps.length) : (upTo W ps k).length ≤ 66 := by
  have : ∀ n, n ≤ ps.length → (upTo W ps n).length ≤ 2 + 4 * n := by
    intro n
    induction n with
    | zero => intro _; rw [upTo_len0]; omega
    | succ n ih =>
      intro hn
      rw [upTo_step W (by omega)]
      have h1 := ih (by omega)
      have h2 := h3 n (by omega)
      omega
  have := this k hk
  omega
theorem shares_mono {a b : Int} (h : a ≤ b) : shares a ≤ shares b := by
  unfold shares
  have : a * 1024 / 1000 ≤ b * 1024 / 1000 := by omega
  omega
theorem lim_pos {f : Ct → Int} {cs : List Ct} (h0 : ∀ k, k < cs.length → 0 ≤ f (ct cs k)) (h : 0 < lim f cs) {k : Nat} (hk : k < cs.length) : 0 < f (ct cs k) ∧ f (ct cs k) ≤ lim f cs := by
  unfold lim at *
  split at h
  · rename_i ha
    have h1 := allTo_at ha k hk
    have h2 := h0 k hk
    rw [if_pos ha]
    simp at h1
    exact ⟨by omega, sumTo_part (f := fun k => f (ct cs k)) h0 hk⟩
  · omega
theorem quota_pos {m : Int} (h0 : 0 ≤ m) (h : 0 < quota m) : 0 < m := by
  unfold quota at h
  split at h <;> omega
theorem lim_nonneg {f : Ct → Int} {cs : List Ct} (h0 : ∀ k, k < cs.length → 0 ≤ f (ct cs k)) : 0 ≤ lim f cs := by
  unfold lim
  split
  · exact sumTo_nonneg h0
  · exact Int.le_refl _
/-- What 'TopTree' asks of a container's group beside its pod's. -/
theorem tree (W : Words) {p : Pd} (hm : Mild p.cs) {j : Nat} (hj : j < p.cs.length) :
    (contG W p (ct p.cs j)).sh ≤ (podG W p).sh ∧ (0 < (podG W p).by' → 0 < (contG W p (ct p.cs j)).by' ∧ (contG W p (ct p.cs j)).by' ≤ (podG W p).by') ∧ (0 < (podG W p).qu → 0 ≤ (contG W p (ct p.cs j)).qu ∧ (contG W p (ct p.cs j)).qu ≤ (podG W p).qu) := by
  obtain ⟨h1, h2, h3, h4, _⟩ := hm.2 j hj
  refine ⟨shares_mono (sumTo_part (f := fun k => (ct p.cs k).am) (fun k hk => (hm.2 k hk).1.1) hj), fun h => lim_pos (f := Ct.cb) (fun k hk => (hm.2 k hk).2.2.2.1.1) h hj, fun h => ?_⟩
  have hl0 := lim_nonneg (f := Ct.cm) (cs := p.cs) (fun k hk => (hm.2 k hk).2.2.1.1)
  have hl := quota_pos hl0 h
  obtain ⟨g1, g2⟩ := lim_pos (f := Ct.cm) (fun k hk => (hm.2 k hk).2.2.1.1) hl hj
  show 0 ≤ quota (ct p.cs j).cm ∧ quota (ct p.cs j).cm ≤ quota (lim Ct.cm p.cs)
  unfold quota
  rw [if_neg (by omega), if_neg (by omega)]
  omega
theorem path_pre (a b : ByteArray) : (a ++ b).extract 0 a.size = a := by
  have := ByteArray.extract_append_eq_left (a := a) (b := b) (i := a.size) rfl
  exact this
end Qos
end Go.Proofs.Ythekalhceamcoaa
