/- VHMath, VRMath, SText, SParse2, VH1, QW2, VD3, VE1, Ref2, Ref3, VT0, TopSetW -/
import Derived.Test.YtlljniaobbbjgaaGreatDoorU1
import Derived.Test.YtlljniaobbbjgaaGreatDoorU3
import Derived.Lib.ItoaLen
import Derived.Shelf.SlicesQ.IndexFunc
import Derived.Ground.SlgfProg
import Derived.Shelf.Lay
import Derived.Test.YtlljniaobbbjgaaGreatDoorU2
import Derived.Deep.DeepFit
import Derived.Lib.ItoaMem
namespace Go.Proofs.YtlljniaobbbjgaaGreatDoor
namespace Sv
open Qos (Nd Ct Pd nd ct pd podF leS)
open Dvs (first nameMay)
/-- What a container was given. -/
structure Gv where
  cp : Nat
  dv : List Int
def gv0 : Gv := ⟨0, []⟩
instance : Inhabited Gv := ⟨gv0⟩
def gv (l : List Gv) (k : Nat) : Gv := l.getD k gv0
/-- A pod, and what its containers were given. -/
structure Hd where
  pod : Pd
  gs : List Gv
def hd0 : Hd := ⟨Qos.pd0, []⟩
instance : Inhabited Hd := ⟨hd0⟩
def hd (l : List Hd) (k : Nat) : Hd := l.getD k hd0
def dec (n : Int) : List UInt8 := Lib.decDigits n.toNat
def orNo (l : List UInt8) : List UInt8 := if l = [] then [45] else l
def needTxt (d : Nd) : List UInt8 := d.kind.data.toList ++ [58] ++ dec d.many
def needsTxt (ds : List Nd) : List UInt8 := orNo (Lib.join (ds.map needTxt) [44])
def devsTxt (dv : List Int) : List UInt8 := orNo (Lib.join (dv.map dec) [44])
def setTxt (A : Nat) : List UInt8 := orNo (Ost.txt A)
def contWs (c : Ct) : List (List UInt8) := [[99, 111, 110, 116], c.nm.data.toList, dec c.am, dec c.ab, dec c.cm, dec c.cb, needsTxt c.ds]
def givenWs (g : Gv) : List (List UInt8) := [setTxt g.cp, devsTxt g.dv]
def podWs (p : Pd) : List (List UInt8) := [[112, 111, 100], p.nm.data.toList, dec p.pr]
def lineTxt (ws : List (List UInt8)) : List UInt8 := Lib.join ws [32] ++ [10]
def contLine (c : Ct) (g : Gv) : List UInt8 := lineTxt (contWs c ++ givenWs g)
def podLine (p : Pd) : List UInt8 := lineTxt (podWs p)
/-- The lines of the first containers. -/
def contsTo (h : Hd) : Nat → List UInt8
  | 0 => []
  | k + 1 => contsTo h k ++ contLine (ct h.pod.cs k) (gv h.gs k)
def podTxt (h : Hd) : List UInt8 := podLine h.pod ++ contsTo h h.pod.cs.length
def bodyTo (hs : List Hd) : Nat → List UInt8
  | 0 => []
  | k + 1 => bodyTo hs k ++ podTxt (hd hs k)
def body (hs : List Hd) : List UInt8 := bodyTo hs hs.length
def sumTxt (b : List UInt8) : List UInt8 := [115, 117, 109, 32] ++ Lib.decDigits (fnv b) ++ [10]
def heldTxt (hs : List Hd) : List UInt8 := body hs ++ sumTxt (body hs)
/-- What is wrong with the j-th device. -/
def devF1 (dv : List Int) (j : Nat) : Nat := if dv.getD j 0 < 0 ∨ 15 < dv.getD j 0 ∨ (0 < j ∧ dv.getD j 0 ≤ dv.getD (j - 1) 0) then 3 else 0
def devF (dv : List Int) : Nat := if 16 < dv.length then 2 else first (devF1 dv) dv.length
def gsF (gs : List Gv) : Nat := first (fun k => devF (gv gs k).dv) gs.length
/-- What is wrong with one behind one of a name. -/
def behindF (h : Hd) (lowB : Bool) : Nat :=
  if podF h.pod ≠ 0 then podF h.pod else if lowB = true ∨ h.gs.length ≠ h.pod.cs.length then 3 else gsF h.gs
def lowAt (hs : List Hd) (i : Nat) : Bool := decide (0 < i) && leS (hd hs i).pod.nm (hd hs (i - 1)).pod.nm
def oneF (hs : List Hd) (i : Nat) : Nat := behindF (hd hs i) (lowAt hs i)
def heldF (hs : List Hd) : Nat := if 12 < hs.length then 2 else first (oneF hs) hs.length
/-- What may be held. -/
def OkG (g : Gv) : Prop := g.cp < 18446744073709551616 ∧ g.dv.length ≤ 16 ∧ ∀ x ∈ g.dv, 0 ≤ x ∧ x ≤ 15
def OkN (d : Nd) : Prop := nameMay d.kind = true ∧ 1 ≤ d.many ∧ d.many ≤ 16
def OkC (c : Ct) : Prop := nameMay c.nm = true ∧ (0 ≤ c.am ∧ c.am ≤ 1000000) ∧ (0 ≤ c.ab ∧ c.ab ≤ 1125899906842624) ∧ (0 ≤ c.cm ∧ c.cm ≤ 1000000) ∧ (0 ≤ c.cb ∧ c.cb ≤ 1125899906842624) ∧ c.ds.length ≤ 3 ∧ ∀ d ∈ c.ds, OkN d
def OkP (p : Pd) : Prop := nameMay p.nm = true ∧ (0 ≤ p.pr ∧ p.pr ≤ 1000) ∧ p.cs.length ≤ 3 ∧ ∀ c ∈ p.cs, OkC c
def OkH (h : Hd) : Prop := OkP h.pod ∧ h.gs.length = h.pod.cs.length ∧ ∀ g ∈ h.gs, OkG g
def OkL (hs : List Hd) : Prop := hs.length ≤ 12 ∧ ∀ h ∈ hs, OkH h
theorem nd_in {ds : List Nd} {d : Nd} (h : d ∈ ds) : ∃ k, k < ds.length ∧ nd ds k = d := by
  obtain ⟨k, hk, rfl⟩ := List.getElem_of_mem h
  exact ⟨k, hk, by simp [nd, hk]⟩
theorem ct_in {ds : List Ct} {d : Ct} (h : d ∈ ds) : ∃ k, k < ds.length ∧ ct ds k = d := by
  obtain ⟨k, hk, rfl⟩ := List.getElem_of_mem h
  exact ⟨k, hk, by simp [ct, hk]⟩
theorem gv_in {ds : List Gv} {d : Gv} (h : d ∈ ds) : ∃ k, k < ds.length ∧ gv ds k = d := by
  obtain ⟨k, hk, rfl⟩ := List.getElem_of_mem h
  exact ⟨k, hk, by simp [gv, hk]⟩
theorem hd_in {ds : List Hd} {d : Hd} (h : d ∈ ds) : ∃ k, k < ds.length ∧ hd ds k = d := by
  obtain ⟨k, hk, rfl⟩ := List.getElem_of_mem h
  exact ⟨k, hk, by simp [hd, hk]⟩
theorem int_in {ds : List Int} {d : Int} (h : d ∈ ds) : ∃ k, k < ds.length ∧ ds.getD k 0 = d := by
  obtain ⟨k, hk, rfl⟩ := List.getElem_of_mem h
  exact ⟨k, hk, by simp [hk]⟩
theorem mem_ct {ds : List Ct} {k : Nat} (h : k < ds.length) : ct ds k ∈ ds := by simp [ct, h]
theorem mem_nd {ds : List Nd} {k : Nat} (h : k < ds.length) : nd ds k ∈ ds := by simp [nd, h]
theorem mem_gv {ds : List Gv} {k : Nat} (h : k < ds.length) : gv ds k ∈ ds := by simp [gv, h]
theorem mem_hd {ds : List Hd} {k : Nat} (h : k < ds.length) : hd ds k ∈ ds := by simp [hd, h]
theorem okN_of {ds : List Nd} (h : first (Qos.needF ds) ds.length = 0) : ∀ d ∈ ds, OkN d := by
  intro d hd
  obtain ⟨k, hk, rfl⟩ := nd_in hd
  have := Dvs.first_all h k hk
  unfold Qos.needF at this
  split at this
  · cases this
  · rename_i h1
    split at this
    · cases this
    · rename_i h2
      rw [not_or] at h1 h2
      exact ⟨by simpa using h1.1, by omega, by omega⟩
theorem okC_of {cs : List Ct} {k : Nat} (h : Qos.contF cs k = 0) : OkC (ct cs k) := by
  have h1 := Qos.cont_mild h
  unfold Qos.contF at h
  split at h
  · cases h
  rename_i hn
  split at h
  · cases h
  split at h
  · cases h
  split at h
  · cases h
  split at h
  · cases h
  rename_i h3
  have a := Qos.amt_in h1.1
  have b := Qos.amt_in h1.2.1
  exact ⟨by simpa using hn, a.1, a.2, b.1, b.2, by omega, okN_of h⟩
theorem okP_of {p : Pd} (h : podF p = 0) : OkP p := by
  obtain ⟨h1, h2, h3, h4⟩ := Qos.pod_len h
  refine ⟨h1, h2, h3.2, fun c hc => ?_⟩
  obtain ⟨k, hk, rfl⟩ := ct_in hc
  exact okC_of (Dvs.first_all h4 k hk)
theorem okD_of {dv : List Int} (h : devF dv = 0) : dv.length ≤ 16 ∧ ∀ x ∈ dv, 0 ≤ x ∧ x ≤ 15 := by
  unfold devF at h
  split at h
  · cases h
  refine ⟨by omega, fun x hx => ?_⟩
  obtain ⟨k, hk, rfl⟩ := int_in hx
  have := Dvs.first_all h k hk
  unfold devF1 at this
  split at this
  · cases this
  · omega
theorem okH_of {h : Hd} {b : Bool} (e : behindF h b = 0) (hc : ∀ g ∈ h.gs, g.cp < 18446744073709551616) : OkH h := by
  unfold behindF at e
  split at e
  · exact absurd e (by assumption)
  rename_i h1
  split at e
  · cases e
  rename_i h2
  rw [not_or] at h2
  refine ⟨okP_of (by omega), by omega, fun g hg => ?_⟩
  obtain ⟨k, hk, rfl⟩ := gv_in hg
  exact ⟨hc _ hg, okD_of (Dvs.first_all e k hk)⟩
theorem okL_of {hs : List Hd} (e : heldF hs = 0) (hc : ∀ h ∈ hs, ∀ g ∈ h.gs, g.cp < 18446744073709551616) : OkL hs := by
  unfold heldF at e
  split at e
  · cases e
  refine ⟨by omega, fun h hh => ?_⟩
  obtain ⟨k, hk, rfl⟩ := hd_in hh
  exact okH_of (Dvs.first_all e k hk) (hc _ hh)
theorem name_size {s : ByteArray} (h : nameMay s = true) : 0 < s.data.toList.length ∧ s.data.toList.length ≤ 8 := by
  have e : s.data.toList.length = s.size := by simp
  rw [e]
  simp only [nameMay, Bool.and_eq_true, decide_eq_true_eq] at h
  exact ⟨h.1.1, h.1.2⟩
theorem dd_le (n : Nat) (h : n < 18446744073709551616) : (Lib.decDigits n).length ≤ 20 := by rw [Lib.decDigits_length]; exact Lib.nDigits_le20 _ h
theorem dec_le (n : Int) (h : n ≤ 1125899906842624) : (dec n).length ≤ 20 := dd_le _ (by omega)
theorem join_le (c : UInt8) (m : Nat) : ∀ (xs : List (List UInt8)), (∀ x ∈ xs, x.length ≤ m) → (Lib.join xs [c]).length ≤ xs.length * (m + 1) := by
  intro xs h
  have key : ∀ r : List (List UInt8), (∀ x ∈ r, x.length ≤ m) → Lib.lens r ≤ r.length * m := by
    intro r
    induction r with
    | nil => intro _; simp [Lib.lens]
    | cons x r ih =>
      intro h
      have h1 := ih fun y hy => h y (by simp [hy])
      have h2 := h x (by simp)
      simp only [Lib.lens, List.map_cons, List.sum_cons, List.length_cons, Nat.add_mul, Nat.one_mul] at h1 ⊢
      omega
  cases xs with
  | nil => simp [Lib.join_nil]
  | cons x r =>
    rw [Lib.join_length]
    have h1 := key _ h
    simp only [List.length_cons, List.length_nil, Nat.mul_add, Nat.add_mul, Nat.one_mul, Nat.mul_one, Nat.zero_add] at h1 ⊢
    omega
theorem orNo_le {l : List UInt8} {m : Nat} (h : l.length ≤ m) : (orNo l).length ≤ m + 1 := by
  unfold orNo; split
  · simp
  · omega
theorem needTxt_le {d : Nd} (h : OkN d) : (needTxt d).length ≤ 29 := by
  have h1 := name_size h.1
  have h2 := dec_le d.many (by have := h.2.2; omega)
  simp only [needTxt, List.length_append, List.length_cons, List.length_nil]
  omega
theorem needsTxt_le {ds : List Nd} (h : ∀ d ∈ ds, OkN d) (hl : ds.length ≤ 3) : (needsTxt ds).length ≤ 91 := by
  refine orNo_le (Nat.le_trans (join_le 44 29 _ fun x hx => ?_) ?_)
  · obtain ⟨d, hd, rfl⟩ := List.mem_map.1 hx
    exact needTxt_le (h d hd)
  · rw [List.length_map]; omega
theorem devsTxt_le {dv : List Int} (h : ∀ x ∈ dv, 0 ≤ x ∧ x ≤ 15) (hl : dv.length ≤ 16) : (devsTxt dv).length ≤ 337 := by
  refine orNo_le (Nat.le_trans (join_le 44 20 _ fun x hx => ?_) ?_)
  · obtain ⟨d, hd, rfl⟩ := List.mem_map.1 hx
    exact dec_le d (by have := h d hd; omega)
  · rw [List.length_map]; omega
theorem setTxt_le (A : Nat) : (setTxt A).length ≤ 301 := orNo_le (Ost.txt_len A)
theorem contWs_le {c : Ct} (h : OkC c) : ∀ x ∈ contWs c, x.length ≤ 100 := by
  obtain ⟨h1, h2, h3, h4, h5, h6, h7⟩ := h
  have a := name_size h1
  have b1 := dec_le c.am (by omega)
  have b2 := dec_le c.ab (by omega)
  have b3 := dec_le c.cm (by omega)
  have b4 := dec_le c.cb (by omega)
  have b5 := needsTxt_le h7 h6
  intro x hx
  simp only [contWs, List.mem_cons, List.not_mem_nil, or_false] at hx
  rcases hx with rfl | rfl | rfl | rfl | rfl | rfl | rfl <;> first | omega | simp
theorem givenWs_le {g : Gv} (h : OkG g) : ∀ x ∈ givenWs g, x.length ≤ 400 := by
  have a := setTxt_le g.cp
  have b := devsTxt_le h.2.2 h.2.1
  intro x hx
  simp only [givenWs, List.mem_cons, List.not_mem_nil, or_false] at hx
  rcases hx with rfl | rfl <;> omega
theorem podWs_le {p : Pd} (h : OkP p) : ∀ x ∈ podWs p, x.length ≤ 100 := by
  have a := name_size h.1
  have b := dec_le p.pr (by have := h.2.1; omega)
  intro x hx
  simp only [podWs, List.mem_cons, List.not_mem_nil, or_false] at hx
  rcases hx with rfl | rfl | rfl <;> first | omega | simp
theorem contLine_le {c : Ct} {g : Gv} (hc : OkC c) (hg : OkG g) : (contLine c g).length ≤ 4000 := by
  have := join_le 32 400 (contWs c ++ givenWs g) fun x hx => by
    rcases List.mem_append.1 hx with h | h
    · have := contWs_le hc x h; omega
    · exact givenWs_le hg x h
  simp only [contLine, lineTxt, List.length_append, List.length_cons, List.length_nil] at this ⊢
  simp only [contWs, givenWs, List.length_cons, List.length_nil] at this
  simp only [contWs, givenWs]
  omega
theorem podLine_le {p : Pd} (h : OkP p) : (podLine p).length ≤ 400 := by
  have := join_le 32 100 (podWs p) (podWs_le h)
  simp only [podLine, lineTxt, List.length_append, List.length_cons, List.length_nil]
  simp only [podWs, List.length_cons, List.length_nil] at this ⊢
  omega
theorem okC_at {h : Hd} (e : OkH h) {k : Nat} (hk : k < h.pod.cs.length) : OkC (ct h.pod.cs k) ∧ OkG (gv h.gs k) :=
  ⟨e.1.2.2.2 _ (mem_ct hk), e.2.2 _ (mem_gv (by rw [e.2.1]; exact hk))⟩
theorem contsTo_le {h : Hd} (e : OkH h) : ∀ k, k ≤ h.pod.cs.length → (contsTo h k).length ≤ k * 4000 := by
  intro k
  induction k with
  | zero => intro _; simp [contsTo]
  | succ k ih =>
    intro hk
    have h1 := ih (by omega)
    obtain ⟨h2, h3⟩ := okC_at e (k := k) (by omega)
    have := contLine_le h2 h3
    rw [contsTo, List.length_append]
    omega
theorem podTxt_le {h : Hd} (e : OkH h) : (podTxt h).length ≤ 13000 := by
  have h1 := contsTo_le e _ (Nat.le_refl _)
  have h2 := podLine_le e.1
  have h3 := e.1.2.2.1
  rw [podTxt, List.length_append]
  omega
theorem bodyTo_le {hs : List Hd} (e : OkL hs) : ∀ k, k ≤ hs.length → (bodyTo hs k).length ≤ k * 13000 := by
  intro k
  induction k with
  | zero => intro _; simp [bodyTo]
  | succ k ih =>
    intro hk
    have h1 := ih (by omega)
    have h2 := podTxt_le (e.2 _ (mem_hd (k := k) (by omega)))
    rw [bodyTo, List.length_append]
    omega
theorem body_le {hs : List Hd} (e : OkL hs) : (body hs).length ≤ 156000 := by
  have := bodyTo_le e _ (Nat.le_refl _)
  have h2 := e.1
  unfold body
  omega
theorem sumTxt_le (b : List UInt8) : (sumTxt b).length ≤ 25 := by
  have := dd_le (fnv b) (Nat.lt_of_lt_of_le (fnv_lt b) (by omega))
  simp only [sumTxt, List.length_append, List.length_cons, List.length_nil]
  omega
end Sv
end Go.Proofs.YtlljniaobbbjgaaGreatDoor

namespace Go.Proofs.YtlljniaobbbjgaaGreatDoor
namespace Sv
open Qos (Nd Ct Pd nd ct pd podF leS)
open Ost (cut1 splitC parseOut good val isNum isDig)
open Dvs (nameMay)
abbrev Tx := List UInt8
def allOf {α : Type} (f : Tx → Option α) : List Tx → Option (List α)
  | [] => some []
  | x :: r => match f x with
    | none => none
    | some y => (allOf f r).map (y :: ·)
def listOf {α : Type} (f : Tx → Option α) (l : Tx) : Option (List α) := if l = [45] then some [] else allOf f (splitC 44 l)
def cpusOf (l : Tx) : Option Nat := if l = [45] then some 0 else if (parseOut l).2 = 0 then some (parseOut l).1 else none
/-- A word, by its place. -/
def wd (ws : List Tx) (k : Nat) : Tx := ws.getD k []
def contOf (num : Tx → Option Int) (need : Tx → Option Nd) (ws : List Tx) : Option (Ct × Gv) :=
  match num (wd ws 2), num (wd ws 3), num (wd ws 4), num (wd ws 5), listOf need (wd ws 6), cpusOf (wd ws 7), listOf num (wd ws 8) with
  | some a, some b, some c, some d, some ds, some A, some dv => some (⟨⟨(wd ws 1).toArray⟩, a, b, c, d, ds⟩, ⟨A, dv⟩)
  | _, _, _, _, _, _, _ => none
def isPod (ws : List Tx) : Bool := decide (wd ws 0 = [112, 111, 100]) && decide (ws.length = 3)
def isCont (ws : List Tx) : Bool := decide (wd ws 0 = [99, 111, 110, 116]) && decide (ws.length = 9)
def plusC (h : Hd) (c : Ct) (g : Gv) : Hd := ⟨⟨h.pod.nm, h.pod.pr, h.pod.cs ++ [c]⟩, h.gs ++ [g]⟩
def addCont (hs : List Hd) (c : Ct) (g : Gv) : List Hd := hs.dropLast ++ [plusC (hd hs (hs.length - 1)) c g]
def newHd (ws : List Tx) (n : Int) : Hd := ⟨⟨⟨(wd ws 1).toArray⟩, n, []⟩, []⟩
def step (num : Tx → Option Int) (need : Tx → Option Nd) (hs : List Hd) (ws : List Tx) : Option (List Hd) :=
  if isPod ws = true then (num (wd ws 2)).map fun n => hs ++ [newHd ws n]
  else if isCont ws = true ∧ 0 < hs.length then (contOf num need ws).map fun x => addCont hs x.1 x.2
  else none
def steps (num : Tx → Option Int) (need : Tx → Option Nd) (hs : List Hd) : List (List Tx) → Option (List Hd)
  | [] => some hs
  | ws :: r => match step num need hs ws with
    | none => none
    | some hs' => steps num need hs' r
/-- The lines of a text, without their ends. -/
def rowsS (t : Tx) : List Tx := if (splitC 10 t).getLast? = some [] then (splitC 10 t).dropLast else splitC 10 t
def numS (l : Tx) : Option Int := if good 16 l = true then some (val l) else none
def needS (l : Tx) : Option Nd := (numS (cut1 58 l).2.1).map fun n => ⟨⟨(cut1 58 l).1.toArray⟩, n⟩
def readS (t : Tx) : Option (List Hd) := steps numS needS [] ((rowsS t).map (splitC 32))
def numR (l : Tx) : Option Int := if isNum l = true then some (min (val l) 1125899906842625) else none
def needR (l : Tx) : Option Nd := if (splitC 58 l).length = 2 then (numR (wd (splitC 58 l) 1)).map fun n => ⟨⟨(wd (splitC 58 l) 0).toArray⟩, n⟩ else none
def readR (t : Tx) : Option (List Hd) := steps numR needR [] ((splitC 10 t).dropLast.map (splitC 32))
/-- What readers must give back. -/
structure Good (num : Tx → Option Int) (need : Tx → Option Nd) : Prop where
  num : ∀ n : Int, 0 ≤ n → n ≤ 1125899906842624 → num (dec n) = some n
  need : ∀ d : Nd, OkN d → need (needTxt d) = some d
theorem dig_no (n : Int) (c : UInt8) (hc : isDig c = false) : c ∉ dec n := Ost.dig_not _ c hc
theorem name_no {s : ByteArray} (h : nameMay s = true) (c : UInt8) (hc : Dvs.isLet c = false) (hn : Dvs.isNum c = false) : c ∉ s.data.toList := by
  intro hm
  simp only [nameMay, Bool.and_eq_true] at h
  obtain ⟨k, hk, e⟩ := List.getElem_of_mem hm
  have key : ∀ n, Dvs.allTo (Dvs.okB s) n = true → ∀ k, k < n → Dvs.okB s k = true := by
    intro n
    induction n with
    | zero => intro _ k hk; omega
    | succ n ih =>
      intro h k hk
      simp only [Dvs.allTo, Bool.and_eq_true] at h
      by_cases hkn : k = n
      · subst hkn; exact h.2
      · exact ih h.1 k (by omega)
  have := key _ h.2 k (by simpa using hk)
  rw [Dvs.okB, List.getD_eq_getElem?_getD, List.getElem?_eq_getElem hk, Option.getD_some, e, hc, hn] at this
  cases this
theorem goodS : Good numS needS := by
  have hn : ∀ n : Int, 0 ≤ n → n ≤ 1125899906842624 → numS (dec n) = some n := by
    intro n h0 h1
    obtain ⟨k, rfl⟩ := Int.eq_ofNat_of_zero_le h0
    have e1 := Ost.decN_num k
    have e2 := (Ost.decN_all k).2
    have e3 := Ost.decN_len 15 k (by omega)
    unfold Ost.decN at e1 e2 e3
    have e4 : good 16 (Lib.decDigits k) = true := by
      rw [good, e1, e2, decide_eq_true (by omega), decide_eq_true (by unfold Ost.maxI; omega)]; rfl
    simp only [numS, dec, Int.toNat_natCast, e4, if_true, e2]
  refine ⟨hn, fun d hd => ?_⟩
  have e : needTxt d = d.kind.data.toList ++ 58 :: dec d.many := by simp [needTxt]
  have hc := Ost.cut1_at 58 d.kind.data.toList (dec d.many) (name_no hd.1 58 (by decide) (by decide))
  rw [needS, e, hc, hn d.many (by have := hd.2; omega) (by have := hd.2; omega)]
  rfl
theorem goodR : Good numR needR := by
  have hn : ∀ n : Int, 0 ≤ n → n ≤ 1125899906842624 → numR (dec n) = some n := by
    intro n h0 h1
    obtain ⟨k, rfl⟩ := Int.eq_ofNat_of_zero_le h0
    have e1 := Ost.decN_num k
    have e2 := (Ost.decN_all k).2
    unfold Ost.decN at e1 e2
    simp only [numR, dec, Int.toNat_natCast, e1, if_true, e2]
    congr 1; omega
  refine ⟨hn, fun d hd => ?_⟩
  have e : needTxt d = d.kind.data.toList ++ 58 :: dec d.many := by simp [needTxt]
  have hs : splitC 58 (needTxt d) = [d.kind.data.toList, dec d.many] := by
    rw [e, Ost.splitC_cut 58 _ _ (name_no hd.1 58 (by decide) (by decide)), Ost.splitC_none 58 _ (dig_no _ _ (by decide))]
  rw [needR, hs, if_pos (by rfl)]
  show (numR (dec d.many)).map _ = _
  rw [hn d.many (by have := hd.2; omega) (by have := hd.2; omega)]
  rfl
theorem allOf_map {α : Type} {f : Tx → Option α} {g : α → Tx} {xs : List α} (h : ∀ x ∈ xs, f (g x) = some x) : allOf f (xs.map g) = some xs := by
  induction xs with
  | nil => rfl
  | cons x r ih =>
    rw [List.map_cons, allOf, h x (by simp), ih fun y hy => h y (by simp [hy])]
    rfl
theorem join_mem {c : UInt8} {xs : List Tx} {b : UInt8} (h : b ∈ Lib.join xs [c]) : b = c ∨ ∃ x ∈ xs, b ∈ x := by
  induction xs with
  | nil => simp [Lib.join_nil] at h
  | cons x r ih =>
    cases r with
    | nil => rw [Lib.join_one] at h; exact .inr ⟨x, by simp, h⟩
    | cons y t =>
      have e : Lib.join (x :: y :: t) [c] = x ++ c :: Lib.join (y :: t) [c] := by simp [Lib.join, List.intercalate, List.intersperse]
      rw [e, List.mem_append, List.mem_cons] at h
      rcases h with h | h | h
      · exact .inr ⟨x, by simp, h⟩
      · exact .inl h
      · rcases ih h with h | ⟨z, hz, hb⟩
        · exact .inl h
        · exact .inr ⟨z, by simp at hz ⊢; exact .inr hz, hb⟩
theorem join_nil_of {c : UInt8} {xs : List Tx} (h : ∀ x ∈ xs, x ≠ []) (e : Lib.join xs [c] = []) : xs = [] := by
  cases xs with
  | nil => rfl
  | cons x r =>
    rw [Lib.join_cons] at e
    exact absurd (List.append_eq_nil_iff.1 e).1 (h x (by simp))
/-- A list that is written is read. -/
theorem listOf_txt {α : Type} {f : Tx → Option α} {g : α → Tx} {xs : List α} (h : ∀ x ∈ xs, f (g x) = some x) (h44 : ∀ x ∈ xs, (44 : UInt8) ∉ g x) (h45 : ∀ x ∈ xs, g x ≠ [] ∧ g x ≠ [45]) : listOf f (orNo (Lib.join (xs.map g) [44])) = some xs := by
  by_cases h0 : xs = []
  · subst h0; rfl
  · have hne : Lib.join (xs.map g) [44] ≠ [] := fun e => h0 (by
      have := join_nil_of (fun x hx => by obtain ⟨y, hy, rfl⟩ := List.mem_map.1 hx; exact (h45 y hy).1) e
      simpa using this)
    have hsp : splitC 44 (Lib.join (xs.map g) [44]) = xs.map g := Ost.splitC_join 44 _ (fun x hx => by obtain ⟨y, hy, rfl⟩ := List.mem_map.1 hx; exact h44 y hy) (by simpa using h0)
    have hnd : Lib.join (xs.map g) [44] ≠ [45] := fun e => by
      rw [e] at hsp
      have e2 : splitC 44 [45] = [[45]] := by decide
      rw [e2] at hsp
      cases xs with
      | nil => exact h0 rfl
      | cons x r =>
        rw [List.map_cons] at hsp
        injection hsp with h1 h2
        exact (h45 x (by simp)).2 h1.symm
    rw [orNo, if_neg hne, listOf, if_neg hnd, hsp, allOf_map h]
theorem dec_ne (n : Int) : dec n ≠ [] ∧ dec n ≠ [45] := ⟨Ost.decN_ne _, fun e => by
  have := dig_no n 45 (by decide)
  rw [e] at this; simp at this⟩
theorem needTxt_ne (d : Nd) : needTxt d ≠ [] ∧ needTxt d ≠ [45] := by
  have h : (58 : UInt8) ∈ needTxt d := by simp [needTxt]
  exact ⟨fun e => by rw [e] at h; simp at h, fun e => by rw [e] at h; simp at h⟩
theorem cpusOf_txt {A : Nat} (h : A < 18446744073709551616) : cpusOf (setTxt A) = some A := by
  have hp := Ost.parse_txt A h
  unfold setTxt orNo
  split
  · rename_i e
    rw [e] at hp
    have : A = 0 := by
      have h2 : parseOut [] = (0, 0) := by decide
      rw [h2] at hp
      injection hp with h3 _
      exact h3.symm
    subst this; rfl
  · unfold cpusOf
    split
    · rename_i e
      rw [e] at hp
      have h2 : (parseOut [45]).2 = 4 := by decide
      rw [hp] at h2
      cases h2
    · rw [hp]; rfl
theorem contOf_txt {num : Tx → Option Int} {need : Tx → Option Nd} (hg : Good num need) {c : Ct} {g : Gv} (hc : OkC c) (hv : OkG g) : contOf num need (contWs c ++ givenWs g) = some (c, g) := by
  obtain ⟨h1, h2, h3, h4, h5, h6, h7⟩ := hc
  obtain ⟨g1, g2, g3⟩ := hv
  have a1 := hg.num c.am h2.1 (by omega)
  have a2 := hg.num c.ab h3.1 h3.2
  have a3 := hg.num c.cm h4.1 (by omega)
  have a4 := hg.num c.cb h5.1 h5.2
  have a5 : listOf need (needsTxt c.ds) = some c.ds := listOf_txt (fun d hd => hg.need d (h7 d hd)) (fun d hd => by
    have hk := name_no (h7 d hd).1 44 (by decide) (by decide)
    have hn := dig_no d.many 44 (by decide)
    simp only [needTxt, List.mem_append, not_or]
    exact ⟨⟨hk, by simp⟩, hn⟩) (fun d _ => needTxt_ne d)
  have a6 := cpusOf_txt g1
  have a7 : listOf num (devsTxt g.dv) = some g.dv := listOf_txt (fun d hd => hg.num d (g3 d hd).1 (by have := (g3 d hd).2; omega)) (fun d _ => dig_no d 44 (by decide)) (fun d _ => dec_ne d)
  show (match num (dec c.am), num (dec c.ab), num (dec c.cm), num (dec c.cb), listOf need (needsTxt c.ds), cpusOf (setTxt g.cp), listOf num (devsTxt g.dv) with
    | some a, some b, some c', some d, some ds, some A, some dv => some (({ nm := ⟨c.nm.data.toList.toArray⟩, am := a, ab := b, cm := c', cb := d, ds := ds } : Ct), ({ cp := A, dv := dv } : Gv))
    | _, _, _, _, _, _, _ => none) = _
  rw [a1, a2, a3, a4, a5, a6, a7]
/-- The words of the lines. -/
def linesTo (h : Hd) : Nat → List (List Tx)
  | 0 => []
  | k + 1 => linesTo h k ++ [contWs (ct h.pod.cs k) ++ givenWs (gv h.gs k)]
def linesOf (h : Hd) : List (List Tx) := podWs h.pod :: linesTo h h.pod.cs.length
def allTo (hs : List Hd) : Nat → List (List Tx)
  | 0 => []
  | k + 1 => allTo hs k ++ linesOf (hd hs k)
theorem steps_app (num : Tx → Option Int) (need : Tx → Option Nd) (a b : List (List Tx)) : ∀ hs, steps num need hs (a ++ b) = (steps num need hs a).bind fun x => steps num need x b := by
  induction a with
  | nil => intro hs; rfl
  | cons x r ih =>
    intro hs
    rw [List.cons_append, steps, steps]
    cases step num need hs x with
    | none => rfl
    | some y => exact ih y
theorem take_ct {cs : List Ct} {k : Nat} (h : k < cs.length) : cs.take (k + 1) = cs.take k ++ [ct cs k] := by
  rw [List.take_succ_eq_append_getElem h]; simp [ct, h]
theorem take_gv {cs : List Gv} {k : Nat} (h : k < cs.length) : cs.take (k + 1) = cs.take k ++ [gv cs k] := by
  rw [List.take_succ_eq_append_getElem h]; simp [gv, h]
theorem take_hd {cs : List Hd} {k : Nat} (h : k < cs.length) : cs.take (k + 1) = cs.take k ++ [hd cs k] := by
  rw [List.take_succ_eq_append_getElem h]; simp [hd, h]
theorem addCont_last (hs : List Hd) (x : Hd) (c : Ct) (g : Gv) : addCont (hs ++ [x]) c g = hs ++ [plusC x c g] := by
  simp [addCont, hd]
theorem steps_conts {num : Tx → Option Int} {need : Tx → Option Nd} (hg : Good num need) {h : Hd} (e : OkH h) (hs : List Hd) : ∀ k, k ≤ h.pod.cs.length → steps num need (hs ++ [⟨⟨h.pod.nm, h.pod.pr, []⟩, []⟩]) (linesTo h k) = some (hs ++ [⟨⟨h.pod.nm, h.pod.pr, h.pod.cs.take k⟩, h.gs.take k⟩]) := by
  intro k
  induction k with
  | zero => intro _; rfl
  | succ k ih =>
    intro hk
    obtain ⟨o1, o2⟩ := okC_at e (k := k) (by omega)
    rw [linesTo, steps_app, ih (by omega), Option.bind_some, steps, step, if_neg (by simp [isPod, wd, contWs] : ¬ isPod (contWs (ct h.pod.cs k) ++ givenWs (gv h.gs k)) = true), if_pos ⟨by rfl, by simp⟩, contOf_txt hg o1 o2]
    show some (addCont (hs ++ [_]) _ _) = _
    rw [addCont_last, take_ct (by omega), take_gv (by rw [e.2.1]; omega)]
    rfl
theorem steps_pod {num : Tx → Option Int} {need : Tx → Option Nd} (hg : Good num need) {h : Hd} (e : OkH h) (hs : List Hd) : steps num need hs (linesOf h) = some (hs ++ [h]) := by
  have hn := hg.num h.pod.pr e.1.2.1.1 (by have := e.1.2.1.2; omega)
  have hp : step num need hs (podWs h.pod) = some (hs ++ [⟨⟨h.pod.nm, h.pod.pr, []⟩, []⟩]) := by
    rw [step, if_pos (by rfl)]
    show (num (dec h.pod.pr)).map _ = _
    rw [hn]; rfl
  rw [linesOf, steps, hp]
  show steps num need _ (linesTo h _) = _
  rw [steps_conts hg e hs _ (Nat.le_refl _), List.take_length, ← e.2.1, List.take_length]
theorem steps_all {num : Tx → Option Int} {need : Tx → Option Nd} (hg : Good num need) {hs : List Hd} (e : OkL hs) : ∀ k, k ≤ hs.length → steps num need [] (allTo hs k) = some (hs.take k) := by
  intro k
  induction k with
  | zero => intro _; rfl
  | succ k ih =>
    intro hk
    rw [allTo, steps_app, ih (by omega), Option.bind_some, steps_pod hg (e.2 _ (mem_hd (by omega))), take_hd (by omega)]
/-- Words have no blanks, no ends of lines, and lines have words. -/
def Plain (ws : List Tx) : Prop := ws ≠ [] ∧ ∀ x ∈ ws, (32 : UInt8) ∉ x ∧ (10 : UInt8) ∉ x
theorem orNo_no {l : Tx} {c : UInt8} (hc : c ≠ 45) (h : c ∉ l) : c ∉ orNo l := by
  unfold orNo; split
  · simpa using hc
  · exact h
theorem join_no {c b : UInt8} {xs : List Tx} (hb : b ≠ c) (h : ∀ x ∈ xs, b ∉ x) : b ∉ Lib.join xs [c] := fun hm => by
  rcases join_mem hm with e | ⟨x, hx, e⟩
  · exact hb e
  · exact h x hx e
theorem spanTxt_no (p : Nat × Nat) (c : UInt8) (hc : isDig c = false) (h45 : c ≠ 45) : c ∉ Ost.spanTxt p := by
  obtain ⟨f, l⟩ := p
  have h1 := Ost.dig_not f c hc
  have h2 := Ost.dig_not l c hc
  unfold Ost.spanTxt
  split
  · exact h1
  · simp [h1, h2, h45]
theorem txt_no (A : Nat) (c : UInt8) (hc : isDig c = false) (h45 : c ≠ 45) (h44 : c ≠ 44) : c ∉ Ost.txt A := by
  unfold Ost.txt Ost.joined
  exact join_no h44 fun x hx => by
    obtain ⟨p, _, rfl⟩ := List.mem_map.1 hx
    exact spanTxt_no p c hc h45
theorem plain_pod {p : Pd} (h : OkP p) : Plain (podWs p) := by
  refine ⟨by simp [podWs], fun x hx => ?_⟩
  simp only [podWs, List.mem_cons, List.not_mem_nil, or_false] at hx
  rcases hx with rfl | rfl | rfl
  · decide
  · exact ⟨name_no h.1 32 (by decide) (by decide), name_no h.1 10 (by decide) (by decide)⟩
  · exact ⟨dig_no _ _ (by decide), dig_no _ _ (by decide)⟩
theorem plain_cont {c : Ct} {g : Gv} (h : OkC c) : Plain (contWs c ++ givenWs g) := by
  obtain ⟨h1, h2, h3, h4, h5, h6, h7⟩ := h
  have hN : ∀ b : UInt8, b = 32 ∨ b = 10 → b ∉ needsTxt c.ds := fun b hb => by
    refine orNo_no (by rcases hb with rfl | rfl <;> decide) (join_no (by rcases hb with rfl | rfl <;> decide) fun x hx => ?_)
    obtain ⟨d, hd, rfl⟩ := List.mem_map.1 hx
    have e1 : b ∉ d.kind.data.toList := by rcases hb with rfl | rfl <;> exact name_no (h7 d hd).1 _ (by decide) (by decide)
    have e2 : b ∉ dec d.many := by rcases hb with rfl | rfl <;> exact dig_no _ _ (by decide)
    have e3 : b ≠ 58 := by rcases hb with rfl | rfl <;> decide
    simp [needTxt, e1, e2, e3]
  have hS : ∀ b : UInt8, b = 32 ∨ b = 10 → b ∉ setTxt g.cp := fun b hb => by
    refine orNo_no (by rcases hb with rfl | rfl <;> decide) (txt_no _ _ ?_ ?_ ?_) <;> rcases hb with rfl | rfl <;> decide
  have hD : ∀ b : UInt8, b = 32 ∨ b = 10 → b ∉ devsTxt g.dv := fun b hb => by
    refine orNo_no (by rcases hb with rfl | rfl <;> decide) (join_no (by rcases hb with rfl | rfl <;> decide) fun x hx => ?_)
    obtain ⟨d, hd, rfl⟩ := List.mem_map.1 hx
    rcases hb with rfl | rfl <;> exact dig_no _ _ (by decide)
  refine ⟨by simp [contWs], fun x hx => ?_⟩
  simp only [contWs, givenWs, List.cons_append, List.nil_append, List.mem_cons, List.not_mem_nil, or_false] at hx
  rcases hx with rfl | rfl | rfl | rfl | rfl | rfl | rfl | rfl | rfl
  · decide
  · exact ⟨name_no h1 32 (by decide) (by decide), name_no h1 10 (by decide) (by decide)⟩
  · exact ⟨dig_no _ _ (by decide), dig_no _ _ (by decide)⟩
  · exact ⟨dig_no _ _ (by decide), dig_no _ _ (by decide)⟩
  · exact ⟨dig_no _ _ (by decide), dig_no _ _ (by decide)⟩
  · exact ⟨dig_no _ _ (by decide), dig_no _ _ (by decide)⟩
  · exact ⟨hN 32 (.inl rfl), hN 10 (.inr rfl)⟩
  · exact ⟨hS 32 (.inl rfl), hS 10 (.inr rfl)⟩
  · exact ⟨hD 32 (.inl rfl), hD 10 (.inr rfl)⟩
def cat (ls : List (List Tx)) : Tx := (ls.map lineTxt).flatten
theorem cat_app (a b : List (List Tx)) : cat (a ++ b) = cat a ++ cat b := by simp [cat]
theorem cat_conts (h : Hd) (k : Nat) : cat (linesTo h k) = contsTo h k := by
  induction k with
  | zero => rfl
  | succ k ih => rw [linesTo, cat_app, ih, contsTo]; simp [cat, contLine]
theorem cat_pod (h : Hd) : cat (linesOf h) = podTxt h := by
  rw [linesOf, podTxt, ← cat_conts]; simp [cat, podLine]
theorem cat_all (hs : List Hd) (k : Nat) : cat (allTo hs k) = bodyTo hs k := by
  induction k with
  | zero => rfl
  | succ k ih => rw [allTo, cat_app, ih, cat_pod, bodyTo]
theorem plain_conts {h : Hd} (e : OkH h) : ∀ k, k ≤ h.pod.cs.length → ∀ ws ∈ linesTo h k, Plain ws := by
  intro k
  induction k with
  | zero => intro _ ws hw; simp [linesTo] at hw
  | succ k ih =>
    intro hk ws hw
    rw [linesTo, List.mem_append, List.mem_singleton] at hw
    rcases hw with hw | rfl
    · exact ih (by omega) ws hw
    · exact plain_cont (okC_at e (by omega)).1
theorem plain_all {hs : List Hd} (e : OkL hs) : ∀ k, k ≤ hs.length → ∀ ws ∈ allTo hs k, Plain ws := by
  intro k
  induction k with
  | zero => intro _ ws hw; simp [allTo] at hw
  | succ k ih =>
    intro hk ws hw
    rw [allTo, List.mem_append] at hw
    rcases hw with hw | hw
    · exact ih (by omega) ws hw
    · have eh := e.2 _ (mem_hd (ds := hs) (k := k) (by omega))
      rw [linesOf, List.mem_cons] at hw
      rcases hw with rfl | hw
      · exact plain_pod eh.1
      · exact plain_conts eh _ (Nat.le_refl _) ws hw
theorem split_cat (ls : List (List Tx)) (h : ∀ ws ∈ ls, Plain ws) : splitC 10 (cat ls) = ls.map (fun ws => Lib.join ws [32]) ++ [[]] := by
  induction ls with
  | nil => rfl
  | cons ws r ih =>
    have e : cat (ws :: r) = Lib.join ws [32] ++ 10 :: cat r := by simp [cat, lineTxt]
    rw [e, Ost.splitC_cut 10 _ _ (join_no (by decide) fun x hx => ((h ws (by simp)).2 x hx).2), ih fun y hy => h y (by simp [hy])]
    rfl
theorem split_words (ls : List (List Tx)) (h : ∀ ws ∈ ls, Plain ws) : (ls.map fun ws => Lib.join ws [32]).map (splitC 32) = ls := by
  rw [List.map_map]
  conv => rhs; rw [← List.map_id ls]
  refine List.map_congr_left fun ws hw => ?_
  exact Ost.splitC_join 32 ws (fun x hx => ((h ws hw).2 x hx).1) (h ws hw).1
theorem readS_body {hs : List Hd} (e : OkL hs) : readS (body hs) = some hs := by
  have hp := plain_all e _ (Nat.le_refl _)
  have hsp := split_cat _ hp
  rw [cat_all] at hsp
  change splitC 10 (body hs) = _ at hsp
  have hr : rowsS (body hs) = (allTo hs hs.length).map fun ws => Lib.join ws [32] := by
    rw [rowsS, hsp, if_pos (by simp), List.dropLast_concat]
  rw [readS, hr, split_words _ hp, steps_all goodS e _ (Nat.le_refl _), List.take_length]
theorem readR_body {hs : List Hd} (e : OkL hs) : readR (body hs) = some hs := by
  have hp := plain_all e _ (Nat.le_refl _)
  have hsp := split_cat _ hp
  rw [cat_all] at hsp
  change splitC 10 (body hs) = _ at hsp
  rw [readR, hsp, List.dropLast_concat, split_words _ hp, steps_all goodR e _ (Nat.le_refl _), List.take_length]
end Sv
end Go.Proofs.YtlljniaobbbjgaaGreatDoor

namespace Go.Proofs.YtlljniaobbbjgaaGreatDoor.S1
open Go.RowKit
theorem str_app (a b : List UInt8) : (ByteArray.mk a.toArray) ++ (ByteArray.mk b.toArray) = ByteArray.mk (a ++ b).toArray := by
  apply ByteArray.ext; simp
theorem dd_len (n : Nat) (h : n < 100) : (Lib.decDigits n).length ≤ 2 := by
  by_cases h1 : n < 10
  · rw [Lib.decDigits_one h1]; simp
  · rw [Lib.decDigits_two h1 h]; simp
set_option maxHeartbeats 400000 in
theorem spanText_any (f l : Nat) (w : World) (hf : f < 64) (hl : l < 64) :
    Calls Tryz.prog 81 #[.int .i64 f, .int .i64 l] w fun e w' => e = .returned (.string ⟨(Ost.spanTxt (f, l)).toArray⟩) ∧ w' = w := by
  have l1 := dd_len f (by omega)
  have l2 := dd_len l (by omega)
  by_cases h : f = l
  · subst h
    have H : Hid (Ost.spanTxt (f, f) = Lib.decDigits f) := by simp [Hid, Ost.spanTxt]
    go_enter Tryz.func81, Tryz.ntmps81
    go_wp2_with fail
    refine (Tryz.strconv_Itoa_small f (by omega) _).mono ?_
    rintro e w' ⟨rfl, rfl⟩
    go_wp2_with fail
    go_ret
    exact ⟨by rw [H.out]; rfl, rfl⟩
  · have H : Hid (Ost.spanTxt (f, l) = Lib.decDigits f ++ [45] ++ Lib.decDigits l) := by simp [Hid, Ost.spanTxt, h]
    have h1 : ((f : Int) == (l : Int)) = false := by simp; omega
    clear h
    go_enter Tryz.func81, Tryz.ntmps81
    go_wp2_with fail
    refine (Tryz.strconv_Itoa_small f (by omega) _).mono ?_
    rintro e w' ⟨rfl, rfl⟩
    go_wp2_with fail
    refine (Tryz.strconv_Itoa_small l (by omega) _).mono ?_
    rintro e w' ⟨rfl, rfl⟩
    go_wp2_with fail
    go_ret
    refine ⟨?_, rfl⟩
    rw [H.out]
    show Ending.returned (.string ((ByteArray.mk (Lib.decDigits f).toArray ++ ByteArray.mk [45].toArray) ++ ByteArray.mk (Lib.decDigits l).toArray)) = _
    rw [str_app, str_app]
/-- Has a set this number? -/
def hasB (A : Nat) (z : Int) : Bool := decide (0 ≤ z ∧ z < 64) && A.testBit z.toNat
theorem hasB_nat (A k : Nat) (hA : A < 18446744073709551616) : hasB A (k : Int) = A.testBit k := by
  unfold hasB
  by_cases h : k < 64
  · rw [decide_eq_true (by omega), Int.toNat_natCast]; rfl
  · rw [decide_eq_false (by omega)]
    have : A.testBit k = false := Nat.testBit_lt_two_pow (Nat.lt_of_lt_of_le hA (Nat.pow_le_pow_right (n := 2) (by omega) (show 64 ≤ k by omega)))
    rw [this]; rfl
theorem has_gen (A : Nat) (z : Int) (w : World) (hA : A < 18446744073709551616) :
    Calls Tryz.prog 80 #[.int .u64 A, .int .i64 z] w fun e w' => e = .returned (.bool (hasB A z)) ∧ w' = w := by
  unfold hasB
  by_cases h : 0 ≤ z ∧ z < 64
  · obtain ⟨n, rfl⟩ := Int.eq_ofNat_of_zero_le h.1
    rw [decide_eq_true h, Int.toNat_natCast]
    exact has_in A n w hA (by omega)
  · rw [decide_eq_false h]
    exact has_out A z w (by omega)
theorem has_t (A : Nat) (z : Int) (w : World) (hA : A < 18446744073709551616) (h : hasB A z = true) :
    Calls Tryz.prog 80 #[.int .u64 A, .int .i64 z] w fun e w' => e = .returned (.bool true) ∧ w' = w := by
  have := has_gen A z w hA
  rw [h] at this; exact this
theorem has_f (A : Nat) (z : Int) (w : World) (hA : A < 18446744073709551616) (h : hasB A z = false) :
    Calls Tryz.prog 80 #[.int .u64 A, .int .i64 z] w fun e w' => e = .returned (.bool false) ∧ w' = w := by
  have := has_gen A z w hA
  rw [h] at this; exact this
theorem infoStr : (Tryz.prog.info? 9).map (fun i => (i.zero, i.size, i.bytes)) = some (some (.string ⟨#[]⟩), 1, 16) := by kernel_rfl
def strs (l : List (List UInt8)) : List Value := l.map fun (b : List UInt8) => Value.string ⟨b.toArray⟩
theorem strs_snoc (l : List (List UInt8)) (b : List UInt8) : strs (l ++ [b]) = strs l ++ [.string ⟨b.toArray⟩] := by simp [strs]
theorem strs_oneCell (l : List (List UInt8)) : ∀ u ∈ strs l, u.oneCell' = true := by
  intro u hu
  obtain ⟨_, _, rfl⟩ := List.mem_map.1 hu
  rfl
theorem spansTo_le (A k : Nat) : (Ost.spansTo A k).length ≤ k := by
  induction k with
  | zero => exact Nat.le_refl _
  | succ k ih =>
    unfold Ost.spansTo
    split
    · rw [List.length_append]; simp; omega
    · omega
theorem runStart_le (A k : Nat) : Ost.runStart A k ≤ k := by
  induction k with
  | zero => exact Nat.le_refl _
  | succ k ih => unfold Ost.runStart; split <;> omega
/-- The texts of the runs that end below a bound. -/
def txts (A k : Nat) : List (List UInt8) := (Ost.spansTo A k).map Ost.spanTxt
theorem txts_len (A k : Nat) : (txts A k).length ≤ k := by unfold txts; rw [List.length_map]; exact spansTo_le A k
theorem txts_yes (A k : Nat) (h0 : A.testBit k = true) (h1 : A.testBit (k + 1) = false) : txts A (k + 1) = txts A k ++ [Ost.spanTxt (Ost.runStart A k, k)] := by
  simp [txts, Ost.spansTo, h0, h1]
theorem txts_no (A k : Nat) (h : A.testBit k = false ∨ A.testBit (k + 1) = true) : txts A (k + 1) = txts A k := by
  unfold txts; rw [Ost.spansTo]
  rcases h with h | h <;> simp [h]
set_option maxRecDepth 100000 in
set_option maxHeartbeats 2000000 in
theorem text_loop (A : Nat) (w : World) (hA : A < 18446744073709551616)
    (hJ : Hid (∀ (v : Value) (w1 : World), w1.ownsRow w.heap.size 9 1 v (txts A 64).length (strs (txts A 64)) → Below w.heap.size w w1 →
      Calls Tryz.prog 76 #[v, .string ⟨#[44]⟩] w1 fun e w' => e = .returned (.string ⟨(Lib.join (txts A 64) [44]).toArray⟩) ∧ Below w1.heap.size w1 w')) :
    Calls Tryz.prog 59 #[.int .u64 A] w fun e w' => e = .returned (.string ⟨(Lib.join (txts A 64) [44]).toArray⟩) ∧ Below w.heap.size w w' := by
  obtain ⟨i0, hi, hz0, hz1, hz2⟩ := info_parts infoStr
  go_enter Tryz.func59, Tryz.ntmps59
  go_wp2_with fail
  go_loopw [3, 4, 6] (fun v f i wr => ∃ k fN : Nat, k ≤ 64 ∧ fN ≤ 64 ∧ i = .int .i64 k ∧ f = .int .i64 fN ∧ Hid (∀ j, k = j + 1 → A.testBit j = true → fN = Ost.runStart A j) ∧ wr.ownsRow w.heap.size 9 1 v (txts A k).length (strs (txts A k)) ∧ Below w.heap.size w wr) (fun _ _ i _ => 64 - (intOf i).toNat)
  case atStart => exact ⟨0, 0, by omega, by omega, rfl, rfl, by intro j hj; omega, World.ownsRow_nil _ _ _ _, Below.refl _ _⟩
  case round =>
    obtain ⟨k, fN, hk, hfN, rfl, rfl, HF, hrow, hnx⟩ := hrel
    by_cases hlt : k < 64
    · have hle := txts_len A k
      have hsz := hnx.size
      have e0 := hasB_nat A k hA
      rcases two' (A.testBit k) with hb | hb
      · have H0 : Hid (hasB A (k : Int) = true) := by unfold Hid; rw [e0, hb]
        -- where the run begins
        have HR : Hid ((hasB A ((k : Int) - 1) = true → fN = Ost.runStart A k) ∧ (hasB A ((k : Int) - 1) = false → k = Ost.runStart A k)) := by
          unfold Hid
          cases k with
          | zero => exact ⟨fun h => by simp [hasB] at h, fun _ => rfl⟩
          | succ j =>
            rw [show ((j + 1 : Nat) : Int) - 1 = (j : Int) by omega, hasB_nat A j hA]
            refine ⟨fun h => ?_, fun h => ?_⟩
            · rw [Ost.runStart, if_pos h]; exact HF.out j rfl h
            · rw [Ost.runStart, if_neg (by rw [h]; simp)]
        have e2 := hasB_nat A (k + 1) hA
        rw [show ((k + 1 : Nat) : Int) = (k : Int) + 1 by omega] at e2
        have hrs := runStart_le A k
        rcases two' (hasB A ((k : Int) - 1)) with hp | hp <;> rcases two' (A.testBit (k + 1)) with hq | hq
        · have HP := hideIt' hp
          have HQ : Hid (hasB A ((k : Int) + 1) = true) := by unfold Hid; rw [e2, hq]
          have HFE := hideIt' (HR.out.1 hp)
          have HS := hideIt' (txts_no A k (.inr hq))
          clear hp hq hb e0 e2
          go_wp2_with fail
          refine (has_t A _ _ hA H0.out).mono ?_; rintro e w' ⟨rfl, rfl⟩
          go_wp2_with fail
          refine (has_t A _ _ hA HP.out).mono ?_; rintro e w' ⟨rfl, rfl⟩
          go_wp2_with fail
          refine (has_t A _ _ hA HQ.out).mono ?_; rintro e w' ⟨rfl, rfl⟩
          go_wp2_with fail
          go_roundw
          case rel => exact ⟨k + 1, fN, by omega, by omega, by go_num, rfl, fun j hj _ => (show k = j by omega) ▸ HFE.out, by rw [HS.out]; exact hrow, hnx⟩
          case measure => simp [intOf]; omega
        · have HP := hideIt' hp
          have HQ : Hid (hasB A ((k : Int) + 1) = false) := by unfold Hid; rw [e2, hq]
          have HFE := hideIt' (HR.out.1 hp)
          have HS : Hid (txts A (k + 1) = txts A k ++ [Ost.spanTxt (fN, k)]) := by
            unfold Hid; rw [txts_yes A k hb hq, ← HFE.out]
          have hf64 : fN < 64 := by have := HFE.out; omega
          clear hp hq hb e0 e2
          go_wp2_with fail
          refine (has_t A _ _ hA H0.out).mono ?_; rintro e w' ⟨rfl, rfl⟩
          go_wp2_with fail
          refine (has_t A _ _ hA HP.out).mono ?_; rintro e w' ⟨rfl, rfl⟩
          go_wp2_with fail
          refine (has_f A _ _ hA HQ.out).mono ?_; rintro e w' ⟨rfl, rfl⟩
          go_wp2_with fail
          refine (spanText_any fN k _ hf64 hlt).mono ?_; rintro e w' ⟨rfl, rfl⟩
          go_wp2_with (at_builtin; refine wpList_append_own _ rfl _ _ 41 rfl w.heap.size 9 i0 (.string ⟨#[]⟩) 1 16 Tryz.underlying41 hi hz0 hz1 hz2 rfl (by decide) _ _ _ rfl (hrow.alloc _) ⟨_, 0, none⟩ 1 1 [.string ⟨(Ost.spanTxt (fN, k)).toArray⟩] rfl rfl (cell_one_new _ _ _) (strs_oneCell [Ost.spanTxt (fN, k)]) (by unfold maxLen; omega) (by omega) (by simp; omega) ?_; intro v' w1 hown' hgrow' _)
          go_roundw
          case rel =>
            refine ⟨k + 1, fN, by omega, by omega, by go_num, rfl, ?_, ?_, ?_⟩
            · intro j hj _
              obtain rfl : k = j := by omega
              exact HFE.out
            · rw [HS.out, strs_snoc, List.length_append]; exact hown'
            · exact (hnx.alloc hsz _).grown hgrow' (by simp; omega) (fun j hj => (hrow.lt j hj).1)
          case measure => simp [intOf]; omega
        · have HP := hideIt' hp
          have HQ : Hid (hasB A ((k : Int) + 1) = true) := by unfold Hid; rw [e2, hq]
          have HFE := hideIt' (HR.out.2 hp)
          have HS := hideIt' (txts_no A k (.inr hq))
          clear hp hq hb e0 e2
          go_wp2_with fail
          refine (has_t A _ _ hA H0.out).mono ?_; rintro e w' ⟨rfl, rfl⟩
          go_wp2_with fail
          refine (has_f A _ _ hA HP.out).mono ?_; rintro e w' ⟨rfl, rfl⟩
          go_wp2_with fail
          refine (has_t A _ _ hA HQ.out).mono ?_; rintro e w' ⟨rfl, rfl⟩
          go_wp2_with fail
          go_roundw
          case rel => exact ⟨k + 1, k, by omega, by omega, by go_num, rfl, fun j hj _ => (show k = j by omega) ▸ HFE.out, by rw [HS.out]; exact hrow, hnx⟩
          case measure => simp [intOf]; omega
        · have HP := hideIt' hp
          have HQ : Hid (hasB A ((k : Int) + 1) = false) := by unfold Hid; rw [e2, hq]
          have HFE := hideIt' (HR.out.2 hp)
          have HS : Hid (txts A (k + 1) = txts A k ++ [Ost.spanTxt (k, k)]) := by
            unfold Hid; rw [txts_yes A k hb hq, ← HFE.out]
          have hf64 : k < 64 := by have := HFE.out; omega
          clear hp hq hb e0 e2
          go_wp2_with fail
          refine (has_t A _ _ hA H0.out).mono ?_; rintro e w' ⟨rfl, rfl⟩
          go_wp2_with fail
          refine (has_f A _ _ hA HP.out).mono ?_; rintro e w' ⟨rfl, rfl⟩
          go_wp2_with fail
          refine (has_f A _ _ hA HQ.out).mono ?_; rintro e w' ⟨rfl, rfl⟩
          go_wp2_with fail
          refine (spanText_any k k _ hf64 hlt).mono ?_; rintro e w' ⟨rfl, rfl⟩
          go_wp2_with (at_builtin; refine wpList_append_own _ rfl _ _ 41 rfl w.heap.size 9 i0 (.string ⟨#[]⟩) 1 16 Tryz.underlying41 hi hz0 hz1 hz2 rfl (by decide) _ _ _ rfl (hrow.alloc _) ⟨_, 0, none⟩ 1 1 [.string ⟨(Ost.spanTxt (k, k)).toArray⟩] rfl rfl (cell_one_new _ _ _) (strs_oneCell [Ost.spanTxt (k, k)]) (by unfold maxLen; omega) (by omega) (by simp; omega) ?_; intro v' w1 hown' hgrow' _)
          go_roundw
          case rel =>
            refine ⟨k + 1, k, by omega, by omega, by go_num, rfl, ?_, ?_, ?_⟩
            · intro j hj _
              obtain rfl : k = j := by omega
              exact HFE.out
            · rw [HS.out, strs_snoc, List.length_append]; exact hown'
            · exact (hnx.alloc hsz _).grown hgrow' (by simp; omega) (fun j hj => (hrow.lt j hj).1)
          case measure => simp [intOf]; omega
      · have H0 : Hid (hasB A (k : Int) = false) := by unfold Hid; rw [e0, hb]
        have HS := hideIt' (txts_no A k (.inl hb))
        have HB := hideIt' hb
        clear hb e0
        go_wp2_with fail
        refine (has_f A _ _ hA H0.out).mono ?_; rintro e w' ⟨rfl, rfl⟩
        go_wp2_with fail
        go_roundw
        case rel =>
          refine ⟨k + 1, fN, by omega, hfN, by go_num, rfl, ?_, by rw [HS.out]; exact hrow, hnx⟩
          intro j hj hb
          obtain rfl : k = j := by omega
          rw [HB.out] at hb; cases hb
        case measure => simp [intOf]; omega
    · have hk64 : k = 64 := by omega
      subst hk64
      clear hk hlt
      go_wp2_with fail
      refine (hJ.out _ _ hrow hnx).mono ?_
      rintro e w2 ⟨rfl, hb2⟩
      go_wp2_with fail
      go_ret
      exact ⟨rfl, hnx.trans (hb2.mono hnx.size)⟩
theorem ownsRow_cells {w : World} {base : Nat} {e : TypeId} {v : Value} {n : Nat} {xs : List Value} (h : w.ownsRow base e 1 v n xs) :
    (v = .slice none 0 0 ∧ n = 0) ∨ ∃ g cap, v = .slice (some ⟨g, 0, none⟩) n cap ∧ n ≤ cap ∧ g < w.heap.size ∧ ∀ j x, xs[j]? = some x → w.cell? ⟨g, j, none⟩ = some x := by
  obtain ⟨hl, h⟩ := h
  rcases h with ⟨rfl, rfl⟩ | ⟨g, cap, cur, rfl, hb, hh, hn, hc, hs, ht⟩
  · exact .inl ⟨rfl, rfl⟩
  · refine .inr ⟨g, cap, rfl, hn, (Array.getElem?_eq_some_iff.1 hh).1, fun j x hx => ?_⟩
    have hj : j < n * 1 := by rw [← hl]; exact (List.getElem?_eq_some_iff.1 hx).1
    rw [← ht, List.getElem?_take, if_pos hj] at hx
    simp only [World.cell?, hh]
    simpa using hx
/-- strings.Join over a row of the call's own. -/
theorem join_own (v : Value) (xs : List (List UInt8)) (w : World) (base : Nat) (h : w.ownsRow base 9 1 v xs.length (strs xs)) (hn : xs.length ≤ 100) (hl : (Lib.join xs [44]).length ≤ 100000) :
    Calls Tryz.prog 76 #[v, .string ⟨#[44]⟩] w fun e w' => e = .returned (.string ⟨(Lib.join xs [44]).toArray⟩) ∧ Below w.heap.size w w' := by
  rcases ownsRow_cells h with ⟨rfl, h0⟩ | ⟨g, cap, rfl, hc, hg, hcell⟩
  · have : xs = [] := List.eq_nil_of_length_eq_zero h0
    subst this
    refine (Tryz.strings_Join_none none 0 ⟨#[44]⟩ w).mono ?_
    rintro e w' ⟨rfl, rfl⟩
    exact ⟨rfl, Below.refl _ _⟩
  · have hx : (xs.map fun (b : List UInt8) => ByteArray.mk b.toArray).map (·.data.toList) = xs := by
      rw [List.map_map]; exact List.map_id'' (fun _ => rfl) xs
    have := Tryz.strings_Join g 0 cap (xs.map fun (b : List UInt8) => ByteArray.mk b.toArray) ⟨#[44]⟩ w (fun j x hj => by
      rw [Nat.zero_add]
      apply hcell
      unfold strs
      rw [List.getElem?_map] at hj ⊢
      obtain ⟨a, ha, rfl⟩ := Option.map_eq_some_iff.1 hj
      rw [ha]; rfl) hg (by simp; omega) (by simpa using hc) (by rw [hx]; show (Lib.join xs [44]).length ≤ _; omega)
    rw [hx] at this
    simpa using this
end Go.Proofs.YtlljniaobbbjgaaGreatDoor.S1

namespace Go.Proofs.YtlljniaobbbjgaaGreatDoor.S1
open Go.RowKit
/-- The parts from the k-th on give the whole's answer. -/
def Left (l : List UInt8) (k acc : Nat) : Prop := Ost.parseOut l = Ost.pieces acc ((Ost.splitC 44 l).drop k)
theorem Left.next {l : List UInt8} {k acc : Nat} (h : Left l k acc) (hk : k < (Ost.splitC 44 l).length) :
    (Ost.spanOf ((Ost.splitC 44 l).getD k []) = none → Ost.parseOut l = (0, 4)) ∧
    (∀ f t, Ost.spanOf ((Ost.splitC 44 l).getD k []) = some (f, t) → (63 < t → Ost.parseOut l = (0, 1)) ∧ (¬ 63 < t → Left l (k + 1) (acc ||| Ost.rb f.toNat (t - f + 1).toNat))) := by
  have e : (Ost.splitC 44 l).drop k = (Ost.splitC 44 l).getD k [] :: (Ost.splitC 44 l).drop (k + 1) := by
    rw [List.drop_eq_getElem_cons hk]; simp [hk]
  unfold Left at h ⊢
  rw [e, Ost.pieces] at h
  refine ⟨fun hn => by rw [hn] at h; exact h, fun f t hs => ?_⟩
  rw [hs] at h
  simp only at h
  exact ⟨fun ht => by rw [if_pos ht] at h; exact h, fun ht => by rw [if_neg ht] at h; exact h⟩
theorem Left.done {l : List UInt8} {k acc : Nat} (h : Left l k acc) (hk : (Ost.splitC 44 l).length ≤ k) : Ost.parseOut l = (acc, 0) := by
  unfold Left at h
  rw [List.drop_eq_nil_of_le hk] at h; exact h
theorem spanOf_le (t : List UInt8) (f l : Int) (h : Ost.spanOf t = some (f, l)) : 0 ≤ f ∧ f ≤ l ∧ l ≤ 9223372036854775807 := by
  unfold Ost.spanOf at h
  split at h
  · split at h
    · rename_i hg
      rw [Bool.and_eq_true, Bool.and_eq_true, decide_eq_true_eq] at hg
      obtain ⟨⟨⟨_, _, h3⟩, _⟩, ⟨_, _, hm⟩⟩ : _ ∧ _ := ⟨(Ost.good_iff _ _).1 hg.1.1, (Ost.good_iff _ _).1 hg.1.2⟩
      simp only [Option.some.injEq, Prod.mk.injEq] at h
      obtain ⟨rfl, rfl⟩ := h
      exact ⟨Ost.val_nonneg _ h3, hg.2, hm⟩
    · cases h
  · split at h
    · rename_i hg
      obtain ⟨⟨_, _, h3⟩, _, hm⟩ := (Ost.good_iff _ _).1 hg
      simp only [Option.some.injEq, Prod.mk.injEq] at h
      obtain ⟨rfl, rfl⟩ := h
      exact ⟨Ost.val_nonneg _ h3, Int.le_refl _, hm⟩
    · cases h
theorem rb_lt (f m : Nat) (h : f + m ≤ 64) : Ost.rb f m < 18446744073709551616 := by
  induction m with
  | zero => simp [Ost.rb]
  | succ m ih => rw [Ost.rb]; exact or_lt _ _ (ih (by omega)) (pow_lt64 _ (by omega))
theorem splitC_len (c : UInt8) (l : List UInt8) : (Ost.splitC c l).length ≤ l.length + 1 := by
  induction l with
  | nil => simp [Ost.splitC]
  | cons b r ih =>
    unfold Ost.splitC
    split
    · simp; omega
    · split
      · simp
      · rename_i h; rw [h] at ih; simp at ih ⊢; omega
theorem splitC_mem (c : UInt8) (l : List UInt8) : ∀ x ∈ Ost.splitC c l, x.length ≤ l.length := by
  induction l with
  | nil => simp [Ost.splitC]
  | cons b r ih =>
    intro x hx
    unfold Ost.splitC at hx
    split at hx
    · rcases List.mem_cons.1 hx with rfl | hx
      · simp
      · have := ih x hx; simp; omega
    · split at hx
      · simp at hx; subst hx; simp
      · rename_i h
        rcases List.mem_cons.1 hx with rfl | hx
        · have := ih _ (by rw [h]; exact List.mem_cons_self); simp; omega
        · have := ih x (by rw [h]; exact List.mem_cons_of_mem _ hx); simp; omega
set_option maxHeartbeats 400000 in
theorem member_yes (z : Int) (w : World) (h0 : 0 ≤ z) (h1 : z < 64) : Calls Tryz.prog 101 #[.int .i64 z] w fun e w' => e = .returned (.bool true) ∧ w' = w := by
  go_enter Tryz.func101, Tryz.ntmps101
  go_wp2_with fail
  go_ret
  exact ⟨rfl, rfl⟩
set_option maxHeartbeats 400000 in
theorem member_no (z : Int) (w : World) (h0 : 0 ≤ z) (h1 : 64 ≤ z) : Calls Tryz.prog 101 #[.int .i64 z] w fun e w' => e = .returned (.bool false) ∧ w' = w := by
  have hd : decide (z < 64) = false := decide_eq_false (by omega)
  go_enter Tryz.func101, Tryz.ntmps101
  go_wp2_with fail
  go_ret
  exact ⟨rfl, rfl⟩
set_option maxRecDepth 100000 in
set_option maxHeartbeats 2000000 in
theorem parse_walk (s : ByteArray) (w : World) (hs : s.size ≤ 300) (h0 : 0 < s.size) (hm : Mx w) :
    Calls Tryz.prog 122 #[.string s] w fun e w' => e = .returned (setErr (Ost.parseOut s.data.toList)) ∧ Below w.heap.size w w' := by
  have hem : s.toList.isEmpty = false := by rw [Ost.toList_isEmpty, decide_eq_false (by omega)]
  have h300 : decide (300 < (s.size : Int)) = false := decide_eq_false (by omega)
  have HL : Hid (s.data.toList.length = s.size) := by unfold Hid; simp
  have HM := hideIt' hm
  clear hm
  have hP : Left s.data.toList 0 0 := by
    unfold Left Ost.parseOut
    rw [if_neg (by rw [HL.out]; omega), if_neg (fun e => by have := HL.out; rw [e] at this; simp at this; omega)]
    rfl
  have hn1 := splitC_len 44 s.data.toList
  rw [HL.out] at hn1
  have HX := hideIt' (splitC_mem 44 s.data.toList)
  have hn0 : 0 < (Ost.splitC 44 s.data.toList).length := List.length_pos_iff.2 (Ost.splitC_ne _ _)
  go_enter Tryz.func122, Tryz.ntmps122
  go_wp2_with fail
  refine (split_any s _ (by omega) HM.out).mono ?_
  rintro e w1 ⟨rfl, hw1⟩
  have hB1 : Below w.heap.size w w1 := by rw [hw1]; exact (Below.refl _ _).alloc (Nat.le_refl _) _
  have HM1 := hideIt' (HM.out.below hB1)
  have HC : Hid (∀ k, k < (Ost.splitC 44 s.data.toList).length → w1.cell? ⟨w.heap.size, k, none⟩ = some (.string ⟨((Ost.splitC 44 s.data.toList).getD k []).toArray⟩)) := by
    intro k hk
    rw [hw1]
    simp [go_sem, hk]
  have HPx : Hid (Left s.data.toList 0 0) := hP
  clear hw1 hP
  go_wp2_with fail
  go_loopw [4, 20] (fun t i wr => ∃ k acc m : Nat, k ≤ (Ost.splitC 44 s.data.toList).length ∧ acc < 18446744073709551616 ∧ i = .int .i64 k ∧ t = .int .u64 acc ∧ Hid (Left s.data.toList k acc) ∧ wr = w1.drewN m) (fun _ i _ => (Ost.splitC 44 s.data.toList).length - (intOf i).toNat)
  case atStart => exact ⟨0, 0, 0, by omega, by omega, rfl, rfl, HPx, rfl⟩
  case round =>
    obtain ⟨k, acc, m, hk, hacc, rfl, rfl, HLf, rfl⟩ := hrel
    clear HPx
    by_cases hlt : k < (Ost.splitC 44 s.data.toList).length
    · have hcell := HC.out k hlt
      have HN := hideIt' (HLf.out.next hlt)
      have hps : ((Ost.splitC 44 s.data.toList).getD k []).length ≤ 300 := by
        have hmem : (Ost.splitC 44 s.data.toList).getD k [] ∈ Ost.splitC 44 s.data.toList := by simp [hlt]
        have := HX.out _ hmem
        rw [HL.out] at this; omega
      generalize (Ost.splitC 44 s.data.toList).getD k [] = t at hcell HN hps
      have hts : (ByteArray.mk t.toArray).size < 4294967281 := by show t.toArray.size < _; simp; omega
      have HM2 : Hid (Mx (w1.drewN m)) := HM1
      rcases ho : Ost.spanOf t with _ | ⟨f, l⟩
      · have H := hideIt' (HN.out.1 ho)
        have HO := hideIt' ho
        clear ho
        go_wp2_with fail
        refine (readSpan_no ⟨t.toArray⟩ _ hts HM2.out HO.out).mono ?_
        rintro e w2 ⟨⟨a, b, rfl⟩, n, rfl⟩
        go_wp2_with fail
        go_ret2
        exact ⟨congrArg Ending.returned (congrArg setErr H.out).symm, below_drewN hB1 _⟩
      · have hfl := spanOf_le t f l ho
        obtain ⟨F, rfl⟩ := Int.eq_ofNat_of_zero_le hfl.1
        obtain ⟨T, rfl⟩ := Int.eq_ofNat_of_zero_le (show 0 ≤ l by omega)
        have HO := hideIt' ho
        have hFT : F ≤ T := by omega
        have hT2 : (T : Int) ≤ 9223372036854775807 := hfl.2.2
        have HN2 := hideIt' (HN.out.2 _ _ ho)
        clear ho hfl HN
        by_cases h63 : 63 < T
        · have H := hideIt' (HN2.out.1 (by omega))
          go_wp2_with fail
          refine (readSpan_yes ⟨t.toArray⟩ _ _ _ hts HM2.out HO.out).mono ?_
          rintro e w2 ⟨rfl, n, rfl⟩
          go_wp2_with fail
          refine (member_no _ _ (by omega) (by omega)).mono ?_
          rintro e w3 ⟨rfl, rfl⟩
          go_wp2_with fail
          go_ret2
          exact ⟨congrArg Ending.returned (congrArg setErr H.out).symm, below_drewN hB1 _⟩
        · have H := hideIt' (HN2.out.2 (by omega))
          go_wp2_with fail
          refine (readSpan_yes ⟨t.toArray⟩ _ _ _ hts HM2.out HO.out).mono ?_
          rintro e w2 ⟨rfl, n, rfl⟩
          go_wp2_with fail
          refine (member_yes _ _ (by omega) (by omega)).mono ?_
          rintro e w3 ⟨rfl, rfl⟩
          go_wp2_with fail
          go_loop [4, 10] (fun t i => ∃ q : Nat, q ≤ T - F + 1 ∧ i = .int .i64 (F + q : Nat) ∧ t = .int .u64 (acc ||| Ost.rb F q : Nat)) (fun _ i => 65 - (intOf i).toNat)
          case atStart => exact ⟨0, by omega, rfl, by simp [Ost.rb]⟩
          case round =>
            obtain ⟨q, hq, rfl, rfl⟩ := hrel
            have hlt2 : acc ||| Ost.rb F q < 18446744073709551616 := or_lt _ _ hacc (rb_lt F q (by omega))
            by_cases hend : F + q ≤ T
            · have HOr : Hid (bits BinOp.or IntKind.u64 (acc ||| Ost.rb F q : Nat) (IntKind.u64.wrap (2 ^ (F + q))) = ((acc ||| Ost.rb F (q + 1) : Nat) : Int)) := by
                unfold Hid; rw [or_step _ _ hlt2 (by omega), Ost.rb, Nat.or_assoc]
              go_wp2_with fail
              go_round
              case rel => exact ⟨q + 1, by omega, by go_num, by rw [← HOr.out]⟩
              case measure => simp [intOf]; omega
            · have HA : Hid (Left s.data.toList (k + 1) (acc ||| Ost.rb F q)) := by
                have h1 := H.out
                rw [show ((F : Nat) : Int).toNat = F by omega, show (((T : Nat) : Int) - (F : Nat) + 1).toNat = q by omega] at h1
                exact h1
              go_wp2_with fail
              go_roundw
              case rel => exact ⟨k + 1, _, _, by omega, hlt2, by go_num, rfl, HA, rfl⟩
              case measure => simp [intOf]; omega
    · have H := hideIt' (HLf.out.done (by omega))
      go_wp2_with fail
      go_ret2
      exact ⟨congrArg Ending.returned (congrArg setErr H.out).symm, below_drewN hB1 m⟩
set_option maxHeartbeats 400000 in
theorem parse_many (s : ByteArray) (w : World) (hs : 300 < s.size) (hs2 : s.size ≤ maxLen) :
    Calls Tryz.prog 122 #[.string s] w fun e w' => e = .returned (setErr (0, 2)) ∧ Below w.heap.size w w' := by
  unfold maxLen at hs2
  go_enter Tryz.func122, Tryz.ntmps122
  go_wp2_with fail
  go_ret2
  exact ⟨rfl, Below.refl _ _⟩
set_option maxHeartbeats 400000 in
theorem parse_none (w : World) :
    Calls Tryz.prog 122 #[.string ⟨#[]⟩] w fun e w' => e = .returned (setErr (0, 0)) ∧ Below w.heap.size w w' := by
  go_enter Tryz.func122, Tryz.ntmps122
  go_wp2_with fail
  go_ret2
  exact ⟨rfl, Below.refl _ _⟩
theorem empty_of (s : ByteArray) (h : s.size = 0) : s = ⟨#[]⟩ := by
  rcases s with ⟨⟨l⟩⟩
  cases l with
  | nil => rfl
  | cons a r => simp [ByteArray.size] at h
theorem parse_any (s : ByteArray) (w : World) (hs2 : s.size ≤ maxLen) (hm : Mx w) :
    Calls Tryz.prog 122 #[.string s] w fun e w' => e = .returned (setErr (Ost.parseOut s.data.toList)) ∧ Below w.heap.size w w' := by
  by_cases h1 : 300 < s.size
  · have := parse_many s w h1 hs2
    rw [show ((0, 2) : Nat × Int) = Ost.parseOut s.data.toList by unfold Ost.parseOut; rw [if_pos (by simpa using h1)]] at this
    exact this
  · by_cases h0 : s.size = 0
    · have he := empty_of s h0
      subst he
      exact parse_none w
    · exact parse_walk s w (by omega) (by omega) hm
end Go.Proofs.YtlljniaobbbjgaaGreatDoor.S1

namespace Go.Proofs.YtlljniaobbbjgaaGreatDoor
open Go.ChangeShapes Go.WideShapes Go.ChangeAt Go.RowKit
open Qos (Nd Ct Pd nd0 ct0 pd0 nd ct pd)
open Sv (Gv Hd gv hd)
/-- A slice of numbers that is read. -/
def IntsOf (w : World) (v : Value) (xs : List Int) : Prop :=
  ∃ ao c, v = .slice ao xs.length c ∧ (xs.length ≤ c ∧ c ≤ maxLen) ∧ (0 < xs.length → ∃ b o, ao = some ⟨b, o, none⟩ ∧ b < w.heap.size ∧ ∀ k, k < xs.length → w.cell? ⟨b, o + k, none⟩ = some (.int .i64 (xs.getD k 0)))
/-- A slice of what containers were given, at a place. -/
def GivsIn (w : World) (b o : Nat) (gs : List Gv) (dv : Nat → Value) : Prop :=
  b < w.heap.size ∧ ∀ k, k < gs.length → (w.cell? ⟨b, o + k * 2, none⟩ = some (.int .u64 (gv gs k).cp) ∧ w.cell? ⟨b, o + k * 2 + 1, none⟩ = some (dv k) ∧ (gv gs k).cp < 18446744073709551616) ∧ IntsOf w (dv k) (gv gs k).dv
def GivsAt (w : World) (v : Value) (gs : List Gv) : Prop :=
  ∃ ao c, v = .slice ao gs.length c ∧ (gs.length ≤ c ∧ c ≤ maxLen) ∧ (0 < gs.length → ∃ b o dv, ao = some ⟨b, o, none⟩ ∧ GivsIn w b o gs dv)
/-- What is held as a value. -/
def heldV (h : Hd) (cv gvv : Value) : Value := .agg #[.string h.pod.nm, .int .i64 h.pod.pr, cv, gvv]
def HldsIn (w : World) (b o : Nat) (hs : List Hd) (cv gvv : Nat → Value) : Prop :=
  b < w.heap.size ∧ ∀ k, k < hs.length → (w.cell? ⟨b, o + k * 4, none⟩ = some (.string (hd hs k).pod.nm) ∧ w.cell? ⟨b, o + k * 4 + 1, none⟩ = some (.int .i64 (hd hs k).pod.pr) ∧ w.cell? ⟨b, o + k * 4 + 2, none⟩ = some (cv k) ∧ w.cell? ⟨b, o + k * 4 + 3, none⟩ = some (gvv k)) ∧ ConsAt w (cv k) (hd hs k).pod.cs ∧ GivsAt w (gvv k) (hd hs k).gs
def HldsAt (w : World) (v : Value) (hs : List Hd) : Prop :=
  ∃ ao c, v = .slice ao hs.length c ∧ (hs.length ≤ c ∧ c ≤ maxLen) ∧ (0 < hs.length → ∃ b o cv gvv, ao = some ⟨b, o, none⟩ ∧ HldsIn w b o hs cv gvv)
theorem IntsOf.below {w w' : World} {v : Value} {xs : List Int} (h : IntsOf w v xs) (hb : Below w.heap.size w w') : IntsOf w' v xs := by
  obtain ⟨ao, c, hv, hm, hr⟩ := h
  refine ⟨ao, c, hv, hm, fun h0 => ?_⟩
  obtain ⟨b, o, ha, hlt, hc⟩ := hr h0
  exact ⟨b, o, ha, Nat.lt_of_lt_of_le hlt hb.size, fun k hk => (hb.cell (p := ⟨b, o + k, none⟩) hlt).trans (hc k hk)⟩
theorem GivsIn.below {w w' : World} {b o : Nat} {gs : List Gv} {dv : Nat → Value} (h : GivsIn w b o gs dv) (hb : Below w.heap.size w w') : GivsIn w' b o gs dv :=
  ⟨Nat.lt_of_lt_of_le h.1 hb.size, fun k hk => by
    obtain ⟨⟨h1, h2, h3⟩, h4⟩ := h.2 k hk
    exact ⟨⟨(hb.cell (p := ⟨b, o + k * 2, none⟩) h.1).trans h1, (hb.cell (p := ⟨b, o + k * 2 + 1, none⟩) h.1).trans h2, h3⟩, h4.below hb⟩⟩
theorem GivsAt.below {w w' : World} {v : Value} {gs : List Gv} (h : GivsAt w v gs) (hb : Below w.heap.size w w') : GivsAt w' v gs := by
  obtain ⟨ao, c, hv, hm, hr⟩ := h
  refine ⟨ao, c, hv, hm, fun h0 => ?_⟩
  obtain ⟨b, o, dv, ha, hc⟩ := hr h0
  exact ⟨b, o, dv, ha, hc.below hb⟩
theorem HldsIn.below {w w' : World} {b o : Nat} {hs : List Hd} {cv gvv : Nat → Value} (h : HldsIn w b o hs cv gvv) (hb : Below w.heap.size w w') : HldsIn w' b o hs cv gvv :=
  ⟨Nat.lt_of_lt_of_le h.1 hb.size, fun k hk => by
    obtain ⟨⟨h1, h2, h3, h4⟩, h5, h6⟩ := h.2 k hk
    exact ⟨⟨(hb.cell (p := ⟨b, o + k * 4, none⟩) h.1).trans h1, (hb.cell (p := ⟨b, o + k * 4 + 1, none⟩) h.1).trans h2, (hb.cell (p := ⟨b, o + k * 4 + 2, none⟩) h.1).trans h3, (hb.cell (p := ⟨b, o + k * 4 + 3, none⟩) h.1).trans h4⟩, h5.below hb, h6.below hb⟩⟩
theorem HldsAt.below {w w' : World} {v : Value} {hs : List Hd} (h : HldsAt w v hs) (hb : Below w.heap.size w w') : HldsAt w' v hs := by
  obtain ⟨ao, c, hv, hm, hr⟩ := h
  refine ⟨ao, c, hv, hm, fun h0 => ?_⟩
  obtain ⟨b, o, cv, gvv, ha, hc⟩ := hr h0
  exact ⟨b, o, cv, gvv, ha, hc.below hb⟩
theorem HldsAt.cps {w : World} {v : Value} {hs : List Hd} (h : HldsAt w v hs) : ∀ x ∈ hs, ∀ g ∈ x.gs, g.cp < 18446744073709551616 := by
  intro x hx g hg
  obtain ⟨k, hk, rfl⟩ := Sv.hd_in hx
  obtain ⟨ao, c, _, _, hr⟩ := h
  obtain ⟨b, o, cv, gvv, _, hc⟩ := hr (by omega)
  obtain ⟨_, _, h6⟩ := hc.2 k hk
  obtain ⟨j, hj, rfl⟩ := Sv.gv_in hg
  obtain ⟨ao, c, _, _, hr⟩ := h6
  obtain ⟨b, o, dv, _, hc⟩ := hr (by omega)
  exact (hc.2 j hj).1.2.2
section
variable {H : Type} {enc : TypeId × Value → H} {W : World}
end
end Go.Proofs.YtlljniaobbbjgaaGreatDoor

namespace Go.Proofs
open Go.Shelf
shelf_lay_g SlLaysH0.n8 Slgf 8 at Tryz 108 as Tryz.contL
end Go.Proofs
namespace Go.Proofs.YtlljniaobbbjgaaGreatDoor
open Go.RowKit
open Qos (Nd Ct Pd nd0 ct0 pd0 nd ct pd needF contF podF amtOk over twice leS)
open Dvs (nameMay first)
instance : Inhabited (Ct × Value) := ⟨⟨ct0, .nilIface⟩⟩
theorem eq_str (a b : ByteArray) : (a.toList == b.toList) = decide (a = b) := by
  rw [Bool.eq_iff_iff, beq_iff_eq, decide_eq_true_iff, ByteArray.toList_eq, ByteArray.toList_eq]
  exact ⟨fun h => ByteArray.ext (Array.toList_inj.mp h), fun h => by rw [h]⟩
set_option maxHeartbeats 400000 in
theorem sameName_pred (nm : ByteArray) (B : Nat) (w : World) (hB : B < w.heap.size) (hcell : w.cell? ⟨B, 0, none⟩ = some (.string nm)) :
    PredBelow Tryz.prog 109 #[.pointer (some ⟨B, 0, none⟩)] (fun x : Ct × Value => .agg (contCells x.1 x.2).toArray) (fun x => decide (x.1.nm = nm)) w := fun W x hb => by
  have hc : W.cell? ⟨B, 0, none⟩ = some (.string nm) := (hb.cell (p := ⟨B, 0, none⟩) hB).trans hcell
  have hBW : B < W.heap.size := Nat.lt_of_lt_of_le hB hb.size
  have hne : B ≠ W.heap.size := by omega
  obtain ⟨x, dv⟩ := x
  have HX := hideIt (eq_str x.nm nm)
  show Calls Tryz.prog 109 #[.agg #[.string x.nm, .int .i64 x.am, .int .i64 x.ab, .int .i64 x.cm, .int .i64 x.cb, dv], .pointer (some ⟨B, 0, none⟩)] W _
  show Calls Tryz.prog 109 _ W fun e w' => e = .returned (.bool (decide (x.nm = nm))) ∧ Below w.heap.size w w'
  rw [← HX.out]
  have HB := hideIt (hb.alloc hb.size (.cells #[.string x.nm, .int .i64 x.am, .int .i64 x.ab, .int .i64 x.cm, .int .i64 x.cb, dv] 56))
  clear hb
  go_enter Tryz.func109, Tryz.ntmps109
  go_wp2_with fail
  go_ret
  exact ⟨rfl, HB.out⟩
theorem any_fst (cs : List Ct) (dv : Nat → Value) (k : Nat) (q : Ct → Bool) : ((((List.range cs.length).map fun j => (ct cs j, dv j)).take k).any fun x => q x.1) = (cs.take k).any q := by
  have e : ((List.range cs.length).map fun j => (ct cs j, dv j)).map Prod.fst = cs := by
    rw [List.map_map]
    apply List.ext_getElem
    · simp
    · intro i h1 h2
      simp [ct, h2]
  have h : (cs.take k) = (((List.range cs.length).map fun j => (ct cs j, dv j)).take k).map Prod.fst := by rw [List.map_take, e]
  rw [h, List.any_map]
  rfl
theorem has_twice (b o c B k : Nat) (cs : List Ct) (dv : Nat → Value) (w : World) (h : ConsIn w b o cs dv) (hk : k < cs.length) (hl : cs.length ≤ maxLen) (hB : B < w.heap.size) (hcell : w.cell? ⟨B, 0, none⟩ = some (.string (ct cs k).nm)) :
    Calls Tryz.prog 108 #[.slice (some ⟨b, o, none⟩) k c, .func (.func 109) #[] #[.pointer (some ⟨B, 0, none⟩)]] w fun e w' => e = .returned (.bool (twice cs k)) ∧ Below w.heap.size w w' := by
  have eg : ∀ args w, (callFunc 109 args).run Tryz.prog w = .ok (.enter 109 args) w := enters_of Tryz.func109 (by kernel_rfl) rfl
  have hcon := AnyQ.slices_ContainsFunc Tryz.contL 6 Tryz.isAgg56 Tryz.sizeOf56 (fun x : Ct × Value => contCells x.1 x.2) (fun _ => rfl) (fun x => decide (x.1.nm = (ct cs k).nm)) 109 #[.pointer (some ⟨B, 0, none⟩)] eg b o k c ((List.range cs.length).map fun j => (ct cs j, dv j)) w
    (sameName_pred (ct cs k).nm B w hB hcell) (by simp; omega) (by unfold maxLen at hl; omega) h.1 (fun j hj i v hi => by
      have hj' : j < cs.length := by simpa using hj
      have e : ((List.range cs.length).map fun j => (ct cs j, dv j))[j]! = (ct cs j, dv j) := by simp [hj']
      rw [e] at hi
      have h6 : i < 6 := by
        have := (List.getElem?_eq_some_iff.1 hi).1
        simpa [contCells] using this
      rw [(h.2 j hj').1 i h6]
      exact hi)
  change Calls Tryz.prog 108 _ _ _ at hcon
  rw [any_fst cs dv k (fun x => decide (x.nm = (ct cs k).nm))] at hcon
  exact hcon
theorem contF_1 {cs : List Ct} {k : Nat} (h : nameMay (ct cs k).nm = false) : contF cs k = 3 := by unfold contF; rw [if_pos h]
theorem contF_2 {cs : List Ct} {k : Nat} (h : nameMay (ct cs k).nm = true) (h2 : twice cs k = true) : contF cs k = 5 := by unfold contF; rw [if_neg (by rw [h]; decide), if_pos h2]
theorem contF_3 {cs : List Ct} {k : Nat} (h : nameMay (ct cs k).nm = true) (h2 : twice cs k = false) (h3 : amtOk (ct cs k).am (ct cs k).ab = false ∨ amtOk (ct cs k).cm (ct cs k).cb = false) : contF cs k = 1 := by
  unfold contF; rw [if_neg (by rw [h]; decide), if_neg (by rw [h2]; decide), if_pos h3]
theorem contF_4 {cs : List Ct} {k : Nat} (h : nameMay (ct cs k).nm = true) (h2 : twice cs k = false) (h3 : amtOk (ct cs k).am (ct cs k).ab = true) (h3' : amtOk (ct cs k).cm (ct cs k).cb = true) (h4 : over (ct cs k).am (ct cs k).cm = true ∨ over (ct cs k).ab (ct cs k).cb = true) : contF cs k = 3 := by
  unfold contF; rw [if_neg (by rw [h]; decide), if_neg (by rw [h2]; decide), if_neg (by rw [h3, h3']; decide), if_pos h4]
theorem contF_5 {cs : List Ct} {k : Nat} (h : nameMay (ct cs k).nm = true) (h2 : twice cs k = false) (h3 : amtOk (ct cs k).am (ct cs k).ab = true) (h3' : amtOk (ct cs k).cm (ct cs k).cb = true) (h4 : over (ct cs k).am (ct cs k).cm = false) (h4' : over (ct cs k).ab (ct cs k).cb = false) : contF cs k = (if 3 < (ct cs k).ds.length then (2 : Nat) else first (needF (ct cs k).ds) (ct cs k).ds.length : Nat) := by
  unfold contF; rw [if_neg (by rw [h]; decide), if_neg (by rw [h2]; decide), if_neg (by rw [h3, h3']; decide), if_neg (by rw [h4, h4']; decide)]
/-- A container's cells, boxed. -/
theorem boxed (w : World) (x : Ct) (d : Value) : (w.alloc (.cells #[.string x.nm, .int .i64 x.am, .int .i64 x.ab, .int .i64 x.cm, .int .i64 x.cb, d] 56)).cell? ⟨w.heap.size, 0, none⟩ = some (.string x.nm) := by simp
/-- A container lies boxed. -/
def BoxAt (W : World) (B : Nat) (x : Ct) (d : Value) : Prop := B < W.heap.size ∧ W.cell? ⟨B, 0, none⟩ = some (.string x.nm) ∧ W.cell? ⟨B, 1, none⟩ = some (.int .i64 x.am) ∧ W.cell? ⟨B, 2, none⟩ = some (.int .i64 x.ab) ∧ W.cell? ⟨B, 3, none⟩ = some (.int .i64 x.cm) ∧ W.cell? ⟨B, 4, none⟩ = some (.int .i64 x.cb) ∧ W.cell? ⟨B, 5, none⟩ = some d
theorem BoxAt.made (w : World) (x : Ct) (d : Value) : BoxAt (w.alloc (.cells #[.string x.nm, .int .i64 x.am, .int .i64 x.ab, .int .i64 x.cm, .int .i64 x.cb, d] 56)) w.heap.size x d := by
  refine ⟨by simp, by simp, by simp, by simp, by simp, by simp, by simp⟩
theorem BoxAt.below {W W' : World} {B : Nat} {x : Ct} {d : Value} (h : BoxAt W B x d) (hb : Below W.heap.size W W') : BoxAt W' B x d := by
  obtain ⟨h0, h1, h2, h3, h4, h5, h6⟩ := h
  exact ⟨Nat.lt_of_lt_of_le h0 hb.size, (hb.cell (p := ⟨B, 0, none⟩) h0).trans h1, (hb.cell (p := ⟨B, 1, none⟩) h0).trans h2, (hb.cell (p := ⟨B, 2, none⟩) h0).trans h3, (hb.cell (p := ⟨B, 3, none⟩) h0).trans h4, (hb.cell (p := ⟨B, 4, none⟩) h0).trans h5, (hb.cell (p := ⟨B, 5, none⟩) h0).trans h6⟩
set_option maxRecDepth 100000 in
set_option maxHeartbeats 2000000 in
theorem checkCont_any (b o c k : Nat) (cs : List Ct) (dv : Nat → Value) (w : World) (h : ConsIn w b o cs dv) (hk : k < cs.length) (hl : cs.length ≤ maxLen) :
    Calls Tryz.prog 85 #[.agg #[.string (ct cs k).nm, .int .i64 (ct cs k).am, .int .i64 (ct cs k).ab, .int .i64 (ct cs k).cm, .int .i64 (ct cs k).cb, dv k], .slice (some ⟨b, o, none⟩) k c] w fun e w' => e = .returned (errV (contF cs k : Nat)) ∧ Below w.heap.size w w' := by
  have hB0 := (Below.refl w.heap.size w).alloc (Nat.le_refl _) (.cells #[.string (ct cs k).nm, .int .i64 (ct cs k).am, .int .i64 (ct cs k).ab, .int .i64 (ct cs k).cm, .int .i64 (ct cs k).cb, dv k] 56)
  have HT := hideIt (has_twice b o c w.heap.size k cs dv _ (h.below hB0) hk hl (by simp) (boxed w (ct cs k) (dv k)))
  have HN := hideIt (h.2 k hk).2
  have HB0 := hideIt hB0
  have H1 := hideIt (@contF_1 cs k)
  have H2 := hideIt (@contF_2 cs k)
  have H3 := hideIt (@contF_3 cs k)
  have H4 := hideIt (@contF_4 cs k)
  have H5 := hideIt (@contF_5 cs k)
  clear h hk hl hB0
  generalize contF cs k = F at *
  generalize twice cs k = T at *
  generalize ct cs k = x at *
  generalize dv k = d at *
  rcases two (nameMay x.nm) with hn | hn
  · rcases two T with ht | ht
    · have he := H2.out hn ht
      subst ht
      go_enter Tryz.func85, Tryz.ntmps85
      go_wp2_with fail
      refine (name_any _ _).mono ?_
      rintro e w1 ⟨rfl, rfl⟩
      rw [hn]
      go_wp2_with fail
      refine HT.out.mono ?_
      rintro e w1 ⟨rfl, hb1⟩
      go_wp2_with fail
      go_ret
      exact ⟨by rw [he]; rfl, HB0.out.trans (hb1.mono HB0.out.size)⟩
    · subst ht
      have K3 := hideIt (H3.out hn rfl)
      have K4 := hideIt (H4.out hn rfl)
      have K5 := hideIt (H5.out hn rfl)
      clear H1 H2 H3 H4 H5
      go_enter Tryz.func85, Tryz.ntmps85
      go_wp2_with fail
      refine (name_any _ _).mono ?_
      rintro e w1 ⟨rfl, rfl⟩
      rw [hn]
      go_wp2_with fail
      refine HT.out.mono ?_
      rintro e w1 ⟨rfl, hb1⟩
      have HX1 := hideIt ((BoxAt.made w x d).below hb1)
      have HB1 := hideIt (HB0.out.trans (hb1.mono HB0.out.size))
      clear hb1 HT HB0
      generalize w.heap.size = B at HX1
      obtain ⟨l0, b0, b1, b2, b3, b4, b5⟩ := HX1.out
      go_wp2_with fail
      refine (bounded_any _ _ _).mono ?_
      rintro e w2 ⟨rfl, hb2⟩
      have HX2 := hideIt (HX1.out.below hb2)
      have HB2 := hideIt (HB1.out.trans (hb2.mono HB1.out.size))
      clear hb2 HX1 HB1 l0 b0 b1 b2 b3 b4 b5
      rcases two (amtOk x.am x.ab) with ha | ha
      · have K4 := hideIt (K4.out ha)
        have K5 := hideIt (K5.out ha)
        rw [ha]
        obtain ⟨l0, b0, b1, b2, b3, b4, b5⟩ := HX2.out
        go_wp2_with fail
        refine (bounded_any _ _ _).mono ?_
        rintro e w3 ⟨rfl, hb3⟩
        have HX3 := hideIt (HX2.out.below hb3)
        have HN3 := hideIt (HN.out.below (HB2.out.trans (hb3.mono HB2.out.size)))
        have HB3 := hideIt (HB2.out.trans (hb3.mono HB2.out.size))
        clear hb3 HX2 HB2 l0 b0 b1 b2 b3 b4 b5
        rcases two (amtOk x.cm x.cb) with hc | hc
        · have K4 := hideIt (K4.out hc)
          have K5 := hideIt (K5.out hc)
          rw [hc]
          obtain ⟨l0, b0, b1, b2, b3, b4, b5⟩ := HX3.out
          go_wp2_with fail
          refine (beyond_any _ _ _).mono ?_
          rintro e w4 ⟨rfl, rfl⟩
          rcases two (over x.am x.cm) with h1 | h1
          · have he := K4.out (.inl h1)
            rw [h1]
            go_wp2_with fail
            go_ret
            exact ⟨by rw [he]; rfl, HB3.out⟩
          · have K5 := hideIt (K5.out h1)
            rw [h1]
            go_wp2_with fail
            refine (beyond_any _ _ _).mono ?_
            rintro e w4 ⟨rfl, rfl⟩
            rcases two (over x.ab x.cb) with h2 | h2
            · have he := K4.out (.inr h2)
              rw [h2]
              go_wp2_with fail
              go_ret
              exact ⟨by rw [he]; rfl, HB3.out⟩
            · have HE := hideIt (K5.out h2)
              rw [h2]
              go_wp2_with fail
              refine (checkNeeds_any d x.ds _ HN3.out).mono ?_
              rintro e w5 ⟨rfl, hb5⟩
              rw [← HE.out]
              have HB5 := hideIt (HB3.out.trans (hb5.mono HB3.out.size))
              clear hb5
              go_wp2_with fail
              go_ret
              exact ⟨rfl, HB5.out⟩
        · have he := K3.out (.inr hc)
          rw [hc]
          go_wp2_with fail
          go_ret
          exact ⟨by rw [he]; rfl, HB3.out⟩
      · have he := K3.out (.inl ha)
        rw [ha]
        go_wp2_with fail
        go_ret
        exact ⟨by rw [he]; rfl, HB2.out⟩
  · have he := H1.out hn
    go_enter Tryz.func85, Tryz.ntmps85
    go_wp2_with fail
    refine (name_any _ _).mono ?_
    rintro e w1 ⟨rfl, rfl⟩
    rw [hn]
    go_wp2_with fail
    go_ret
    exact ⟨by rw [he]; rfl, HB0.out⟩
end Go.Proofs.YtlljniaobbbjgaaGreatDoor

namespace Go.Proofs.YtlljniaobbbjgaaGreatDoor
open Go.RowKit
theorem step_two (l : Int) (d : Bool) : (stepE l d = 11 ∧ stepF l d = true) ∨ (stepE l d = 0 ∧ stepF l d = false) := by
  unfold stepE stepF
  by_cases h : d = true ∨ l = 0
  · exact .inl ⟨if_pos h, decide_eq_true h⟩
  · exact .inr ⟨if_neg h, decide_eq_false h⟩
theorem errV_11 : errV ((11 : Nat) : Int) = .iface 80 (.int .i64 11) := rfl
theorem errV_0 : errV ((0 : Nat) : Int) = .nilIface := rfl
set_option maxRecDepth 100000 in
set_option maxHeartbeats 1000000 in
theorem syncW_any (B : Nat) (n k : Sd) (v : Value) (l : Int) (d : Bool) (w : World) (h : DiskW w B n k v l d) (hl : -9223372036854775808 ≤ l ∧ l ≤ 9223372036854775807) : Calls Tryz.prog 41 #[.pointer (some ⟨B, 0, none⟩)] w fun e w' => e = .returned (errV ((stepE l d : Nat) : Int)) ∧ DiskW w' B n (if stepE l d = 0 then n else k) (if stepE l d = 0 then .slice none 0 0 else v) (stepN l d) (stepF l d) ∧ OnlyB B w w' := by
  have HS := hideIt (stepW_any B n k v l d w h hl)
  clear h
  rcases step_two l d with ⟨e1, e2⟩ | ⟨e1, e2⟩
  · rw [e1, e2, if_neg (by decide), if_neg (by decide), errV_11]
    rw [e1, e2, errV_11] at HS
    go_enter Tryz.func41, Tryz.ntmps41
    go_wp2_with fail
    refine HS.out.mono ?_
    rintro e w1 ⟨rfl, h1, ho1⟩
    have H1 := hideIt h1
    have HO := hideIt ho1
    clear h1 ho1 HS
    go_wp2_with fail
    go_ret
    exact ⟨rfl, H1.out, HO.out⟩
  · rw [e1, e2, if_pos rfl, if_pos rfl, errV_0]
    rw [e1, e2, errV_0] at HS
    go_enter Tryz.func41, Tryz.ntmps41
    go_wp2_with fail
    refine HS.out.mono ?_
    rintro e w1 ⟨rfl, h1, ho1⟩
    have H2 := hideIt ((h1.setKept n).set8 (.slice none 0 0))
    have HO := hideIt (((ho1.putS 4 n)).set 8 (.slice none 0 0))
    obtain ⟨n0, n1, n2, n3⟩ := h1.now
    obtain ⟨k0, k1, k2, k3⟩ := h1.kept
    obtain ⟨k8, _, _⟩ := h1.rest
    have f4 := h1.frozen 4
    have f5 := h1.frozen 5
    have f6 := h1.frozen 6
    have f7 := h1.frozen 7
    have f8 := h1.frozen 8
    clear h1 ho1 HS
    go_wp2_with fail
    go_ret
    exact ⟨rfl, H2.out, HO.out⟩
end Go.Proofs.YtlljniaobbbjgaaGreatDoor

namespace Go.Proofs.YtlljniaobbbjgaaGreatDoor
open Go.RowKit Go.Shelf
/-- An answer, and yes if P. -/
def AnsIf (P : Prop) (w : World) (e : Ending) (w' : World) : Prop := ∃ b : Bool, e = .returned (.bool b) ∧ (P → b = true) ∧ Below w.heap.size w w'
theorem below_drewNE (w : World) (n : Nat) : Below w.heap.size w (w.drewN n) := ⟨rfl, rfl, rfl, Nat.le_refl _, fun _ _ => rfl⟩
set_option maxRecDepth 100000 in
set_option maxHeartbeats 1000000 in
theorem sameInts_any (v1 v2 : Value) (xs ys : List Int) (w : World) (h1 : IntsOf w v1 xs) (h2 : IntsOf w v2 ys) :
    Calls Tryz.prog 46 #[v1, v2] w fun e w' => ∃ b : Bool, e = .returned (.bool b) ∧ (xs = ys → b = true) ∧ ∃ n, w' = w.drewN n := by
  obtain ⟨a1, c1, rfl, m1, h1⟩ := h1
  obtain ⟨a2, c2, rfl, m2, h2⟩ := h2
  unfold maxLen at m1 m2
  have H1 := hideIt h1
  have H2 := hideIt h2
  clear h1 h2
  by_cases hl : xs.length = ys.length
  · rw [← hl]
    have HL := hideIt hl
    go_enter Tryz.func46, Tryz.ntmps46
    clear hl
    go_wp2_with fail
    go_loopw [5] (fun i wr => ∃ k m : Nat, k ≤ xs.length ∧ i = .int .i64 k ∧ wr = w.drewN m) (fun i _ => xs.length - (intOf i).toNat)
    case atStart => exact ⟨0, 0, by omega, rfl, rfl⟩
    case round =>
      obtain ⟨k, m, hk, rfl, rfl⟩ := hrel
      by_cases hlt : k < xs.length
      · obtain ⟨b1, o1, rfl, _, hc1⟩ := H1.out (by omega)
        obtain ⟨b2, o2, rfl, _, hc2⟩ := H2.out (by rw [← HL.out]; omega)
        have d1 := hc1 k hlt
        have d2 := hc2 k (by rw [← HL.out]; omega)
        clear hc1 hc2
        have HK : Hid (xs = ys → xs.getD k 0 = ys.getD k 0) := fun e => by rw [e]
        generalize xs.getD k 0 = x at *
        generalize ys.getD k 0 = y at *
        by_cases hxy : x = y
        · subst hxy
          go_wp2_with fail
          go_quiet (fail)
          go_wp2_with fail
          go_roundw
          case rel => exact ⟨k + 1, _, by omega, by go_num, rfl⟩
          case measure => simp [intOf]; omega
        · have hb : (x == y) = false := by simpa using hxy
          have HN := hideIt hxy
          clear hxy
          go_wp2_with fail
          go_quiet (fail)
          go_wp2_with fail
          go_ret
          exact ⟨_, rfl, fun e => absurd (HK.out e) HN.out, _, World.drewN_drewN _ _ _⟩
      · have hke : k = xs.length := by omega
        subst hke
        go_wp2_with fail
        go_ret
        exact ⟨_, rfl, fun _ => rfl, m, rfl⟩
  · have hb : ((xs.length : Int) == (ys.length : Int)) = false := by simp; omega
    have HN := hideIt hl
    clear hl
    go_enter Tryz.func46, Tryz.ntmps46
    go_wp2_with fail
    go_ret
    exact ⟨_, rfl, fun e => absurd (congrArg List.length e) HN.out, 0, rfl⟩
end Go.Proofs.YtlljniaobbbjgaaGreatDoor

namespace Go.Proofs.YtlljniaobbbjgaaGreatDoor.S1
open Go.RowKit
theorem extract_list (s : ByteArray) (a b : Nat) : (s.extract a b).data.toList = (s.data.toList.take b).drop a := by
  rw [ByteArray.data_extract, Array.toList_extract, List.extract_eq_take_drop]
  rw [List.drop_take]
end Go.Proofs.YtlljniaobbbjgaaGreatDoor.S1

namespace Go.Proofs.YtlljniaobbbjgaaGreatDoor.S1
open Go.RowKit
theorem dec_small (n : Int) (h0 : 0 ≤ n) (h : n < 10) : dec n = [UInt8.ofNat (48 + n).toNat] := by
  unfold dec
  rw [Lib.decDigits_one (by omega), show 48 + n.toNat = (48 + n).toNat by omega]
theorem run_conv0 (w : World) (b : Nat) (x : Int) (h : w.cell? ⟨b, 0, none⟩ = some (.int .u8 x)) : (convert 71 9 (.slice (some ⟨b, 0, none⟩) 1 1)).run Tryz.prog w = .ok (.string ⟨#[UInt8.ofNat x.toNat]⟩) w := by
  rw [run_convert_bytes_string _ 71 9 5 _ 1 1 Tryz.underlying71 Tryz.underlying5 Tryz.underlying9]
  rw [run_bytesToString _ _ 1 1 [x] (run_loadCells_list w _ [.int .u8 x] (fun j v hj => by
    cases j with
    | zero => simp at hj; subst hj; exact h
    | succ j => simp at hj))]
  rfl
/-- A text of one byte, by what its cell holds. -/
def conv1 (w : World) (r : Result Value) : Option Value → Result Value
  | some (.int .u8 x) => .ok (.string ⟨#[UInt8.ofNat x.toNat]⟩) w
  | _ => r
theorem run_conv1 : ∃ r : World → Nat → Result Value, ∀ (w : World) (b : Nat), (convert 71 9 (.slice (some ⟨b, 0, none⟩) 1 1)).run Tryz.prog w = conv1 w (r w b) (w.cell? ⟨b, 0, none⟩) := by
  refine ⟨fun w b => (convert 71 9 (.slice (some ⟨b, 0, none⟩) 1 1)).run Tryz.prog w, fun w b => ?_⟩
  by_cases h : ∃ x, w.cell? ⟨b, 0, none⟩ = some (.int .u8 x)
  · obtain ⟨x, h⟩ := h
    rw [run_conv0 w b x h, h]; rfl
  · generalize w.cell? ⟨b, 0, none⟩ = c at h ⊢
    unfold conv1
    split
    · rename_i x; exact absurd ⟨x, rfl⟩ h
    · rfl
theorem conv1_byte (w : World) (r : Result Value) (x : Int) : conv1 w r (some (.int .u8 x)) = .ok (.string ⟨#[UInt8.ofNat x.toNat]⟩) w := rfl
set_option maxRecDepth 100000 in
set_option maxHeartbeats 400000 in
theorem decimal_small (n : Int) (w : World) (h0 : 0 ≤ n) (h : n < 10) :
    Calls Tryz.prog 34 #[.int .i64 n] w fun e w' => e = .returned (.string ⟨(dec n).toArray⟩) ∧ Below w.heap.size w w' := by
  obtain ⟨rr, hcv⟩ := run_conv1
  have hcb := conv1_byte
  go_enter Tryz.func34, Tryz.ntmps34
  go_wp2_with fail
  go_ret
  refine ⟨?_, (Below.refl _ w).alloc (Nat.le_refl _) _⟩
  rw [dec_small n h0 h]
  rfl
theorem dec_big (n : Int) (h : 10 ≤ n) : dec n = dec (n / 10) ++ [UInt8.ofNat (48 + n % 10).toNat] := by
  unfold dec
  rw [Lib.decDigits, dif_neg (by omega)]
  rw [show n.toNat / 10 = (n / 10).toNat by omega, show 48 + n.toNat % 10 = (48 + n % 10).toNat by omega]
theorem new_cell {w w1 : World} {v : Value} {t : TypeId} (hbl : Below (w.alloc (.cells #[v] t)).drew.heap.size (w.alloc (.cells #[v] t)).drew w1) : w1.cell? ⟨w.heap.size, 0, none⟩ = some v :=
  (hbl.cell (p := ⟨w.heap.size, 0, none⟩) (by simp)).trans (by simp [go_sem])
set_option maxRecDepth 100000 in
set_option maxHeartbeats 1000000 in
theorem decimal_step (n : Int) (h : 10 ≤ n) (h1 : n ≤ 9223372036854775807) (ih : Hid (∀ w : World, Calls Tryz.prog 34 #[.int .i64 (n / 10)] w fun e w' => e = .returned (.string ⟨(dec (n / 10)).toArray⟩) ∧ Below w.heap.size w w')) (w : World) :
    Calls Tryz.prog 34 #[.int .i64 n] w fun e w' => e = .returned (.string ⟨(dec n).toArray⟩) ∧ Below w.heap.size w w' := by
  obtain ⟨rr, hcv⟩ := run_conv1
  have hcb := conv1_byte
  have hl := dec_len (n / 10) (by omega)
  have HE := hideIt (dec_big n h)
  have ew : IntKind.i64.wrap (n.tdiv 10) = n / 10 := by
    rw [Int.tdiv_eq_ediv_of_nonneg (by omega)]
    exact IntWalk.i64_in _ (by omega)
  have HI : Hid (∀ w : World, Calls Tryz.prog 34 #[.int .i64 (IntKind.i64.wrap (n.tdiv 10))] w fun e w' => e = .returned (.string ⟨(dec (n / 10)).toArray⟩) ∧ Below w.heap.size w w') := by
    rw [ew]; exact ih
  have HX : Hid (IntKind.u8.wrap (IntKind.i64.wrap (48 + n.tmod 10)) = 48 + n % 10) := by
    unfold Hid
    rw [Int.tmod_eq_emod_of_nonneg (by omega), IntWalk.i64_in _ (by omega), IntWalk.u8_in _ (by omega)]
  clear ew ih
  go_enter Tryz.func34, Tryz.ntmps34
  go_wp2_with fail
  go_region_with (go_at_call 34; refine (HI.out _).mono ?_; rintro e w1 ⟨rfl, hbl⟩; try have hq := new_cell hbl)
  all_goals
    go_wp2_with fail
    go_ret
    refine ⟨?_, ?_⟩
    · rw [HE.out, ← HX.out]
      exact congrArg (fun x => Ending.returned (.string x)) (str_append _ _)
    · first
        | exact ((Below.refl _ w).drew.trans hbl).alloc hbl.size _
        | exact (((Below.refl _ w).alloc (Nat.le_refl _) _).drew).trans (hbl.mono (Nat.le_of_lt (by simp)))
/-- The digits of every number that is not below 0. -/
theorem decimal_any : ∀ (f : Nat) (n : Int) (w : World), n.toNat ≤ f → 0 ≤ n → n ≤ 9223372036854775807 →
    Calls Tryz.prog 34 #[.int .i64 n] w fun e w' => e = .returned (.string ⟨(dec n).toArray⟩) ∧ Below w.heap.size w w' := by
  intro f
  induction f with
  | zero => intro n w h h0 _; exact decimal_small n w h0 (by omega)
  | succ f ih =>
    intro n w h h0 h1
    by_cases hs : n < 10
    · exact decimal_small n w h0 hs
    · exact decimal_step n (by omega) h1 (fun w => ih (n / 10) w (by omega) (by omega) (by omega)) w
theorem decimal (n : Int) (w : World) (h0 : 0 ≤ n) (h1 : n ≤ 9223372036854775807) :
    Calls Tryz.prog 34 #[.int .i64 n] w fun e w' => e = .returned (.string ⟨(dec n).toArray⟩) ∧ Below w.heap.size w w' := decimal_any n.toNat n w (Nat.le_refl _) h0 h1
end Go.Proofs.YtlljniaobbbjgaaGreatDoor.S1

namespace Go.Proofs.YtlljniaobbbjgaaGreatDoor
open Go.RowKit Go.Sort
open S1 (Tab below_grow)
theorem holds_zero0 (w : World) (T : TypeId) (n : Nat) (hs : n ≤ 24) : Holds (fun (b : UInt8) => Value.int .u8 (b.toNat : Int)) (w.alloc (.cells Lib.zeros24 T)) w.heap.size 0 (Array.replicate n (0 : UInt8)) := fun j hj => by
  have hj' : j < n := by simpa using hj
  refine ⟨?_, World.frozen?_alloc_new _ _ _ _⟩
  rw [World.cell?_alloc_new, Lib.zeros24_at _ (by omega), getElem!_pos _ j hj]
  simp
theorem fin_pos0 (w : World) (o : Obj) (dk : Array UInt8) (k : Nat) : ∃ os, (putRow (fun (b : UInt8) => Value.int .u8 (b.toNat : Int)) (w.alloc o) w.heap.size 0 dk).drewN k = grow (w.drewN k) os := by
  rw [alloc_eq_grow]
  obtain ⟨os', _, e⟩ := putRow_grow_new (fun (b : UInt8) => Value.int .u8 (b.toNat : Int)) w #[o] w.heap.size 0 dk (Nat.le_refl _)
  exact ⟨os', by rw [e]; rfl⟩
set_option maxRecDepth 100000 in
set_option maxHeartbeats 6400000 in
theorem intFormatUint (u : Nat) (w : World) (hu64 : u < 18446744073709551616) (htab : Tab w) :
    Calls Tryz.prog 82 #[.int .u64 u, .int .i64 10] w fun e w' => e = .returned (.string ⟨(Lib.decDigits u).toArray⟩) ∧ Below w.heap.size w w' := by
  by_cases hs : u < 100
  · have hd : decide ((u : Int) < 100) = true := decide_eq_true (by omega)
    go_enter Tryz.func82, Tryz.ntmps82
    go_wp2_with fail
    refine (Tryz.internal_strconv_small u hs _).mono ?_
    rintro e w' ⟨rfl, rfl⟩
    go_wp2_with fail
    go_ret
    exact ⟨rfl, Below.refl _ _⟩
  · have hu1 : 1 ≤ u := by omega
    have hd : decide ((u : Int) < 100) = false := decide_eq_false (by omega)
    have hnd20 : Lib.nDigits u ≤ 20 := by have := Lib.numDigits_eq u hu1 hu64; split at this <;> omega
    have hsl1 : ∀ W, (Instr.sliceAt 161 (.pointer (some ⟨w.heap.size, 0, none⟩)) none (some (.int .i64 (Lib.nDigits u : Int))) none).run Tryz.prog W = .ok (.slice (some ⟨w.heap.size, 0, none⟩) (Lib.nDigits u) 24) W := fun W => by
      have hal : Tryz.prog.arrayLen 161 = 24 := by kernel_rfl
      rw [run_sliceAt_array_h W 161 ⟨w.heap.size, 0, none⟩ (by kernel_rfl) .i64 (Lib.nDigits u : Int) (by omega) (by rw [hal]; omega)]
      go_simp
    have hH0 := holds_zero0 w 161 (Lib.nDigits u) (by omega)
    have hfmt := Tryz.internal_strconv_formatBase10 w.heap.size 0 24 u (Array.replicate (Lib.nDigits u) 0) (w.alloc (.cells Lib.zeros24 161)) hH0 (by rw [Array.size_replicate]; exact Lib.lt_pow_nDigits u) hu64 (by rw [Array.size_replicate]; omega)
    rw [Array.size_replicate] at hfmt
    have HH0 := Lib.hid hH0
    have HFM := hideIt hfmt
    have HTB := hideIt (Lib.tabIs_alloc htab (.cells Lib.zeros24 161))
    clear hH0 hfmt htab
    go_enter Tryz.func82, Tryz.ntmps82
    go_wp2_with fail
    refine (Tryz.internal_strconv_numDigits u hu1 hu64 _ HTB.out).mono ?_
    rintro e w' ⟨rfl, rfl⟩
    go_wp2_with fail
    refine HFM.out.mono ?_
    rintro e w' ⟨rfl, k, v', dk, rfl, hF⟩
    have hcv : (convert 71 9 (.slice (some ⟨w.heap.size, 0, none⟩) (Lib.nDigits u) 24)).run Tryz.prog ((putRow (fun (b : UInt8) => Value.int .u8 (b.toNat : Int)) (w.alloc (.cells Lib.zeros24 161)) w.heap.size 0 dk).drewN k) = .ok (.string ⟨(Lib.decDigits u).toArray⟩) ((putRow (fun (b : UInt8) => Value.int .u8 (b.toNat : Int)) (w.alloc (.cells Lib.zeros24 161)) w.heap.size 0 dk).drewN k) := by
      have h := run_convert_bytes_back (P := Tryz.prog) ((putRow (fun (b : UInt8) => Value.int .u8 (b.toNat : Int)) (w.alloc (.cells Lib.zeros24 161)) w.heap.size 0 dk).drewN k) 71 9 5 ⟨w.heap.size, 0, none⟩ 24 (Lib.decDigits u) Tryz.underlying71 Tryz.underlying5 Tryz.underlying9 (fun j hj => by
        rw [Lib.row_is_numeral hF j hj, Lib.add_plain, World.cell?_drewN]
        exact cell?_putRow (fun (b : UInt8) => Value.int .u8 (b.toNat : Int)) _ w.heap.size 0 _ dk HH0.out (by rw [hF.size, Array.size_replicate]) j (by rw [hF.size]; rw [Lib.decDigits_length] at hj; exact hj))
      rw [Lib.decDigits_length] at h
      exact h
    go_wp2_with fail
    go_ret
    obtain ⟨os, eo⟩ := fin_pos0 w (.cells Lib.zeros24 161) dk k
    exact ⟨rfl, by rw [eo]; exact below_grow _ w (Nat.le_refl _) k os⟩
theorem formatUint_any (u : Nat) (w : World) (hu64 : u < 18446744073709551616) (htab : Tab w) :
    Calls Tryz.prog 61 #[.int .u64 u, .int .i64 10] w fun e w' => e = .returned (.string ⟨(Lib.decDigits u).toArray⟩) ∧ Below w.heap.size w w' := by
  have HT := hideIt htab
  clear htab
  go_enter Tryz.func61, Tryz.ntmps61
  go_wp2_with fail
  refine (intFormatUint u w hu64 HT.out).mono ?_
  rintro e w1 ⟨rfl, hb⟩
  go_wp2_with fail
  go_ret
  exact ⟨rfl, hb⟩
theorem strcat (a b : List UInt8) : (ByteArray.mk a.toArray) ++ (ByteArray.mk b.toArray) = ByteArray.mk (a ++ b).toArray := by
  apply ByteArray.ext; simp
set_option maxHeartbeats 1000000 in
theorem sumLine_any (b : List UInt8) (w : World) (hb : b.length ≤ 1000000) (htab : Tab w) :
    Calls Tryz.prog 32 #[.string ⟨b.toArray⟩] w fun e w' => e = .returned (.string ⟨(Sv.sumTxt b).toArray⟩) ∧ Below w.heap.size w w' := by
  have HT := hideIt htab
  clear htab
  have HS := hideIt (sum_any ⟨b.toArray⟩ w (by unfold maxLen; simp [ByteArray.size]; omega))
  have hlt : Sv.fnv b < 4294967296 := Sv.fnv_lt b
  have hle := Sv.dd_le (Sv.fnv b) (by omega)
  have HE : Hid (Sv.sumTxt b = [115, 117, 109, 32] ++ Lib.decDigits (Sv.fnv b) ++ [10]) := rfl
  have e0 : (ByteArray.mk b.toArray).data.toList = b := by simp
  rw [e0] at HS
  generalize Sv.fnv b = H at *
  generalize Sv.sumTxt b = S at *
  have ea := strcat [115, 117, 109, 32] (Lib.decDigits H)
  have eb := strcat ([115, 117, 109, 32] ++ Lib.decDigits H) [10]
  go_enter Tryz.func32, Tryz.ntmps32
  go_wp2_with fail
  refine HS.out.mono ?_
  rintro e w1 ⟨rfl, rfl⟩
  go_wp2_with fail
  refine (formatUint_any H _ (by omega) HT.out).mono ?_
  rintro e w1 ⟨rfl, hb1⟩
  go_wp2_with fail
  go_ret
  exact ⟨by rw [HE.out]; exact congrArg (fun x => Ending.returned (Value.string x)) eb, hb1⟩
theorem orNothing_any (l : List UInt8) (w : World) : Calls Tryz.prog 58 #[.string ⟨l.toArray⟩] w fun e w' => e = .returned (.string ⟨(Sv.orNo l).toArray⟩) ∧ w' = w := by
  have h0 : ((ByteArray.mk l.toArray).toList.isEmpty) = l.isEmpty := by rw [ByteArray.toList_eq]
  by_cases h : l = []
  · subst h
    go_enter Tryz.func58, Tryz.ntmps58
    go_wp2_with fail
    go_ret
    exact ⟨rfl, rfl⟩
  · have h1 : l.isEmpty = false := by simpa using h
    rw [h1] at h0
    have HE : Hid (Sv.orNo l = l) := by unfold Hid Sv.orNo; rw [if_neg h]
    rw [HE.out]
    go_enter Tryz.func58, Tryz.ntmps58
    go_wp2_with fail
    go_ret
    exact ⟨rfl, rfl⟩
end Go.Proofs.YtlljniaobbbjgaaGreatDoor

namespace Go.Proofs.YtlljniaobbbjgaaGreatDoor.S1
open Go.RowKit
theorem text_any (A : Nat) (w : World) (hA : A < 18446744073709551616) :
    Calls Tryz.prog 59 #[.int .u64 A] w fun e w' => e = .returned (.string ⟨(Ost.txt A).toArray⟩) ∧ Below w.heap.size w w' :=
  text_loop A w hA (fun v w1 h _ => join_own v (txts A 64) w1 w.heap.size h (Nat.le_trans (txts_len A 64) (by omega)) (Nat.le_trans (Ost.txt_len A) (by omega)))
end Go.Proofs.YtlljniaobbbjgaaGreatDoor.S1

