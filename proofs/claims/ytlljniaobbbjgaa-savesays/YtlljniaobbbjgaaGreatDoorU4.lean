/- VH1, SParse2, Ref3, VE1, QW1, VI3, VD2, DLight, TopSetW, QW2, VR1, VT1 -/
import Derived.Test.YtlljniaobbbjgaaGreatDoorU3
import Derived.Test.YtlljniaobbbjgaaGreatDoorU2
import Derived.Deep.DeepFit
import Derived.Shelf.SlicesQ.IndexFunc
import Derived.Ground.SlgfProg
import Derived.Shelf.Lay
import Derived.Laws.ResultCell
namespace Go.Proofs.YtlljniaobbbjgaaGreatDoor
open Go.ChangeShapes Go.WideShapes Go.ChangeAt Go.RowKit
open Qos (Nd Ct Pd nd0 ct0 pd0 nd ct pd)
open Sv (Gv Hd gv hd)
/-- A slice of numbers that is read. -/
def IntsOf (w : World) (v : Value) (xs : List Int) : Prop :=
  ∃ ao c, v = .slice ao xs.length c ∧ (xs.length ≤ c ∧ c ≤ maxLen) ∧ (0 < xs.length → ∃ b o, ao = some ⟨b, o, none⟩ ∧ b < w.heap.size ∧ ∀ k, k < xs.length → w.cell? ⟨b, o + k, none⟩ = some (.int .i64 (xs.getD k 0)))
/-- A slice of what containers were given, at a place. -/
def GivsIn (w : World) (b o : Nat) (gs : List Gv) (dv : Nat → Value) : Prop :=
  b < w.heap.size ∧ ∀ k, k < gs.length → (w.cell? ⟨b, o + k * 2, none⟩ = some (.int .u64 (gv gs k).cp) ∧ w.cell? ⟨b, o + k * 2 + 1, none⟩ = some (dv k) ∧ (gv gs k).cp < 18446744073709551616) ∧ IntsOf w (dv k) (gv gs k).dv
def GivsAt (w : World) (v : Value) (gs : List Gv) : Prop :=
  ∃ ao c, v = .slice ao gs.length c ∧ (gs.length ≤ c ∧ c ≤ maxLen) ∧ (0 < gs.length → ∃ b o dv, ao = some ⟨b, o, none⟩ ∧ GivsIn w b o gs dv)
/-- What is held as a value. -/
def heldV (h : Hd) (cv gvv : Value) : Value := .agg #[.string h.pod.nm, .int .i64 h.pod.pr, cv, gvv]
def HldsIn (w : World) (b o : Nat) (hs : List Hd) (cv gvv : Nat → Value) : Prop :=
  b < w.heap.size ∧ ∀ k, k < hs.length → (w.cell? ⟨b, o + k * 4, none⟩ = some (.string (hd hs k).pod.nm) ∧ w.cell? ⟨b, o + k * 4 + 1, none⟩ = some (.int .i64 (hd hs k).pod.pr) ∧ w.cell? ⟨b, o + k * 4 + 2, none⟩ = some (cv k) ∧ w.cell? ⟨b, o + k * 4 + 3, none⟩ = some (gvv k)) ∧ ConsAt w (cv k) (hd hs k).pod.cs ∧ GivsAt w (gvv k) (hd hs k).gs
def HldsAt (w : World) (v : Value) (hs : List Hd) : Prop :=
  ∃ ao c, v = .slice ao hs.length c ∧ (hs.length ≤ c ∧ c ≤ maxLen) ∧ (0 < hs.length → ∃ b o cv gvv, ao = some ⟨b, o, none⟩ ∧ HldsIn w b o hs cv gvv)
theorem IntsOf.below {w w' : World} {v : Value} {xs : List Int} (h : IntsOf w v xs) (hb : Below w.heap.size w w') : IntsOf w' v xs := by
  obtain ⟨ao, c, hv, hm, hr⟩ := h
  refine ⟨ao, c, hv, hm, fun h0 => ?_⟩
  obtain ⟨b, o, ha, hlt, hc⟩ := hr h0
  exact ⟨b, o, ha, Nat.lt_of_lt_of_le hlt hb.size, fun k hk => (hb.cell (p := ⟨b, o + k, none⟩) hlt).trans (hc k hk)⟩
theorem GivsIn.below {w w' : World} {b o : Nat} {gs : List Gv} {dv : Nat → Value} (h : GivsIn w b o gs dv) (hb : Below w.heap.size w w') : GivsIn w' b o gs dv :=
  ⟨Nat.lt_of_lt_of_le h.1 hb.size, fun k hk => by
    obtain ⟨⟨h1, h2, h3⟩, h4⟩ := h.2 k hk
    exact ⟨⟨(hb.cell (p := ⟨b, o + k * 2, none⟩) h.1).trans h1, (hb.cell (p := ⟨b, o + k * 2 + 1, none⟩) h.1).trans h2, h3⟩, h4.below hb⟩⟩
theorem GivsAt.below {w w' : World} {v : Value} {gs : List Gv} (h : GivsAt w v gs) (hb : Below w.heap.size w w') : GivsAt w' v gs := by
  obtain ⟨ao, c, hv, hm, hr⟩ := h
  refine ⟨ao, c, hv, hm, fun h0 => ?_⟩
  obtain ⟨b, o, dv, ha, hc⟩ := hr h0
  exact ⟨b, o, dv, ha, hc.below hb⟩
theorem HldsIn.below {w w' : World} {b o : Nat} {hs : List Hd} {cv gvv : Nat → Value} (h : HldsIn w b o hs cv gvv) (hb : Below w.heap.size w w') : HldsIn w' b o hs cv gvv :=
  ⟨Nat.lt_of_lt_of_le h.1 hb.size, fun k hk => by
    obtain ⟨⟨h1, h2, h3, h4⟩, h5, h6⟩ := h.2 k hk
    exact ⟨⟨(hb.cell (p := ⟨b, o + k * 4, none⟩) h.1).trans h1, (hb.cell (p := ⟨b, o + k * 4 + 1, none⟩) h.1).trans h2, (hb.cell (p := ⟨b, o + k * 4 + 2, none⟩) h.1).trans h3, (hb.cell (p := ⟨b, o + k * 4 + 3, none⟩) h.1).trans h4⟩, h5.below hb, h6.below hb⟩⟩
theorem HldsAt.below {w w' : World} {v : Value} {hs : List Hd} (h : HldsAt w v hs) (hb : Below w.heap.size w w') : HldsAt w' v hs := by
  obtain ⟨ao, c, hv, hm, hr⟩ := h
  refine ⟨ao, c, hv, hm, fun h0 => ?_⟩
  obtain ⟨b, o, cv, gvv, ha, hc⟩ := hr h0
  exact ⟨b, o, cv, gvv, ha, hc.below hb⟩
theorem HldsAt.cps {w : World} {v : Value} {hs : List Hd} (h : HldsAt w v hs) : ∀ x ∈ hs, ∀ g ∈ x.gs, g.cp < 18446744073709551616 := by
  intro x hx g hg
  obtain ⟨k, hk, rfl⟩ := Sv.hd_in hx
  obtain ⟨ao, c, _, _, hr⟩ := h
  obtain ⟨b, o, cv, gvv, _, hc⟩ := hr (by omega)
  obtain ⟨_, _, h6⟩ := hc.2 k hk
  obtain ⟨j, hj, rfl⟩ := Sv.gv_in hg
  obtain ⟨ao, c, _, _, hr⟩ := h6
  obtain ⟨b, o, dv, _, hc⟩ := hr (by omega)
  exact (hc.2 j hj).1.2.2
theorem ints_of_rows {W : World} {v : Value} (h : RowsOf W v 1 intP) (hcap : CapOk v) : ∃ xs, IntsOf W v xs := by
  obtain ⟨ao, len, c, rfl, hm, hr⟩ := h
  obtain ⟨_, _, _, hv, hl1, hl2⟩ := hcap
  cases hv
  by_cases h0 : len = 0
  · subst h0
    exact ⟨[], ao, c, rfl, ⟨by simp, hl2⟩, fun h => by simp at h⟩
  · obtain ⟨b, o, rfl, hlt, hc⟩ := hr (by omega)
    obtain ⟨f, hf⟩ := Deep.choose_lt (α := Int) (n := len) (p := fun k x => W.cell? ⟨b, o + k, none⟩ = some (.int .i64 x)) (fun k hk => by
      obtain ⟨cs, _, hcs, x, rfl⟩ := hc k hk
      have := hcs 0 (by decide)
      rw [Nat.mul_one, Nat.add_zero] at this
      exact ⟨x, this⟩)
    refine ⟨(List.range len).map f, _, c, by simp, ⟨by simpa using hl1, hl2⟩, fun _ => ⟨b, o, rfl, hlt, fun k hk => ?_⟩⟩
    have hk' : k < len := by simpa using hk
    have e : ((List.range len).map f).getD k 0 = f k := by simp [hk']
    rw [e]
    exact hf k hk'
theorem c_Set : Tryz.prog.cellsOf 61 = 1 := by kernel_rfl
theorem c_Given : Tryz.prog.cellsOf 64 = 2 := by kernel_rfl
theorem c_Held : Tryz.prog.cellsOf 67 = 4 := by kernel_rfl
theorem c_givens : Tryz.prog.cellsOf 65 = 1 := by kernel_rfl
def givP (W : World) (cs : List Value) : Prop := ∃ (A : Nat) (dv : Value), cs = [.int .u64 A, dv] ∧ A < 18446744073709551616 ∧ RowsOf W dv 1 intP ∧ CapOk dv
def heldP (W : World) (cs : List Value) : Prop := ∃ (nm : ByteArray) (pr : Int) (cv gvv : Value), cs = [.string nm, .int .i64 pr, cv, gvv] ∧ (RowsOf W cv 6 (contP W) ∧ CapOk cv) ∧ RowsOf W gvv 2 (givP W) ∧ CapOk gvv
theorem givs_of_rows {W : World} {v : Value} (h : RowsOf W v 2 (givP W)) (hcap : CapOk v) : ∃ gs, GivsAt W v gs := by
  obtain ⟨ao, len, c, rfl, hm, hr⟩ := h
  obtain ⟨_, _, _, hv, hl1, hl2⟩ := hcap
  cases hv
  by_cases h0 : len = 0
  · subst h0
    exact ⟨[], ao, c, rfl, ⟨by simp, hl2⟩, fun h => by simp at h⟩
  · obtain ⟨b, o, rfl, hlt, hc⟩ := hr (by omega)
    obtain ⟨f, hf⟩ := Deep.choose_lt (α := Gv × Value) (n := len) (p := fun k d => (W.cell? ⟨b, o + k * 2, none⟩ = some (.int .u64 d.1.cp) ∧ W.cell? ⟨b, o + k * 2 + 1, none⟩ = some d.2 ∧ d.1.cp < 18446744073709551616) ∧ IntsOf W d.2 d.1.dv) (fun k hk => by
      obtain ⟨cs, _, hcs, A, dv, rfl, hA, hdv, hcd⟩ := hc k hk
      obtain ⟨ds, hds⟩ := ints_of_rows hdv hcd
      exact ⟨⟨⟨A, ds⟩, dv⟩, ⟨hcs 0 (by decide), hcs 1 (by decide), hA⟩, hds⟩)
    refine ⟨(List.range len).map fun k => (f k).1, _, c, by simp, ⟨by simpa using hl1, hl2⟩, fun _ => ⟨b, o, fun k => (f k).2, rfl, hlt, fun k hk => ?_⟩⟩
    have hk' : k < len := by simpa using hk
    have e : gv ((List.range len).map fun k => (f k).1) k = (f k).1 := by simp [gv, hk']
    rw [e]
    exact hf k hk'
theorem hlds_of_rows {W : World} {v : Value} (h : RowsOf W v 4 (heldP W)) (hcap : CapOk v) : ∃ hs, HldsAt W v hs := by
  obtain ⟨ao, len, c, rfl, hm, hr⟩ := h
  obtain ⟨_, _, _, hv, hl1, hl2⟩ := hcap
  cases hv
  by_cases h0 : len = 0
  · subst h0
    exact ⟨[], ao, c, rfl, ⟨by simp, hl2⟩, fun h => by simp at h⟩
  · obtain ⟨b, o, rfl, hlt, hc⟩ := hr (by omega)
    obtain ⟨f, hf⟩ := Deep.choose_lt (α := Hd × Value × Value) (n := len) (p := fun k d => (W.cell? ⟨b, o + k * 4, none⟩ = some (.string d.1.pod.nm) ∧ W.cell? ⟨b, o + k * 4 + 1, none⟩ = some (.int .i64 d.1.pod.pr) ∧ W.cell? ⟨b, o + k * 4 + 2, none⟩ = some d.2.1 ∧ W.cell? ⟨b, o + k * 4 + 3, none⟩ = some d.2.2) ∧ ConsAt W d.2.1 d.1.pod.cs ∧ GivsAt W d.2.2 d.1.gs) (fun k hk => by
      obtain ⟨cs, _, hcs, nm, pr, cv, gvv, rfl, hcv, hgv⟩ := hc k hk
      obtain ⟨ds, hds⟩ := cons_of_rows hcv.1 hcv.2
      obtain ⟨gs, hgs⟩ := givs_of_rows hgv.1 hgv.2
      exact ⟨⟨⟨⟨nm, pr, ds⟩, gs⟩, cv, gvv⟩, ⟨hcs 0 (by decide), hcs 1 (by decide), hcs 2 (by decide), hcs 3 (by decide)⟩, hds, hgs⟩)
    refine ⟨(List.range len).map fun k => (f k).1, _, c, by simp, ⟨by simpa using hl1, hl2⟩, fun _ => ⟨b, o, fun k => (f k).2.1, fun k => (f k).2.2, rfl, hlt, fun k hk => ?_⟩⟩
    have hk' : k < len := by simpa using hk
    have e : hd ((List.range len).map fun k => (f k).1) k = (f k).1 := by simp [hd, hk']
    rw [e]
    exact hf k hk'
section
variable {H : Type} {enc : TypeId × Value → H} {W : World}
set_option maxRecDepth 100000 in
theorem givP_of_trod {n : Nat} {cs : List Value} {y : DataW H × List MemPlace} (hl : cs.length = 2) (h : DataW.trod enc Tryz.prog W 0 (fun _ => true) true n 64 cs = some y) : givP W cs := by
  obtain ⟨_, _, h0⟩ := trod_field Tryz.underlying64 h 0 61 0 _ c_Set rfl
  obtain ⟨_, _, h1⟩ := trod_field Tryz.underlying64 h 1 62 1 _ c_ints rfl
  match cs, hl with
  | [a, b], _ =>
    obtain ⟨p, e, _, hwf⟩ := DataW.trod_int Tryz.underlying61 h0
    simp at e h1
    have h2 := ints_of_trod h1
    have h3 := cap_of_trod Tryz.underlying62 h1
    have hr : 0 ≤ p ∧ p ≤ 18446744073709551615 := bounds_u64 hwf
    obtain ⟨A, rfl⟩ := Int.eq_ofNat_of_zero_le hr.1
    exact ⟨A, b, by rw [e], by omega, h2, h3⟩
set_option maxRecDepth 100000 in
theorem heldP_of_trod {n : Nat} {cs : List Value} {y : DataW H × List MemPlace} (hl : cs.length = 4) (h : DataW.trod enc Tryz.prog W 0 (fun _ => true) true n 67 cs = some y) : heldP W cs := by
  obtain ⟨_, _, h0⟩ := trod_field Tryz.underlying67 h 0 59 0 _ c_Pod rfl
  obtain ⟨_, _, h1⟩ := trod_field Tryz.underlying67 h 1 65 3 _ c_givens rfl
  match cs, hl with
  | [a, b, c, d], _ =>
    simp at h0 h1
    obtain ⟨nm, pr, cv, e, h2, h3⟩ := podP_of_trod rfl h0
    have h4 := rows_of_trod Tryz.underlying65 c_Given (by decide) h1 fun _ _ _ hl h => givP_of_trod hl h
    have h5 := cap_of_trod Tryz.underlying65 h1
    cases e
    exact ⟨nm, pr, _, d, rfl, ⟨h2, h3⟩, h4, h5⟩
theorem hlds_of_trod {n : Nat} {v : Value} {y : DataW H × List MemPlace} (h : DataW.trod enc Tryz.prog W 0 (fun _ => true) true n 22 [v] = some y) : ∃ hs, HldsAt W v hs :=
  hlds_of_rows (rows_of_trod Tryz.underlying22 c_Held (by decide) h fun _ _ _ hl h => heldP_of_trod hl h) (cap_of_trod Tryz.underlying22 h)
end
end Go.Proofs.YtlljniaobbbjgaaGreatDoor
namespace Go.Proofs.YtlljniaobbbjgaaGreatDoor.S1
open Go.RowKit
/-- The parts from the k-th on give the whole's answer. -/
def Left (l : List UInt8) (k acc : Nat) : Prop := Ost.parseOut l = Ost.pieces acc ((Ost.splitC 44 l).drop k)
theorem Left.next {l : List UInt8} {k acc : Nat} (h : Left l k acc) (hk : k < (Ost.splitC 44 l).length) :
    (Ost.spanOf ((Ost.splitC 44 l).getD k []) = none → Ost.parseOut l = (0, 4)) ∧
    (∀ f t, Ost.spanOf ((Ost.splitC 44 l).getD k []) = some (f, t) → (63 < t → Ost.parseOut l = (0, 1)) ∧ (¬ 63 < t → Left l (k + 1) (acc ||| Ost.rb f.toNat (t - f + 1).toNat))) := by
  have e : (Ost.splitC 44 l).drop k = (Ost.splitC 44 l).getD k [] :: (Ost.splitC 44 l).drop (k + 1) := by
    rw [List.drop_eq_getElem_cons hk]; simp [hk]
  unfold Left at h ⊢
  rw [e, Ost.pieces] at h
  refine ⟨fun hn => by rw [hn] at h; exact h, fun f t hs => ?_⟩
  rw [hs] at h
  simp only at h
  exact ⟨fun ht => by rw [if_pos ht] at h; exact h, fun ht => by rw [if_neg ht] at h; exact h⟩
theorem Left.done {l : List UInt8} {k acc : Nat} (h : Left l k acc) (hk : (Ost.splitC 44 l).length ≤ k) : Ost.parseOut l = (acc, 0) := by
  unfold Left at h
  rw [List.drop_eq_nil_of_le hk] at h; exact h
theorem spanOf_le (t : List UInt8) (f l : Int) (h : Ost.spanOf t = some (f, l)) : 0 ≤ f ∧ f ≤ l ∧ l ≤ 9223372036854775807 := by
  unfold Ost.spanOf at h
  split at h
  · split at h
    · rename_i hg
      rw [Bool.and_eq_true, Bool.and_eq_true, decide_eq_true_eq] at hg
      obtain ⟨⟨⟨_, _, h3⟩, _⟩, ⟨_, _, hm⟩⟩ : _ ∧ _ := ⟨(Ost.good_iff _ _).1 hg.1.1, (Ost.good_iff _ _).1 hg.1.2⟩
      simp only [Option.some.injEq, Prod.mk.injEq] at h
      obtain ⟨rfl, rfl⟩ := h
      exact ⟨Ost.val_nonneg _ h3, hg.2, hm⟩
    · cases h
  · split at h
    · rename_i hg
      obtain ⟨⟨_, _, h3⟩, _, hm⟩ := (Ost.good_iff _ _).1 hg
      simp only [Option.some.injEq, Prod.mk.injEq] at h
      obtain ⟨rfl, rfl⟩ := h
      exact ⟨Ost.val_nonneg _ h3, Int.le_refl _, hm⟩
    · cases h
theorem rb_lt (f m : Nat) (h : f + m ≤ 64) : Ost.rb f m < 18446744073709551616 := by
  induction m with
  | zero => simp [Ost.rb]
  | succ m ih => rw [Ost.rb]; exact or_lt _ _ (ih (by omega)) (pow_lt64 _ (by omega))
theorem splitC_len (c : UInt8) (l : List UInt8) : (Ost.splitC c l).length ≤ l.length + 1 := by
  induction l with
  | nil => simp [Ost.splitC]
  | cons b r ih =>
    unfold Ost.splitC
    split
    · simp; omega
    · split
      · simp
      · rename_i h; rw [h] at ih; simp at ih ⊢; omega
theorem splitC_mem (c : UInt8) (l : List UInt8) : ∀ x ∈ Ost.splitC c l, x.length ≤ l.length := by
  induction l with
  | nil => simp [Ost.splitC]
  | cons b r ih =>
    intro x hx
    unfold Ost.splitC at hx
    split at hx
    · rcases List.mem_cons.1 hx with rfl | hx
      · simp
      · have := ih x hx; simp; omega
    · split at hx
      · simp at hx; subst hx; simp
      · rename_i h
        rcases List.mem_cons.1 hx with rfl | hx
        · have := ih _ (by rw [h]; exact List.mem_cons_self); simp; omega
        · have := ih x (by rw [h]; exact List.mem_cons_of_mem _ hx); simp; omega
set_option maxHeartbeats 400000 in
theorem member_yes (z : Int) (w : World) (h0 : 0 ≤ z) (h1 : z < 64) : Calls Tryz.prog 101 #[.int .i64 z] w fun e w' => e = .returned (.bool true) ∧ w' = w := by
  go_enter Tryz.func101, Tryz.ntmps101
  go_wp2_with fail
  go_ret
  exact ⟨rfl, rfl⟩
set_option maxHeartbeats 400000 in
theorem member_no (z : Int) (w : World) (h0 : 0 ≤ z) (h1 : 64 ≤ z) : Calls Tryz.prog 101 #[.int .i64 z] w fun e w' => e = .returned (.bool false) ∧ w' = w := by
  have hd : decide (z < 64) = false := decide_eq_false (by omega)
  go_enter Tryz.func101, Tryz.ntmps101
  go_wp2_with fail
  go_ret
  exact ⟨rfl, rfl⟩
set_option maxRecDepth 100000 in
set_option maxHeartbeats 2000000 in
theorem parse_walk (s : ByteArray) (w : World) (hs : s.size ≤ 300) (h0 : 0 < s.size) (hm : Mx w) :
    Calls Tryz.prog 122 #[.string s] w fun e w' => e = .returned (setErr (Ost.parseOut s.data.toList)) ∧ Below w.heap.size w w' := by
  have hem : s.toList.isEmpty = false := by rw [Ost.toList_isEmpty, decide_eq_false (by omega)]
  have h300 : decide (300 < (s.size : Int)) = false := decide_eq_false (by omega)
  have HL : Hid (s.data.toList.length = s.size) := by unfold Hid; simp
  have HM := hideIt' hm
  clear hm
  have hP : Left s.data.toList 0 0 := by
    unfold Left Ost.parseOut
    rw [if_neg (by rw [HL.out]; omega), if_neg (fun e => by have := HL.out; rw [e] at this; simp at this; omega)]
    rfl
  have hn1 := splitC_len 44 s.data.toList
  rw [HL.out] at hn1
  have HX := hideIt' (splitC_mem 44 s.data.toList)
  have hn0 : 0 < (Ost.splitC 44 s.data.toList).length := List.length_pos_iff.2 (Ost.splitC_ne _ _)
  go_enter Tryz.func122, Tryz.ntmps122
  go_wp2_with fail
  refine (split_any s _ (by omega) HM.out).mono ?_
  rintro e w1 ⟨rfl, hw1⟩
  have hB1 : Below w.heap.size w w1 := by rw [hw1]; exact (Below.refl _ _).alloc (Nat.le_refl _) _
  have HM1 := hideIt' (HM.out.below hB1)
  have HC : Hid (∀ k, k < (Ost.splitC 44 s.data.toList).length → w1.cell? ⟨w.heap.size, k, none⟩ = some (.string ⟨((Ost.splitC 44 s.data.toList).getD k []).toArray⟩)) := by
    intro k hk
    rw [hw1]
    simp [go_sem, hk]
  have HPx : Hid (Left s.data.toList 0 0) := hP
  clear hw1 hP
  go_wp2_with fail
  go_loopw [4, 20] (fun t i wr => ∃ k acc m : Nat, k ≤ (Ost.splitC 44 s.data.toList).length ∧ acc < 18446744073709551616 ∧ i = .int .i64 k ∧ t = .int .u64 acc ∧ Hid (Left s.data.toList k acc) ∧ wr = w1.drewN m) (fun _ i _ => (Ost.splitC 44 s.data.toList).length - (intOf i).toNat)
  case atStart => exact ⟨0, 0, 0, by omega, by omega, rfl, rfl, HPx, rfl⟩
  case round =>
    obtain ⟨k, acc, m, hk, hacc, rfl, rfl, HLf, rfl⟩ := hrel
    clear HPx
    by_cases hlt : k < (Ost.splitC 44 s.data.toList).length
    · have hcell := HC.out k hlt
      have HN := hideIt' (HLf.out.next hlt)
      have hps : ((Ost.splitC 44 s.data.toList).getD k []).length ≤ 300 := by
        have hmem : (Ost.splitC 44 s.data.toList).getD k [] ∈ Ost.splitC 44 s.data.toList := by simp [hlt]
        have := HX.out _ hmem
        rw [HL.out] at this; omega
      generalize (Ost.splitC 44 s.data.toList).getD k [] = t at hcell HN hps
      have hts : (ByteArray.mk t.toArray).size < 4294967281 := by show t.toArray.size < _; simp; omega
      have HM2 : Hid (Mx (w1.drewN m)) := HM1
      rcases ho : Ost.spanOf t with _ | ⟨f, l⟩
      · have H := hideIt' (HN.out.1 ho)
        have HO := hideIt' ho
        clear ho
        go_wp2_with fail
        refine (readSpan_no ⟨t.toArray⟩ _ hts HM2.out HO.out).mono ?_
        rintro e w2 ⟨⟨a, b, rfl⟩, n, rfl⟩
        go_wp2_with fail
        go_ret2
        exact ⟨congrArg Ending.returned (congrArg setErr H.out).symm, below_drewN hB1 _⟩
      · have hfl := spanOf_le t f l ho
        obtain ⟨F, rfl⟩ := Int.eq_ofNat_of_zero_le hfl.1
        obtain ⟨T, rfl⟩ := Int.eq_ofNat_of_zero_le (show 0 ≤ l by omega)
        have HO := hideIt' ho
        have hFT : F ≤ T := by omega
        have hT2 : (T : Int) ≤ 9223372036854775807 := hfl.2.2
        have HN2 := hideIt' (HN.out.2 _ _ ho)
        clear ho hfl HN
        by_cases h63 : 63 < T
        · have H := hideIt' (HN2.out.1 (by omega))
          go_wp2_with fail
          refine (readSpan_yes ⟨t.toArray⟩ _ _ _ hts HM2.out HO.out).mono ?_
          rintro e w2 ⟨rfl, n, rfl⟩
          go_wp2_with fail
          refine (member_no _ _ (by omega) (by omega)).mono ?_
          rintro e w3 ⟨rfl, rfl⟩
          go_wp2_with fail
          go_ret2
          exact ⟨congrArg Ending.returned (congrArg setErr H.out).symm, below_drewN hB1 _⟩
        · have H := hideIt' (HN2.out.2 (by omega))
          go_wp2_with fail
          refine (readSpan_yes ⟨t.toArray⟩ _ _ _ hts HM2.out HO.out).mono ?_
          rintro e w2 ⟨rfl, n, rfl⟩
          go_wp2_with fail
          refine (member_yes _ _ (by omega) (by omega)).mono ?_
          rintro e w3 ⟨rfl, rfl⟩
          go_wp2_with fail
          go_loop [4, 10] (fun t i => ∃ q : Nat, q ≤ T - F + 1 ∧ i = .int .i64 (F + q : Nat) ∧ t = .int .u64 (acc ||| Ost.rb F q : Nat)) (fun _ i => 65 - (intOf i).toNat)
          case atStart => exact ⟨0, by omega, rfl, by simp [Ost.rb]⟩
          case round =>
            obtain ⟨q, hq, rfl, rfl⟩ := hrel
            have hlt2 : acc ||| Ost.rb F q < 18446744073709551616 := or_lt _ _ hacc (rb_lt F q (by omega))
            by_cases hend : F + q ≤ T
            · have HOr : Hid (bits BinOp.or IntKind.u64 (acc ||| Ost.rb F q : Nat) (IntKind.u64.wrap (2 ^ (F + q))) = ((acc ||| Ost.rb F (q + 1) : Nat) : Int)) := by
                unfold Hid; rw [or_step _ _ hlt2 (by omega), Ost.rb, Nat.or_assoc]
              go_wp2_with fail
              go_round
              case rel => exact ⟨q + 1, by omega, by go_num, by rw [← HOr.out]⟩
              case measure => simp [intOf]; omega
            · have HA : Hid (Left s.data.toList (k + 1) (acc ||| Ost.rb F q)) := by
                have h1 := H.out
                rw [show ((F : Nat) : Int).toNat = F by omega, show (((T : Nat) : Int) - (F : Nat) + 1).toNat = q by omega] at h1
                exact h1
              go_wp2_with fail
              go_roundw
              case rel => exact ⟨k + 1, _, _, by omega, hlt2, by go_num, rfl, HA, rfl⟩
              case measure => simp [intOf]; omega
    · have H := hideIt' (HLf.out.done (by omega))
      go_wp2_with fail
      go_ret2
      exact ⟨congrArg Ending.returned (congrArg setErr H.out).symm, below_drewN hB1 m⟩
set_option maxHeartbeats 400000 in
theorem parse_many (s : ByteArray) (w : World) (hs : 300 < s.size) (hs2 : s.size ≤ maxLen) :
    Calls Tryz.prog 122 #[.string s] w fun e w' => e = .returned (setErr (0, 2)) ∧ Below w.heap.size w w' := by
  unfold maxLen at hs2
  go_enter Tryz.func122, Tryz.ntmps122
  go_wp2_with fail
  go_ret2
  exact ⟨rfl, Below.refl _ _⟩
set_option maxHeartbeats 400000 in
theorem parse_none (w : World) :
    Calls Tryz.prog 122 #[.string ⟨#[]⟩] w fun e w' => e = .returned (setErr (0, 0)) ∧ Below w.heap.size w w' := by
  go_enter Tryz.func122, Tryz.ntmps122
  go_wp2_with fail
  go_ret2
  exact ⟨rfl, Below.refl _ _⟩
theorem empty_of (s : ByteArray) (h : s.size = 0) : s = ⟨#[]⟩ := by
  rcases s with ⟨⟨l⟩⟩
  cases l with
  | nil => rfl
  | cons a r => simp [ByteArray.size] at h
theorem parse_any (s : ByteArray) (w : World) (hs2 : s.size ≤ maxLen) (hm : Mx w) :
    Calls Tryz.prog 122 #[.string s] w fun e w' => e = .returned (setErr (Ost.parseOut s.data.toList)) ∧ Below w.heap.size w w' := by
  by_cases h1 : 300 < s.size
  · have := parse_many s w h1 hs2
    rw [show ((0, 2) : Nat × Int) = Ost.parseOut s.data.toList by unfold Ost.parseOut; rw [if_pos (by simpa using h1)]] at this
    exact this
  · by_cases h0 : s.size = 0
    · have he := empty_of s h0
      subst he
      exact parse_none w
    · exact parse_walk s w (by omega) (by omega) hm
end Go.Proofs.YtlljniaobbbjgaaGreatDoor.S1
namespace Go.Proofs.YtlljniaobbbjgaaGreatDoor.S1
open Go.RowKit
def txtNum (p : List UInt8 × Int) : Value := .tuple #[.string ⟨p.1.toArray⟩, .int .i64 p.2]
theorem dec_small (n : Int) (h0 : 0 ≤ n) (h : n < 10) : dec n = [UInt8.ofNat (48 + n).toNat] := by
  unfold dec
  rw [Lib.decDigits_one (by omega), show 48 + n.toNat = (48 + n).toNat by omega]
theorem run_conv0 (w : World) (b : Nat) (x : Int) (h : w.cell? ⟨b, 0, none⟩ = some (.int .u8 x)) : (convert 71 9 (.slice (some ⟨b, 0, none⟩) 1 1)).run Tryz.prog w = .ok (.string ⟨#[UInt8.ofNat x.toNat]⟩) w := by
  rw [run_convert_bytes_string _ 71 9 5 _ 1 1 Tryz.underlying71 Tryz.underlying5 Tryz.underlying9]
  rw [run_bytesToString _ _ 1 1 [x] (run_loadCells_list w _ [.int .u8 x] (fun j v hj => by
    cases j with
    | zero => simp at hj; subst hj; exact h
    | succ j => simp at hj))]
  rfl
/-- A text of one byte, by what its cell holds. -/
def conv1 (w : World) (r : Result Value) : Option Value → Result Value
  | some (.int .u8 x) => .ok (.string ⟨#[UInt8.ofNat x.toNat]⟩) w
  | _ => r
theorem run_conv1 : ∃ r : World → Nat → Result Value, ∀ (w : World) (b : Nat), (convert 71 9 (.slice (some ⟨b, 0, none⟩) 1 1)).run Tryz.prog w = conv1 w (r w b) (w.cell? ⟨b, 0, none⟩) := by
  refine ⟨fun w b => (convert 71 9 (.slice (some ⟨b, 0, none⟩) 1 1)).run Tryz.prog w, fun w b => ?_⟩
  by_cases h : ∃ x, w.cell? ⟨b, 0, none⟩ = some (.int .u8 x)
  · obtain ⟨x, h⟩ := h
    rw [run_conv0 w b x h, h]; rfl
  · generalize w.cell? ⟨b, 0, none⟩ = c at h ⊢
    unfold conv1
    split
    · rename_i x; exact absurd ⟨x, rfl⟩ h
    · rfl
theorem conv1_byte (w : World) (r : Result Value) (x : Int) : conv1 w r (some (.int .u8 x)) = .ok (.string ⟨#[UInt8.ofNat x.toNat]⟩) w := rfl
set_option maxRecDepth 100000 in
set_option maxHeartbeats 400000 in
theorem decimal_small (n : Int) (w : World) (h0 : 0 ≤ n) (h : n < 10) :
    Calls Tryz.prog 34 #[.int .i64 n] w fun e w' => e = .returned (.string ⟨(dec n).toArray⟩) ∧ Below w.heap.size w w' := by
  obtain ⟨rr, hcv⟩ := run_conv1
  have hcb := conv1_byte
  go_enter Tryz.func34, Tryz.ntmps34
  go_wp2_with fail
  go_ret
  refine ⟨?_, (Below.refl _ w).alloc (Nat.le_refl _) _⟩
  rw [dec_small n h0 h]
  rfl
theorem dec_big (n : Int) (h : 10 ≤ n) : dec n = dec (n / 10) ++ [UInt8.ofNat (48 + n % 10).toNat] := by
  unfold dec
  rw [Lib.decDigits, dif_neg (by omega)]
  rw [show n.toNat / 10 = (n / 10).toNat by omega, show 48 + n.toNat % 10 = (48 + n % 10).toNat by omega]
theorem new_cell {w w1 : World} {v : Value} {t : TypeId} (hbl : Below (w.alloc (.cells #[v] t)).drew.heap.size (w.alloc (.cells #[v] t)).drew w1) : w1.cell? ⟨w.heap.size, 0, none⟩ = some v :=
  (hbl.cell (p := ⟨w.heap.size, 0, none⟩) (by simp)).trans (by simp [go_sem])
set_option maxRecDepth 100000 in
set_option maxHeartbeats 1000000 in
theorem decimal_step (n : Int) (h : 10 ≤ n) (h1 : n ≤ 9223372036854775807) (ih : Hid (∀ w : World, Calls Tryz.prog 34 #[.int .i64 (n / 10)] w fun e w' => e = .returned (.string ⟨(dec (n / 10)).toArray⟩) ∧ Below w.heap.size w w')) (w : World) :
    Calls Tryz.prog 34 #[.int .i64 n] w fun e w' => e = .returned (.string ⟨(dec n).toArray⟩) ∧ Below w.heap.size w w' := by
  obtain ⟨rr, hcv⟩ := run_conv1
  have hcb := conv1_byte
  have hl := dec_len (n / 10) (by omega)
  have HE := hideIt (dec_big n h)
  have ew : IntKind.i64.wrap (n.tdiv 10) = n / 10 := by
    rw [Int.tdiv_eq_ediv_of_nonneg (by omega)]
    exact IntWalk.i64_in _ (by omega)
  have HI : Hid (∀ w : World, Calls Tryz.prog 34 #[.int .i64 (IntKind.i64.wrap (n.tdiv 10))] w fun e w' => e = .returned (.string ⟨(dec (n / 10)).toArray⟩) ∧ Below w.heap.size w w') := by
    rw [ew]; exact ih
  have HX : Hid (IntKind.u8.wrap (IntKind.i64.wrap (48 + n.tmod 10)) = 48 + n % 10) := by
    unfold Hid
    rw [Int.tmod_eq_emod_of_nonneg (by omega), IntWalk.i64_in _ (by omega), IntWalk.u8_in _ (by omega)]
  clear ew ih
  go_enter Tryz.func34, Tryz.ntmps34
  go_wp2_with fail
  go_region_with (go_at_call 34; refine (HI.out _).mono ?_; rintro e w1 ⟨rfl, hbl⟩; try have hq := new_cell hbl)
  all_goals
    go_wp2_with fail
    go_ret
    refine ⟨?_, ?_⟩
    · rw [HE.out, ← HX.out]
      exact congrArg (fun x => Ending.returned (.string x)) (str_append _ _)
    · first
        | exact ((Below.refl _ w).drew.trans hbl).alloc hbl.size _
        | exact (((Below.refl _ w).alloc (Nat.le_refl _) _).drew).trans (hbl.mono (Nat.le_of_lt (by simp)))
/-- The digits of every number that is not below 0. -/
theorem decimal_any : ∀ (f : Nat) (n : Int) (w : World), n.toNat ≤ f → 0 ≤ n → n ≤ 9223372036854775807 →
    Calls Tryz.prog 34 #[.int .i64 n] w fun e w' => e = .returned (.string ⟨(dec n).toArray⟩) ∧ Below w.heap.size w w' := by
  intro f
  induction f with
  | zero => intro n w h h0 _; exact decimal_small n w h0 (by omega)
  | succ f ih =>
    intro n w h h0 h1
    by_cases hs : n < 10
    · exact decimal_small n w h0 hs
    · exact decimal_step n (by omega) h1 (fun w => ih (n / 10) w (by omega) (by omega) (by omega)) w
theorem decimal (n : Int) (w : World) (h0 : 0 ≤ n) (h1 : n ≤ 9223372036854775807) :
    Calls Tryz.prog 34 #[.int .i64 n] w fun e w' => e = .returned (.string ⟨(dec n).toArray⟩) ∧ Below w.heap.size w w' := decimal_any n.toNat n w (Nat.le_refl _) h0 h1
end Go.Proofs.YtlljniaobbbjgaaGreatDoor.S1
namespace Go.Proofs.YtlljniaobbbjgaaGreatDoor
open Go.RowKit Go.Shelf
/-- An answer, and yes if P. -/
def AnsIf (P : Prop) (w : World) (e : Ending) (w' : World) : Prop := ∃ b : Bool, e = .returned (.bool b) ∧ (P → b = true) ∧ Below w.heap.size w w'
theorem below_drewNE (w : World) (n : Nat) : Below w.heap.size w (w.drewN n) := ⟨rfl, rfl, rfl, Nat.le_refl _, fun _ _ => rfl⟩
set_option maxRecDepth 100000 in
set_option maxHeartbeats 1000000 in
theorem sameInts_any (v1 v2 : Value) (xs ys : List Int) (w : World) (h1 : IntsOf w v1 xs) (h2 : IntsOf w v2 ys) :
    Calls Tryz.prog 46 #[v1, v2] w fun e w' => ∃ b : Bool, e = .returned (.bool b) ∧ (xs = ys → b = true) ∧ ∃ n, w' = w.drewN n := by
  obtain ⟨a1, c1, rfl, m1, h1⟩ := h1
  obtain ⟨a2, c2, rfl, m2, h2⟩ := h2
  unfold maxLen at m1 m2
  have H1 := hideIt h1
  have H2 := hideIt h2
  clear h1 h2
  by_cases hl : xs.length = ys.length
  · rw [← hl]
    have HL := hideIt hl
    go_enter Tryz.func46, Tryz.ntmps46
    clear hl
    go_wp2_with fail
    go_loopw [5] (fun i wr => ∃ k m : Nat, k ≤ xs.length ∧ i = .int .i64 k ∧ wr = w.drewN m) (fun i _ => xs.length - (intOf i).toNat)
    case atStart => exact ⟨0, 0, by omega, rfl, rfl⟩
    case round =>
      obtain ⟨k, m, hk, rfl, rfl⟩ := hrel
      by_cases hlt : k < xs.length
      · obtain ⟨b1, o1, rfl, _, hc1⟩ := H1.out (by omega)
        obtain ⟨b2, o2, rfl, _, hc2⟩ := H2.out (by rw [← HL.out]; omega)
        have d1 := hc1 k hlt
        have d2 := hc2 k (by rw [← HL.out]; omega)
        clear hc1 hc2
        have HK : Hid (xs = ys → xs.getD k 0 = ys.getD k 0) := fun e => by rw [e]
        generalize xs.getD k 0 = x at *
        generalize ys.getD k 0 = y at *
        by_cases hxy : x = y
        · subst hxy
          go_wp2_with fail
          go_quiet (fail)
          go_wp2_with fail
          go_roundw
          case rel => exact ⟨k + 1, _, by omega, by go_num, rfl⟩
          case measure => simp [intOf]; omega
        · have hb : (x == y) = false := by simpa using hxy
          have HN := hideIt hxy
          clear hxy
          go_wp2_with fail
          go_quiet (fail)
          go_wp2_with fail
          go_ret
          exact ⟨_, rfl, fun e => absurd (HK.out e) HN.out, _, World.drewN_drewN _ _ _⟩
      · have hke : k = xs.length := by omega
        subst hke
        go_wp2_with fail
        go_ret
        exact ⟨_, rfl, fun _ => rfl, m, rfl⟩
  · have hb : ((xs.length : Int) == (ys.length : Int)) = false := by simp; omega
    have HN := hideIt hl
    clear hl
    go_enter Tryz.func46, Tryz.ntmps46
    go_wp2_with fail
    go_ret
    exact ⟨_, rfl, fun e => absurd (congrArg List.length e) HN.out, 0, rfl⟩
end Go.Proofs.YtlljniaobbbjgaaGreatDoor
namespace Go.Proofs.YtlljniaobbbjgaaGreatDoor
open Go.RowKit
open Qos (Nd Ct Pd nd0 ct0 pd0 nd ct pd needF contF podF amtOk over twice leS)
open Dvs (nameMay first)
set_option maxHeartbeats 400000 in
theorem within_any (n a b : Int) (w : World) : Calls Tryz.prog 84 #[.int .i64 n, .int .i64 a, .int .i64 b] w fun e w' => e = .returned (.bool (decide (a ≤ n) && decide (n ≤ b))) ∧ w' = w := by
  by_cases h1 : a ≤ n
  · go_enter Tryz.func84, Tryz.ntmps84
    go_wp2_with fail
    go_ret
    exact ⟨by simp [h1], rfl⟩
  · have h2 : n < a := by omega
    have h3 : decide (a ≤ n) = false := decide_eq_false h1
    rw [h3]
    clear h1
    go_enter Tryz.func84, Tryz.ntmps84
    go_wp2_with fail
    go_ret
    exact ⟨by simp, rfl⟩
set_option maxHeartbeats 400000 in
theorem beyond_any (a c : Int) (w : World) : Calls Tryz.prog 111 #[.int .i64 a, .int .i64 c] w fun e w' => e = .returned (.bool (over a c)) ∧ w' = w := by
  unfold over
  by_cases h1 : c = 0
  · subst h1
    go_enter Tryz.func111, Tryz.ntmps111
    go_wp2_with fail
    go_ret
    exact ⟨by simp, rfl⟩
  · go_enter Tryz.func111, Tryz.ntmps111
    go_wp2_with fail
    go_ret
    exact ⟨by simp [h1], rfl⟩
set_option maxHeartbeats 400000 in
theorem bounded_any (m b : Int) (w : World) : Calls Tryz.prog 110 #[.agg #[.int .i64 m, .int .i64 b]] w fun e w' => e = .returned (.bool (amtOk m b)) ∧ Below w.heap.size w w' := by
  unfold amtOk
  go_enter Tryz.func110, Tryz.ntmps110
  go_wp2_with fail
  refine (within_any _ _ _ _).mono ?_
  rintro e w1 ⟨rfl, rfl⟩
  rcases two (decide (0 ≤ m) && decide (m ≤ 1000000)) with e1 | e1
  · rw [e1]
    go_wp2_with fail
    refine (within_any _ _ _ _).mono ?_
    rintro e w1 ⟨rfl, rfl⟩
    go_wp2_with fail
    go_ret
    refine ⟨?_, (Below.refl w.heap.size w).alloc (Nat.le_refl _) _⟩
    rw [e1]
    simp
  · rw [e1]
    go_wp2_with fail
    go_ret
    refine ⟨?_, (Below.refl w.heap.size w).alloc (Nat.le_refl _) _⟩
    rw [e1]
    rfl
set_option maxRecDepth 100000 in
set_option maxHeartbeats 1000000 in
theorem checkNeeds_any (v : Value) (ds : List Nd) (w : World) (h : NeedsAt w v ds) : Calls Tryz.prog 112 #[v] w fun e w' => e = .returned (errV (if 3 < ds.length then (2 : Nat) else first (needF ds) ds.length : Nat)) ∧ Below w.heap.size w w' := by
  obtain ⟨ao, c, rfl, hm, hr⟩ := h
  clear hm
  have HR := hideIt hr
  clear hr
  by_cases h3 : 3 < ds.length
  · rw [if_pos h3]
    go_enter Tryz.func112, Tryz.ntmps112
    go_wp2_with fail
    go_ret
    exact ⟨rfl, Below.refl _ _⟩
  rw [if_neg h3]
  have h3' : ds.length ≤ 3 := by omega
  clear h3
  have hd : decide (3 < (ds.length : Int)) = false := decide_eq_false (by omega)
  go_enter Tryz.func112, Tryz.ntmps112
  go_wp2_with fail
  go_loopw [3, 12] (fun la i wr => ∃ k : Nat, k ≤ ds.length ∧ i = .int .i64 k ∧ la = .string (Qos.lastOf ds k) ∧ Below w.heap.size w wr ∧ Hid (first (needF ds) k = 0)) (fun _ i _ => ds.length - (intOf i).toNat)
  case atStart => exact ⟨0, by omega, rfl, rfl, Below.refl _ _, rfl⟩
  case round =>
    obtain ⟨k, hk, rfl, rfl, hB, HF⟩ := hrel
    by_cases hlt : k < ds.length
    · obtain ⟨b, o, rfl, hlb, hcs⟩ := HR.out (by omega)
      obtain ⟨g0, g1⟩ := hcs k hlt
      have c0 := (hB.cell (p := ⟨b, o + k * 2, none⟩) hlb).trans g0
      have c1 := (hB.cell (p := ⟨b, o + k * 2 + 1, none⟩) hlb).trans g1
      have HN := hideIt (@Qos.need_name ds k)
      have HL := hideIt (@Qos.need_le ds k)
      have HM := hideIt (@Qos.need_many ds k)
      have HS := hideIt (Qos.last_succ ds k)
      have hB1 := hideIt (hB.alloc hB.size (.cells #[.string (nd ds k).kind, .int .i64 (nd ds k).many] 115))
      clear g0 g1 hcs hB
      have HX : Hid (∃ la, la = Qos.lastOf ds k) := ⟨_, rfl⟩
      generalize Qos.lastOf ds k = la at *
      generalize nd ds k = x at *
      rcases two (nameMay x.kind) with hn | hn
      · rcases two (leS x.kind la) with hl | hl
        · have he := HL.out hn hl
          have HA := hideIt (Dvs.first_hit HF.out (by rw [he]; decide) hlt)
          have hl' : (Op.bytesLess x.kind.toList la.toList || x.kind.toList == la.toList) = true := hl
          go_wp2_with fail
          refine (name_any _ _).mono ?_
          rintro e w1 ⟨rfl, rfl⟩
          rw [hn]
          go_wp2_with fail
          go_ret
          exact ⟨by rw [HA.out, he]; rfl, hB1.out⟩
        · have he := HM.out hn hl
          have hl' : (Op.bytesLess x.kind.toList la.toList || x.kind.toList == la.toList) = false := hl
          go_wp2_with fail
          refine (name_any _ _).mono ?_
          rintro e w1 ⟨rfl, rfl⟩
          rw [hn]
          go_wp2_with fail
          refine (within_any _ _ _ _).mono ?_
          rintro e w1 ⟨rfl, rfl⟩
          by_cases hm : x.many < 1 ∨ 16 < x.many
          · rw [if_pos hm] at he
            have HA := hideIt (Dvs.first_hit HF.out (by rw [he]; decide) hlt)
            rw [show (decide (1 ≤ x.many) && decide (x.many ≤ 16)) = false by simp; omega]
            go_wp2_with fail
            go_ret
            exact ⟨by rw [HA.out, he]; rfl, hB1.out⟩
          · rw [if_neg hm] at he
            rw [show (decide (1 ≤ x.many) && decide (x.many ≤ 16)) = true by simp; omega]
            go_wp2_with fail
            go_roundw
            case rel => exact ⟨k + 1, by omega, by go_num, by rw [HS.out], hB1.out, Dvs.first_zero HF.out he⟩
            case measure => simp [intOf]; omega
      · have he := HN.out hn
        have HA := hideIt (Dvs.first_hit HF.out (by rw [he]; decide) hlt)
        go_wp2_with fail
        refine (name_any _ _).mono ?_
        rintro e w1 ⟨rfl, rfl⟩
        rw [hn]
        go_wp2_with fail
        go_ret
        exact ⟨by rw [HA.out, he]; rfl, hB1.out⟩
    · have hke : k = ds.length := by omega
      subst hke
      have hB1 := hideIt hB
      clear hB
      go_wp2_with fail
      go_ret
      exact ⟨by rw [HF.out]; rfl, hB1.out⟩
end Go.Proofs.YtlljniaobbbjgaaGreatDoor
namespace Go.Proofs.YtlljniaobbbjgaaGreatDoor
open Go.RowKit Go.Shelf
open Ost (splitC)
attribute [local go_sem] Oper.semAt_some
/-- The lines of a text, with their ends. -/
def linesN (s : List UInt8) : List (List UInt8) := (splitC 10 s).dropLast.map (· ++ [10]) ++ (if (splitC 10 s).getLast? = some [] then [] else [(splitC 10 s).getLastD []])
theorem linesN_nil : linesN [] = [] := rfl
theorem linesN_cut {a r : List UInt8} (h : (10 : UInt8) ∉ a) : linesN (a ++ 10 :: r) = (a ++ [10]) :: linesN r := by
  have hne := Ost.splitC_ne 10 r
  unfold linesN
  rw [Ost.splitC_cut 10 a r h]
  cases hs : splitC 10 r with
  | nil => exact absurd hs hne
  | cons x t => simp
theorem take_cut {r : List UInt8} {i : Nat} (h : r = r.take i ++ 10 :: r.drop (i + 1)) (hi : i < r.length) : r.take (i + 1) = r.take i ++ [10] := by
  rw [List.take_succ_eq_append_getElem hi]
  have h2 := List.drop_eq_getElem_cons hi
  have h3 : r.drop i = 10 :: r.drop (i + 1) := by
    have e := List.take_append_drop i r
    exact List.append_cancel_left (e.trans h)
  rw [h2] at h3
  injection h3 with h4 _
  rw [h4]
theorem linesN_last {r : List UInt8} (h : (10 : UInt8) ∉ r) (h0 : r ≠ []) : linesN r = [r] := by
  unfold linesN
  rw [Ost.splitC_none 10 r h]
  simp [h0]
def lnTs (s : List UInt8) : List (Array Value) := (linesN s).map fun (x : List UInt8) => #[Value.string ⟨x.toArray⟩]
theorem drop_head {α : Type} {l : List α} {k : Nat} {x : α} {t : List α} (h : x :: t = l.drop k) : ∃ hk : k < l.length, l[k] = x ∧ t = l.drop (k + 1) := by
  have hk : k < l.length := by
    refine Nat.lt_of_not_le fun hc => ?_
    rw [List.drop_eq_nil_of_le hc] at h; cases h
  rw [List.drop_eq_getElem_cons hk] at h
  injection h with h1 h2
  exact ⟨hk, h1.symm, h2⟩
theorem ln_at {s : List UInt8} {k : Nat} {x : List UInt8} (hk : k < (linesN s).length) (h : (linesN s)[k] = x) : ∃ hk : k < (lnTs s).length, (lnTs s)[k] = #[Value.string ⟨x.toArray⟩] := ⟨by simpa [lnTs] using hk, by simp only [lnTs, List.getElem_map, h]⟩
theorem ln_len (s : List UInt8) : (lnTs s).length = (linesN s).length := by simp [lnTs]
theorem lines_new (s : ByteArray) (w : World) : Calls Tryz.prog 68 #[.string s] w fun e w' =>
    e = .returned (.func (.func 88) #[] #[.pointer (some ⟨w.heap.size, 0, none⟩)]) ∧ w' = w.alloc (.cells #[.string s] 9) := by
  go_enter Tryz.func68, Tryz.ntmps68
  go_wp2_with fail
  go_ret
  exact ⟨rfl, rfl⟩
theorem Apart.drew (K : Nat → Prop) (W : World) : Apart K W W.drew := ⟨rfl, rfl, rfl, Nat.le_refl _, fun _ _ _ => rfl⟩
def strLen (W : World) (h : Nat) : Nat := match W.cell? ⟨h, 0, none⟩ with
  | some (.string b) => b.size
  | _ => 0
theorem strLen_at {W : World} {h : Nat} {s : List UInt8} (b : Boxed W h 9 (.string ⟨s.toArray⟩)) : strLen W h = s.length := by
  unfold strLen; rw [b.cell]; rfl
set_option maxRecDepth 100000 in
set_option maxHeartbeats 2000000 in
theorem lines_iter (n : Nat) (hn : 1 ≤ n) (h : Nat) (s : List UInt8) (w : World) (hb : Boxed w h 9 (.string ⟨s.toArray⟩)) (hl : s.length ≤ 1000000) :
    IterW Fence.wide n Tryz.prog 88 #[.pointer (some ⟨h, 0, none⟩)] (fun j => j = h) (lnTs s) w := by
  intro l J Jx W hW hJ hY h0
  have hbW : Boxed W h 9 (.string ⟨s.toArray⟩) := (hW h rfl).trans hb
  refine callsIn_of_wp Tryz.func88 rfl trivial ?_ rfl
  simp only [Tryz.ntmps88, List.size_toArray, List.length_cons, List.length_nil, Nat.reduceAdd, Nat.reduceSub, Array.replicate_succ, Array.replicate_zero, List.push_toArray, List.append_toArray, List.nil_append, List.cons_append]
  have HY := hideIt hY
  have HJ := hideIt hJ
  have HB := hideIt hbW
  have H0 := hideIt h0
  clear hY hJ hb hW h0 hbW
  gi_wp2_with fail
  gi_loopw [] (fun wr => ∃ k r, k ≤ (linesN s).length ∧ Boxed wr h 9 (.string ⟨r.toArray⟩) ∧ linesN r = (linesN s).drop k ∧ r.length ≤ s.length ∧ J k wr) (fun wr => strLen wr h)
  case atStart => exact ⟨0, s, Nat.zero_le _, HB.out, rfl, Nat.le_refl _, H0.out⟩
  case round =>
    obtain ⟨k, r, hkl, hbx, hsp, hle, hJk⟩ := hrel
    have hs1 := hbx.cell
    have hf := hbx.frozen
    have HBX := hideIt hbx
    have HRL := hideIt (strLen_at hbx)
    have hsz : (ByteArray.mk r.toArray).size = r.length := rfl
    by_cases hr0 : r = []
    · subst hr0
      have hke : k = (lnTs s).length := by
        rw [linesN_nil] at hsp
        have := List.drop_eq_nil_iff.1 hsp.symm
        rw [ln_len]; omega
      clear hbx hsp HY HJ hkl
      gi_wp2_with fail
      go_end0
      exact ⟨⟨_, rfl⟩, .inl (by rw [← hke]; exact hJk)⟩
    · have hpos : 0 < r.length := List.length_pos_iff.2 hr0
      have HX := hideIt (Tryz.strings_IndexByte ⟨r.toArray⟩ 10 wr)
      have e0 : (ByteArray.mk r.toArray).data.toList = r := by simp
      rw [e0, show ((10 : Int).toNat.toUInt8) = 10 from rfl] at HX
      clear hbx e0
      rcases indexByte_cases 10 r with ⟨hi, hni⟩ | ⟨i, hi, hil, h3, h4⟩
      · rw [linesN_last hni hr0] at hsp
        obtain ⟨hk, hx, ht⟩ := drop_head hsp
        obtain ⟨hk', hts⟩ := ln_at hk hx
        have HJ2 := hideIt (HJ.out k wr _ hJk (Apart.setCell (K := fun j => j = h) rfl wr 0 (.string ⟨#[]⟩)))
        have hy0 := HY.out k (wr.setCell ⟨h, 0, none⟩ (.string ⟨#[]⟩)) hk' HJ2.out
        obtain ⟨fn, tmps, assign, body, hy, hR⟩ := hy0
        rw [hts] at hy
        rw [hi] at HX
        have HBE := hideIt (HBX.out.set (.string ⟨([] : List UInt8).toArray⟩))
        clear hts hni hx hsp
        gi_wp2_with fail
        refine ⟨trivial, (callsIn_wide.2 HX.out).mono ?_⟩
        rintro e w1 ⟨rfl, rfl⟩
        gi_wp2_with fail
        refine hR.mono ?_
        rintro e W3 (⟨rfl, hJ3, hk3⟩ | ⟨rfl, hJx3⟩)
        · have hb3 : Boxed W3 h 9 (.string ⟨([] : List UInt8).toArray⟩) := (hk3 h rfl).trans HBE.out
          have HT := hideIt ht
          gi_wp2_with fail
          go_roundw
          case rel => exact ⟨k + 1, [], by omega, hb3, by rw [linesN_nil]; exact HT.out, Nat.zero_le _, hJ3⟩
          case measure => rw [strLen_at hb3, HRL.out]; exact hpos
        · gi_wp2_with fail
          refine bodyPost_ret (results_none rfl _ _ _) rfl ?_
          exact ⟨⟨_, rfl⟩, .inr hJx3⟩
      · have hT := hideIt (take_cut h3 hil)
        have hlt : i + 1 ≤ r.length := hil
        have hcut : linesN r = r.take (i + 1) :: linesN (r.drop (i + 1)) := by
          rw [hT.out]
          conv => lhs; rw [h3]
          exact linesN_cut h4
        rw [hcut] at hsp
        obtain ⟨hk, hx, ht⟩ := drop_head hsp
        obtain ⟨hk', hts⟩ := ln_at hk hx
        have HA := hideIt (show Apart (fun j => j = h) wr (wr.setCell ⟨h, 0, none⟩ (.string ⟨(r.drop (i + 1)).toArray⟩)).drew from (Apart.setCell (K := fun j => j = h) rfl wr 0 _).trans (Apart.drew _ _))
        have HBE := hideIt (show Boxed (wr.setCell ⟨h, 0, none⟩ (.string ⟨(r.drop (i + 1)).toArray⟩)).drew h 9 (.string ⟨(r.drop (i + 1)).toArray⟩) from HBX.out.set _)
        have hy0 := HY.out k _ hk' (HJ.out k wr _ hJk HA.out)
        obtain ⟨fn, tmps, assign, body, hy, hR⟩ := hy0
        rw [hts] at hy
        have HY2 := hideIt hy
        have HT := hideIt ht
        rw [hi] at HX
        clear hy hts hx hsp hcut ht HY HJ
        have hx1 := ext_take r (i + 1)
        have hx2 := ext_drop r (i + 1)
        clear h3 h4 hi
        gi_wp2_with fail
        refine ⟨trivial, (callsIn_wide.2 HX.out).mono ?_⟩
        rintro e w1 ⟨rfl, rfl⟩
        gi_wp2_with fail
        gi_region
        generalize hW2 : (w1.setCell ⟨h, 0, none⟩ (.string ⟨(r.drop (i + 1)).toArray⟩)).drew = W2 at *
        have hy := HY2.out
        clear hs1 hf HX HBX hJk hW2
        gi_wp2_with fail
        refine hR.mono ?_
        rintro e W3 (⟨rfl, hJ3, hk3⟩ | ⟨rfl, hJx3⟩)
        · have hb3 : Boxed W3 h 9 (.string ⟨(r.drop (i + 1)).toArray⟩) := (hk3 h rfl).trans HBE.out
          gi_wp2_with fail
          go_roundw
          case rel => exact ⟨k + 1, r.drop (i + 1), by omega, hb3, HT.out, by rw [List.length_drop]; omega, hJ3⟩
          case measure => rw [strLen_at hb3, HRL.out, List.length_drop]; omega
        · gi_wp2_with fail
          refine bodyPost_ret (results_none rfl _ _ _) rfl ?_
          exact ⟨⟨_, rfl⟩, .inr hJx3⟩
end Go.Proofs.YtlljniaobbbjgaaGreatDoor
namespace Go.Proofs.YtlljniaobbbjgaaGreatDoor
open Go.RowKit
theorem grown_setV (W : World) (b j : Nat) (v : Value) : W.grownBy (W.setCell ⟨b, j, none⟩ v) (some b) :=
  ⟨rfl, rfl, rfl, by simp, fun k hk hne => by
    have hb : b ≠ k := fun e => hne (by rw [e])
    simp [World.setCell, Array.getElem?_modify, hb]⟩
/-- One block alone is turned. -/
def OnlyB (B : Nat) (w w' : World) : Prop := w.grownBy w' (some B) ∧ w'.heap.size = w.heap.size
theorem OnlyB.refl (B : Nat) (w : World) : OnlyB B w w := ⟨⟨rfl, rfl, rfl, Nat.le_refl _, fun _ _ _ => rfl⟩, rfl⟩
theorem OnlyB.set {B : Nat} {w w' : World} (h : OnlyB B w w') (j : Nat) (v : Value) : OnlyB B w (w'.setCell ⟨B, j, none⟩ v) := by
  obtain ⟨hg, hs⟩ := h
  have g2 := grown_setV w' B j v
  refine ⟨⟨g2.os.trans hg.os, g2.tape.trans hg.tape, g2.output.trans hg.output, Nat.le_trans hg.size g2.size, fun k hk hne => (g2.block k (by omega) hne).trans (hg.block k hk hne)⟩, ?_⟩
  rw [← hs]
  simp
theorem OnlyB.trans {B : Nat} {a b c : World} (h : OnlyB B a b) (h2 : OnlyB B b c) : OnlyB B a c := by
  obtain ⟨p, e⟩ := h
  obtain ⟨q, f⟩ := h2
  exact ⟨⟨q.os.trans p.os, q.tape.trans p.tape, q.output.trans p.output, Nat.le_trans p.size q.size, fun k hk hne => (q.block k (by omega) hne).trans (p.block k hk hne)⟩, f.trans e⟩
theorem cells_set {w : World} {B : Nat} {arr : Array Value} {t : TypeId} (h : w.heap[B]? = some (.cells arr t (0, 0))) (j : Nat) (v : Value) : (w.setCell ⟨B, j, none⟩ v).heap[B]? = some (.cells (arr.setIfInBounds j v) t (0, 0)) := by
  obtain ⟨hlt, hk⟩ := Array.getElem?_eq_some_iff.1 h
  show (w.heap.modify B _)[B]? = _
  rw [Array.getElem?_eq_getElem (by rw [Array.size_modify]; exact hlt), Array.getElem_modify_self, hk]
  rfl
/-- A disk in memory: what is read, what is kept, what waits, what is left, whether it is down. -/
def DiskW (w : World) (B : Nat) (n k : Sd) (v : Value) (l : Int) (d : Bool) : Prop := w.heap[B]? = some (.cells #[.bool n.ft, .string n.fb, .bool n.dt, .string n.db, .bool k.ft, .string k.fb, .bool k.dt, .string k.db, v, .int .i64 l, .bool d] 93 (0, 0))
section
variable {w : World} {B : Nat} {n k : Sd} {v : Value} {l : Int} {d : Bool}
theorem DiskW.lt (h : DiskW w B n k v l d) : B < w.heap.size := (Array.getElem?_eq_some_iff.1 h).1
theorem DiskW.now (h : DiskW w B n k v l d) : w.cell? ⟨B, 0, none⟩ = some (.bool n.ft) ∧ w.cell? ⟨B, 1, none⟩ = some (.string n.fb) ∧ w.cell? ⟨B, 2, none⟩ = some (.bool n.dt) ∧ w.cell? ⟨B, 3, none⟩ = some (.string n.db) := by
  refine ⟨?_, ?_, ?_, ?_⟩ <;> simp [World.cell?, show w.heap[B]? = _ from h]
theorem DiskW.kept (h : DiskW w B n k v l d) : w.cell? ⟨B, 4, none⟩ = some (.bool k.ft) ∧ w.cell? ⟨B, 5, none⟩ = some (.string k.fb) ∧ w.cell? ⟨B, 6, none⟩ = some (.bool k.dt) ∧ w.cell? ⟨B, 7, none⟩ = some (.string k.db) := by
  refine ⟨?_, ?_, ?_, ?_⟩ <;> simp [World.cell?, show w.heap[B]? = _ from h]
theorem DiskW.rest (h : DiskW w B n k v l d) : w.cell? ⟨B, 8, none⟩ = some v ∧ w.cell? ⟨B, 9, none⟩ = some (.int .i64 l) ∧ w.cell? ⟨B, 10, none⟩ = some (.bool d) := by
  refine ⟨?_, ?_, ?_⟩ <;> simp [World.cell?, show w.heap[B]? = _ from h]
theorem DiskW.frozen (h : DiskW w B n k v l d) (j : Nat) : w.frozen? ⟨B, j, none⟩ = false := by simp [World.frozen?, show w.heap[B]? = _ from h]
theorem DiskW.set8 (h : DiskW w B n k v l d) (v' : Value) : DiskW (w.setCell ⟨B, 8, none⟩ v') B n k v' l d := cells_set h 8 v'
theorem DiskW.set9 (h : DiskW w B n k v l d) (l' : Int) : DiskW (w.setCell ⟨B, 9, none⟩ (.int .i64 l')) B n k v l' d := cells_set h 9 _
theorem DiskW.set10 (h : DiskW w B n k v l d) (d' : Bool) : DiskW (w.setCell ⟨B, 10, none⟩ (.bool d')) B n k v l d' := cells_set h 10 _
/-- Four cells, written one behind the other. -/
def putS (w : World) (B i : Nat) (s : Sd) : World := (((w.setCell ⟨B, i, none⟩ (.bool s.ft)).setCell ⟨B, i + 1, none⟩ (.string s.fb)).setCell ⟨B, i + 2, none⟩ (.bool s.dt)).setCell ⟨B, i + 3, none⟩ (.string s.db)
theorem DiskW.setNow (h : DiskW w B n k v l d) (s : Sd) : DiskW (putS w B 0 s) B s k v l d := cells_set (cells_set (cells_set (cells_set h 0 _) 1 _) 2 _) 3 _
theorem DiskW.setKept (h : DiskW w B n k v l d) (s : Sd) : DiskW (putS w B 4 s) B n s v l d := cells_set (cells_set (cells_set (cells_set h 4 _) 5 _) 6 _) 7 _
theorem OnlyB.putS {w w' : World} {B : Nat} (h : OnlyB B w w') (i : Nat) (s : Sd) : OnlyB B w (putS w' B i s) := (((h.set i _).set (i + 1) _).set (i + 2) _).set (i + 3) _
theorem DiskW.block {w' : World} (h : DiskW w B n k v l d) (he : w'.heap[B]? = w.heap[B]?) : DiskW w' B n k v l d := he.trans h
end
/-- Err a step has, what is left, whether it is down. -/
def stepE (l : Int) (d : Bool) : Nat := if d = true ∨ l = 0 then 11 else 0
def stepN (l : Int) (d : Bool) : Int := if d = true ∨ l = 0 then l else if 0 < l then l - 1 else l
def stepF (l : Int) (d : Bool) : Bool := decide (d = true ∨ l = 0)
set_option maxRecDepth 100000 in
set_option maxHeartbeats 1000000 in
theorem stepW_any (B : Nat) (n k : Sd) (v : Value) (l : Int) (d : Bool) (w : World) (h : DiskW w B n k v l d) (hl : -9223372036854775808 ≤ l ∧ l ≤ 9223372036854775807) : Calls Tryz.prog 66 #[.pointer (some ⟨B, 0, none⟩)] w fun e w' => e = .returned (errV ((stepE l d : Nat) : Int)) ∧ DiskW w' B n k v (stepN l d) (stepF l d) ∧ OnlyB B w w' := by
  obtain ⟨_, c9, c10⟩ := h.rest
  have f9 := h.frozen 9
  have f10 := h.frozen 10
  by_cases h0 : l = 0
  · subst h0
    obtain ⟨_, e9, e10⟩ := (h.set10 true).rest
    have HZ := hideIt (h.set10 true)
    have HO := hideIt ((OnlyB.refl B w).set 10 (.bool true))
    clear h
    go_enter Tryz.func66, Tryz.ntmps66
    go_wp2_with fail
    go_ret
    exact ⟨by simp [stepE, errV], by simpa [stepN, stepF] using HZ.out, HO.out⟩
  · cases d with
    | true =>
      have HZ := hideIt h
      have hb : (l == 0) = false := by simp [h0]
      clear h
      go_enter Tryz.func66, Tryz.ntmps66
      go_wp2_with fail
      go_ret
      exact ⟨by simp [stepE, errV], by simpa [stepN, stepF] using HZ.out, OnlyB.refl _ _⟩
    | false =>
      have hb : (l == 0) = false := by simp [h0]
      by_cases hp : 0 < l
      · have hw : wrap64 (l - 1) = l - 1 := by unfold wrap64; omega
        have HZ := hideIt (h.set9 (l - 1))
        have HO := hideIt ((OnlyB.refl B w).set 9 (.int .i64 (l - 1)))
        clear h
        go_enter Tryz.func66, Tryz.ntmps66
        go_wp2_with fail
        go_ret
        exact ⟨by simp [stepE, errV, h0], by simpa [stepN, stepF, h0, hp] using HZ.out, HO.out⟩
      · have HZ := hideIt h
        have hp' : l ≤ 0 := by omega
        have HE : Hid (stepN l false = l) := by unfold Hid stepN; rw [if_neg (by simp [h0]), if_neg hp]
        clear h
        go_enter Tryz.func66, Tryz.ntmps66
        go_wp2_with fail
        go_ret
        exact ⟨by simp [stepE, errV, h0], by rw [HE.out]; simpa [stepF, h0] using HZ.out, OnlyB.refl _ _⟩
/-- What is read. -/
def readW (n : Sd) (d : Bool) : Value := if d = true then .tuple #[.string ⟨#[]⟩, .iface 80 (.int .i64 11)] else if n.ft = true then .tuple #[.string n.fb, .nilIface] else .tuple #[.string ⟨#[]⟩, .iface 80 (.int .i64 6)]
set_option maxRecDepth 100000 in
set_option maxHeartbeats 1000000 in
theorem readW_any (B : Nat) (n k : Sd) (v : Value) (l : Int) (d : Bool) (w : World) (h : DiskW w B n k v l d) : Calls Tryz.prog 38 #[.pointer (some ⟨B, 0, none⟩)] w fun e w' => e = .returned (readW n d) ∧ w' = w := by
  obtain ⟨_, c9, c10⟩ := h.rest
  obtain ⟨c0, c1, _, _⟩ := h.now
  obtain ⟨ft, fb, dt, db⟩ := n
  dsimp only at c0 c1
  unfold readW
  clear h
  cases d with
  | true =>
    go_enter Tryz.func38, Tryz.ntmps38
    go_wp2_with fail
    go_ret2
    exact ⟨rfl, rfl⟩
  | false =>
    cases ft with
    | true =>
      go_enter Tryz.func38, Tryz.ntmps38
      go_wp2_with fail
      go_ret2
      exact ⟨rfl, rfl⟩
    | false =>
      go_enter Tryz.func38, Tryz.ntmps38
      go_wp2_with fail
      go_ret2
      exact ⟨rfl, rfl⟩
set_option maxRecDepth 100000 in
set_option maxHeartbeats 1000000 in
theorem armW_any (B : Nat) (n k : Sd) (v : Value) (l m : Int) (d : Bool) (w : World) (h : DiskW w B n k v l d) : Calls Tryz.prog 22 #[.pointer (some ⟨B, 0, none⟩), .int .i64 m] w fun e w' => e = .returned (.tuple #[]) ∧ DiskW w' B n k v m d ∧ OnlyB B w w' := by
  obtain ⟨_, c9, c10⟩ := h.rest
  have f9 := h.frozen 9
  have HZ := hideIt (h.set9 m)
  have HO := hideIt ((OnlyB.refl B w).set 9 (.int .i64 m))
  clear h
  go_enter Tryz.func22, Tryz.ntmps22
  go_wp2_with fail
  go_end0
  exact ⟨rfl, HZ.out, HO.out⟩
end Go.Proofs.YtlljniaobbbjgaaGreatDoor
namespace Go.Proofs.YtlljniaobbbjgaaGreatDoor
open Go.RowKit
open Dvs (Dv dv0 dv nth)
/-- It answers yes or no. -/
def Ans (e : Ending) : Prop := ∃ b, e = .returned (.bool b)
set_option maxRecDepth 100000 in
set_option maxHeartbeats 2000000 in
theorem lightPod_any (nm : ByteArray) (pr : Int) (cv : Value) (w : World) (h : RowsOf w cv 6 (contP w)) : Calls Tryz.prog 25 #[.agg #[.string nm, .int .i64 pr, cv]] w fun e w' => Ans e ∧ Below w.heap.size w w' := by
  have HB0 := hideIt ((Below.refl w.heap.size w).alloc (Nat.le_refl _) (.cells #[.string nm, .int .i64 pr, cv] 59))
  have HH := hideIt h
  obtain ⟨ao, len, c, rfl, hm, _⟩ := h
  clear hm
  by_cases h30 : 30 < nm.size
  · go_enter Tryz.func25, Tryz.ntmps25
    go_wp2_with fail
    go_ret
    exact ⟨⟨_, rfl⟩, HB0.out⟩
  have h30' : nm.size ≤ 30 := by omega
  clear h30
  by_cases h5 : 5 < len
  · go_enter Tryz.func25, Tryz.ntmps25
    go_wp2_with fail
    go_ret
    exact ⟨⟨_, rfl⟩, HB0.out⟩
  have h5' : len ≤ 5 := by omega
  have hd1 : decide (30 < (nm.size : Int)) = false := decide_eq_false (by omega)
  have hd2 : decide (5 < (len : Int)) = false := decide_eq_false (by omega)
  clear h5 h30'
  go_enter Tryz.func25, Tryz.ntmps25
  go_wp2_with fail
  go_loopw [3] (fun i wr => ∃ k : Nat, k ≤ len ∧ i = .int .i64 k ∧ Below w.heap.size w wr ∧ wr.cell? ⟨w.heap.size, 2, none⟩ = some (.slice ao len c)) (fun i _ => len - (intOf i).toNat)
  case atStart => exact ⟨0, by omega, rfl, HB0.out, by simp⟩
  case round =>
    obtain ⟨k, hk, rfl, hB, hcv⟩ := hrel
    by_cases hlt : k < len
    · obtain ⟨ao', len', c', hv, _, hr⟩ := HH.out.below hB fun _ h => h.below hB
      cases hv
      obtain ⟨b, o, rfl, hlb, hcs⟩ := hr (by omega)
      obtain ⟨cs, _, hc, cn, x1, x2, x3, x4, dv, rfl, hdv⟩ := hcs k hlt
      have c0 : wr.cell? ⟨b, o + k * 6, none⟩ = some (.string cn) := hc 0 (by decide)
      have c1 : wr.cell? ⟨b, o + k * 6 + 1, none⟩ = some (.int .i64 x1) := hc 1 (by decide)
      have c2 : wr.cell? ⟨b, o + k * 6 + 2, none⟩ = some (.int .i64 x2) := hc 2 (by decide)
      have c3 : wr.cell? ⟨b, o + k * 6 + 3, none⟩ = some (.int .i64 x3) := hc 3 (by decide)
      have c4 : wr.cell? ⟨b, o + k * 6 + 4, none⟩ = some (.int .i64 x4) := hc 4 (by decide)
      have c5 : wr.cell? ⟨b, o + k * 6 + 5, none⟩ = some dv := hc 5 (by decide)
      have hB1 := hideIt (hB.alloc hB.size (.cells #[.string cn, .int .i64 x1, .int .i64 x2, .int .i64 x3, .int .i64 x4, dv] 56))
      have HD := hideIt (hdv.below ((Below.refl wr.heap.size wr).alloc (Nat.le_refl _) (.cells #[.string cn, .int .i64 x1, .int .i64 x2, .int .i64 x3, .int .i64 x4, dv] 56)) fun _ h => h)
      have hcv1 := Lib.cell?_alloc_some (.cells #[.string cn, .int .i64 x1, .int .i64 x2, .int .i64 x3, .int .i64 x4, dv] 56) hcv
      have hsz := hB.size
      obtain ⟨da, dl, dc, rfl, _, _⟩ := hdv
      clear hc hcs hr hB
      by_cases g30 : 30 < cn.size
      · go_wp2_with fail
        go_ret
        exact ⟨⟨_, rfl⟩, hB1.out⟩
      have g30' : cn.size ≤ 30 := by omega
      clear g30
      by_cases g5 : 5 < dl
      · go_wp2_with fail
        go_ret
        exact ⟨⟨_, rfl⟩, hB1.out⟩
      have g5' : dl ≤ 5 := by omega
      have e1 : decide (30 < (cn.size : Int)) = false := decide_eq_false (by omega)
      have e2 : decide (5 < (dl : Int)) = false := decide_eq_false (by omega)
      clear g5 g30'
      go_wp2_with fail
      go_loop [5] (fun i => ∃ q : Nat, q ≤ dl ∧ i = .int .i64 q) (fun i => dl - (intOf i).toNat)
      case atStart => exact ⟨0, by omega, rfl⟩
      case round =>
        obtain ⟨q, hq, rfl⟩ := hrel
        by_cases hql : q < dl
        · obtain ⟨ao2, len2, c2', hv2, _, hr2⟩ := HD.out
          cases hv2
          obtain ⟨b2, o2, rfl, hlb2, hcs2⟩ := hr2 (by omega)
          obtain ⟨cs2, _, hc2, s2, y2, rfl⟩ := hcs2 q hql
          have d0 := hc2 0 (by decide)
          simp only [Nat.add_zero, List.getElem?_cons_zero] at d0
          clear hc2 hcs2 hr2
          by_cases k30 : 30 < s2.size
          · go_wp2_with fail
            go_ret
            exact ⟨⟨_, rfl⟩, hB1.out⟩
          have k30' : s2.size ≤ 30 := by omega
          clear k30
          go_wp2_with fail
          go_round
          case rel => exact ⟨q + 1, by omega, by go_num⟩
          case measure => simp [intOf]; omega
        · have hqe : q = dl := by omega
          subst hqe
          go_wp2_with fail
          go_roundw
          case rel => exact ⟨k + 1, by omega, by go_num, hB1.out, hcv1⟩
          case measure => simp [intOf]; omega
    · have hke : k = len := by omega
      subst hke
      have hB1 := hideIt hB
      clear hB
      go_wp2_with fail
      go_ret
      exact ⟨⟨_, rfl⟩, hB1.out⟩
end Go.Proofs.YtlljniaobbbjgaaGreatDoor
namespace Go.Proofs.YtlljniaobbbjgaaGreatDoor.S1
open Go.RowKit
theorem text_any (A : Nat) (w : World) (hA : A < 18446744073709551616) :
    Calls Tryz.prog 59 #[.int .u64 A] w fun e w' => e = .returned (.string ⟨(Ost.txt A).toArray⟩) ∧ Below w.heap.size w w' :=
  text_loop A w hA (fun v w1 h _ => join_own v (txts A 64) w1 w.heap.size h (Nat.le_trans (txts_len A 64) (by omega)) (Nat.le_trans (Ost.txt_len A) (by omega)))
theorem txt6 : Ost.txt 6 = [49, 45, 50] := by
  have e : Ost.spansTo 6 64 = [(1, 2)] := by decide +kernel
  unfold Ost.txt Ost.joined
  rw [e]
  have d1 : Lib.decDigits 1 = [49] := by rw [Lib.decDigits_one (by omega)]; decide
  have d2 : Lib.decDigits 2 = [50] := by rw [Lib.decDigits_one (by omega)]; decide
  simp [Ost.spanTxt, d1, d2, Lib.join, List.intercalate]
def intsOf (l : List Nat) : List Int := l.map fun (n : Nat) => (n : Int)
theorem intsAt_row {w : World} {base : Nat} {v : Value} (l : List Nat) (h : w.ownsRow base 3 1 v l.length (nums l)) : IntsAt w v (intsOf l) := by
  rcases ownsRow_cells h with ⟨rfl, h0⟩ | ⟨g, cap, rfl, _, _, hc⟩
  · have : l = [] := List.eq_nil_of_length_eq_zero h0
    subst this
    exact .inl ⟨rfl, none, 0, rfl⟩
  · refine .inr ⟨g, 0, cap, by simp [intsOf], fun k hk => ?_⟩
    have hk2 : k < l.length := by simpa [intsOf] using hk
    rw [Nat.zero_add]
    apply hc
    simp [nums, intsOf, hk2]
theorem listTo_bits (A k : Nat) (hk : k ≤ 64) : (intsOf (Ost.listTo A k)).all inSet = true ∧ ∀ i, (orBits (intsOf (Ost.listTo A k))).testBit i = (A.testBit i && decide (i < k)) := by
  induction k with
  | zero => exact ⟨rfl, fun i => by simp [Ost.listTo, intsOf, orBits]⟩
  | succ k ih =>
    obtain ⟨h1, h2⟩ := ih (by omega)
    rw [Ost.listTo_succ]
    by_cases hb : A.testBit k = true
    · rw [if_pos hb]
      have e : intsOf (Ost.listTo A k ++ [k]) = intsOf (Ost.listTo A k) ++ [(k : Int)] := by simp [intsOf]
      rw [e]
      refine ⟨?_, fun i => ?_⟩
      · rw [List.all_append, h1]
        have : inSet (k : Int) = true := by unfold inSet; exact decide_eq_true (by omega)
        simp [this]
      · rw [orBits_snoc, Nat.testBit_or, h2, Int.toNat_natCast, Nat.testBit_two_pow]
        by_cases hik : k = i
        · subst hik; simp [hb]
        · have : decide (i < k) = decide (i < k + 1) := by
            by_cases h3 : i < k
            · rw [decide_eq_true h3, decide_eq_true (by omega)]
            · rw [decide_eq_false h3, decide_eq_false (by omega)]
          rw [this, decide_eq_false hik]; simp
    · rw [if_neg hb]
      refine ⟨h1, fun i => ?_⟩
      rw [h2]
      by_cases hik : i = k
      · subst hik; simp [show A.testBit i = false by simpa using hb]
      · have : decide (i < k) = decide (i < k + 1) := by
          by_cases h3 : i < k
          · rw [decide_eq_true h3, decide_eq_true (by omega)]
          · rw [decide_eq_false h3, decide_eq_false (by omega)]
        rw [this]
theorem of_list (A : Nat) (hA : A < 18446744073709551616) : ofOut (intsOf (Ost.listTo A 64)) = (A, 0) := by
  obtain ⟨h1, h2⟩ := listTo_bits A 64 (Nat.le_refl _)
  unfold ofOut
  rw [if_pos h1]
  congr 1
  apply Nat.eq_of_testBit_eq
  intro i
  rw [h2]
  by_cases hi : i < 64
  · rw [decide_eq_true hi, Bool.and_true]
  · rw [Ost.bit_high A hA i (by omega)]; rfl
theorem parse_c (s : ByteArray) (p : Nat) (f : Int) (w : World) (hs2 : s.size ≤ maxLen) (hm : Mx w) (h : Ost.parseOut s.data.toList = (p, f)) :
    Calls Tryz.prog 122 #[.string s] w fun e w' => e = .returned (.tuple #[.int .u64 (p : Nat), errV f]) ∧ Below w.heap.size w w' := by
  have := parse_any s w hs2 hm
  rw [h] at this; exact this
theorem and_lt64 (A B : Nat) (hA : A < 18446744073709551616) : A &&& B < 18446744073709551616 := Nat.lt_of_le_of_lt Nat.and_le_left hA
theorem txt_size (A : Nat) : (ByteArray.mk (Ost.txt A).toArray).size ≤ maxLen := by
  have := Ost.txt_len A
  show (Ost.txt A).toArray.size ≤ _
  unfold maxLen; simp; omega
end Go.Proofs.YtlljniaobbbjgaaGreatDoor.S1
namespace Go.Proofs
open Go.Shelf
shelf_lay_g SlLaysH0.n8 Slgf 8 at Tryz 108 as Tryz.contL
end Go.Proofs
namespace Go.Proofs.YtlljniaobbbjgaaGreatDoor
open Go.RowKit
open Qos (Nd Ct Pd nd0 ct0 pd0 nd ct pd needF contF podF amtOk over twice leS)
open Dvs (nameMay first)
instance : Inhabited (Ct × Value) := ⟨⟨ct0, .nilIface⟩⟩
theorem eq_str (a b : ByteArray) : (a.toList == b.toList) = decide (a = b) := by
  rw [Bool.eq_iff_iff, beq_iff_eq, decide_eq_true_iff, ByteArray.toList_eq, ByteArray.toList_eq]
  exact ⟨fun h => ByteArray.ext (Array.toList_inj.mp h), fun h => by rw [h]⟩
set_option maxHeartbeats 400000 in
theorem sameName_pred (nm : ByteArray) (B : Nat) (w : World) (hB : B < w.heap.size) (hcell : w.cell? ⟨B, 0, none⟩ = some (.string nm)) :
    PredBelow Tryz.prog 109 #[.pointer (some ⟨B, 0, none⟩)] (fun x : Ct × Value => .agg (contCells x.1 x.2).toArray) (fun x => decide (x.1.nm = nm)) w := fun W x hb => by
  have hc : W.cell? ⟨B, 0, none⟩ = some (.string nm) := (hb.cell (p := ⟨B, 0, none⟩) hB).trans hcell
  have hBW : B < W.heap.size := Nat.lt_of_lt_of_le hB hb.size
  have hne : B ≠ W.heap.size := by omega
  obtain ⟨x, dv⟩ := x
  have HX := hideIt (eq_str x.nm nm)
  show Calls Tryz.prog 109 #[.agg #[.string x.nm, .int .i64 x.am, .int .i64 x.ab, .int .i64 x.cm, .int .i64 x.cb, dv], .pointer (some ⟨B, 0, none⟩)] W _
  show Calls Tryz.prog 109 _ W fun e w' => e = .returned (.bool (decide (x.nm = nm))) ∧ Below w.heap.size w w'
  rw [← HX.out]
  have HB := hideIt (hb.alloc hb.size (.cells #[.string x.nm, .int .i64 x.am, .int .i64 x.ab, .int .i64 x.cm, .int .i64 x.cb, dv] 56))
  clear hb
  go_enter Tryz.func109, Tryz.ntmps109
  go_wp2_with fail
  go_ret
  exact ⟨rfl, HB.out⟩
theorem any_fst (cs : List Ct) (dv : Nat → Value) (k : Nat) (q : Ct → Bool) : ((((List.range cs.length).map fun j => (ct cs j, dv j)).take k).any fun x => q x.1) = (cs.take k).any q := by
  have e : ((List.range cs.length).map fun j => (ct cs j, dv j)).map Prod.fst = cs := by
    rw [List.map_map]
    apply List.ext_getElem
    · simp
    · intro i h1 h2
      simp [ct, h2]
  have h : (cs.take k) = (((List.range cs.length).map fun j => (ct cs j, dv j)).take k).map Prod.fst := by rw [List.map_take, e]
  rw [h, List.any_map]
  rfl
theorem has_twice (b o c B k : Nat) (cs : List Ct) (dv : Nat → Value) (w : World) (h : ConsIn w b o cs dv) (hk : k < cs.length) (hl : cs.length ≤ maxLen) (hB : B < w.heap.size) (hcell : w.cell? ⟨B, 0, none⟩ = some (.string (ct cs k).nm)) :
    Calls Tryz.prog 108 #[.slice (some ⟨b, o, none⟩) k c, .func (.func 109) #[] #[.pointer (some ⟨B, 0, none⟩)]] w fun e w' => e = .returned (.bool (twice cs k)) ∧ Below w.heap.size w w' := by
  have eg : ∀ args w, (callFunc 109 args).run Tryz.prog w = .ok (.enter 109 args) w := enters_of Tryz.func109 (by kernel_rfl) rfl
  have hcon := AnyQ.slices_ContainsFunc Tryz.contL 6 Tryz.isAgg56 Tryz.sizeOf56 (fun x : Ct × Value => contCells x.1 x.2) (fun _ => rfl) (fun x => decide (x.1.nm = (ct cs k).nm)) 109 #[.pointer (some ⟨B, 0, none⟩)] eg b o k c ((List.range cs.length).map fun j => (ct cs j, dv j)) w
    (sameName_pred (ct cs k).nm B w hB hcell) (by simp; omega) (by unfold maxLen at hl; omega) h.1 (fun j hj i v hi => by
      have hj' : j < cs.length := by simpa using hj
      have e : ((List.range cs.length).map fun j => (ct cs j, dv j))[j]! = (ct cs j, dv j) := by simp [hj']
      rw [e] at hi
      have h6 : i < 6 := by
        have := (List.getElem?_eq_some_iff.1 hi).1
        simpa [contCells] using this
      rw [(h.2 j hj').1 i h6]
      exact hi)
  change Calls Tryz.prog 108 _ _ _ at hcon
  rw [any_fst cs dv k (fun x => decide (x.nm = (ct cs k).nm))] at hcon
  exact hcon
theorem contF_1 {cs : List Ct} {k : Nat} (h : nameMay (ct cs k).nm = false) : contF cs k = 3 := by unfold contF; rw [if_pos h]
theorem contF_2 {cs : List Ct} {k : Nat} (h : nameMay (ct cs k).nm = true) (h2 : twice cs k = true) : contF cs k = 5 := by unfold contF; rw [if_neg (by rw [h]; decide), if_pos h2]
theorem contF_3 {cs : List Ct} {k : Nat} (h : nameMay (ct cs k).nm = true) (h2 : twice cs k = false) (h3 : amtOk (ct cs k).am (ct cs k).ab = false ∨ amtOk (ct cs k).cm (ct cs k).cb = false) : contF cs k = 1 := by
  unfold contF; rw [if_neg (by rw [h]; decide), if_neg (by rw [h2]; decide), if_pos h3]
theorem contF_4 {cs : List Ct} {k : Nat} (h : nameMay (ct cs k).nm = true) (h2 : twice cs k = false) (h3 : amtOk (ct cs k).am (ct cs k).ab = true) (h3' : amtOk (ct cs k).cm (ct cs k).cb = true) (h4 : over (ct cs k).am (ct cs k).cm = true ∨ over (ct cs k).ab (ct cs k).cb = true) : contF cs k = 3 := by
  unfold contF; rw [if_neg (by rw [h]; decide), if_neg (by rw [h2]; decide), if_neg (by rw [h3, h3']; decide), if_pos h4]
theorem contF_5 {cs : List Ct} {k : Nat} (h : nameMay (ct cs k).nm = true) (h2 : twice cs k = false) (h3 : amtOk (ct cs k).am (ct cs k).ab = true) (h3' : amtOk (ct cs k).cm (ct cs k).cb = true) (h4 : over (ct cs k).am (ct cs k).cm = false) (h4' : over (ct cs k).ab (ct cs k).cb = false) : contF cs k = (if 3 < (ct cs k).ds.length then (2 : Nat) else first (needF (ct cs k).ds) (ct cs k).ds.length : Nat) := by
  unfold contF; rw [if_neg (by rw [h]; decide), if_neg (by rw [h2]; decide), if_neg (by rw [h3, h3']; decide), if_neg (by rw [h4, h4']; decide)]
/-- A container's cells, boxed. -/
theorem boxed (w : World) (x : Ct) (d : Value) : (w.alloc (.cells #[.string x.nm, .int .i64 x.am, .int .i64 x.ab, .int .i64 x.cm, .int .i64 x.cb, d] 56)).cell? ⟨w.heap.size, 0, none⟩ = some (.string x.nm) := by simp
/-- A container lies boxed. -/
def BoxAt (W : World) (B : Nat) (x : Ct) (d : Value) : Prop := B < W.heap.size ∧ W.cell? ⟨B, 0, none⟩ = some (.string x.nm) ∧ W.cell? ⟨B, 1, none⟩ = some (.int .i64 x.am) ∧ W.cell? ⟨B, 2, none⟩ = some (.int .i64 x.ab) ∧ W.cell? ⟨B, 3, none⟩ = some (.int .i64 x.cm) ∧ W.cell? ⟨B, 4, none⟩ = some (.int .i64 x.cb) ∧ W.cell? ⟨B, 5, none⟩ = some d
theorem BoxAt.made (w : World) (x : Ct) (d : Value) : BoxAt (w.alloc (.cells #[.string x.nm, .int .i64 x.am, .int .i64 x.ab, .int .i64 x.cm, .int .i64 x.cb, d] 56)) w.heap.size x d := by
  refine ⟨by simp, by simp, by simp, by simp, by simp, by simp, by simp⟩
theorem BoxAt.below {W W' : World} {B : Nat} {x : Ct} {d : Value} (h : BoxAt W B x d) (hb : Below W.heap.size W W') : BoxAt W' B x d := by
  obtain ⟨h0, h1, h2, h3, h4, h5, h6⟩ := h
  exact ⟨Nat.lt_of_lt_of_le h0 hb.size, (hb.cell (p := ⟨B, 0, none⟩) h0).trans h1, (hb.cell (p := ⟨B, 1, none⟩) h0).trans h2, (hb.cell (p := ⟨B, 2, none⟩) h0).trans h3, (hb.cell (p := ⟨B, 3, none⟩) h0).trans h4, (hb.cell (p := ⟨B, 4, none⟩) h0).trans h5, (hb.cell (p := ⟨B, 5, none⟩) h0).trans h6⟩
set_option maxRecDepth 100000 in
set_option maxHeartbeats 2000000 in
theorem checkCont_any (b o c k : Nat) (cs : List Ct) (dv : Nat → Value) (w : World) (h : ConsIn w b o cs dv) (hk : k < cs.length) (hl : cs.length ≤ maxLen) :
    Calls Tryz.prog 85 #[.agg #[.string (ct cs k).nm, .int .i64 (ct cs k).am, .int .i64 (ct cs k).ab, .int .i64 (ct cs k).cm, .int .i64 (ct cs k).cb, dv k], .slice (some ⟨b, o, none⟩) k c] w fun e w' => e = .returned (errV (contF cs k : Nat)) ∧ Below w.heap.size w w' := by
  have hB0 := (Below.refl w.heap.size w).alloc (Nat.le_refl _) (.cells #[.string (ct cs k).nm, .int .i64 (ct cs k).am, .int .i64 (ct cs k).ab, .int .i64 (ct cs k).cm, .int .i64 (ct cs k).cb, dv k] 56)
  have HT := hideIt (has_twice b o c w.heap.size k cs dv _ (h.below hB0) hk hl (by simp) (boxed w (ct cs k) (dv k)))
  have HN := hideIt (h.2 k hk).2
  have HB0 := hideIt hB0
  have H1 := hideIt (@contF_1 cs k)
  have H2 := hideIt (@contF_2 cs k)
  have H3 := hideIt (@contF_3 cs k)
  have H4 := hideIt (@contF_4 cs k)
  have H5 := hideIt (@contF_5 cs k)
  clear h hk hl hB0
  generalize contF cs k = F at *
  generalize twice cs k = T at *
  generalize ct cs k = x at *
  generalize dv k = d at *
  rcases two (nameMay x.nm) with hn | hn
  · rcases two T with ht | ht
    · have he := H2.out hn ht
      subst ht
      go_enter Tryz.func85, Tryz.ntmps85
      go_wp2_with fail
      refine (name_any _ _).mono ?_
      rintro e w1 ⟨rfl, rfl⟩
      rw [hn]
      go_wp2_with fail
      refine HT.out.mono ?_
      rintro e w1 ⟨rfl, hb1⟩
      go_wp2_with fail
      go_ret
      exact ⟨by rw [he]; rfl, HB0.out.trans (hb1.mono HB0.out.size)⟩
    · subst ht
      have K3 := hideIt (H3.out hn rfl)
      have K4 := hideIt (H4.out hn rfl)
      have K5 := hideIt (H5.out hn rfl)
      clear H1 H2 H3 H4 H5
      go_enter Tryz.func85, Tryz.ntmps85
      go_wp2_with fail
      refine (name_any _ _).mono ?_
      rintro e w1 ⟨rfl, rfl⟩
      rw [hn]
      go_wp2_with fail
      refine HT.out.mono ?_
      rintro e w1 ⟨rfl, hb1⟩
      have HX1 := hideIt ((BoxAt.made w x d).below hb1)
      have HB1 := hideIt (HB0.out.trans (hb1.mono HB0.out.size))
      clear hb1 HT HB0
      generalize w.heap.size = B at HX1
      obtain ⟨l0, b0, b1, b2, b3, b4, b5⟩ := HX1.out
      go_wp2_with fail
      refine (bounded_any _ _ _).mono ?_
      rintro e w2 ⟨rfl, hb2⟩
      have HX2 := hideIt (HX1.out.below hb2)
      have HB2 := hideIt (HB1.out.trans (hb2.mono HB1.out.size))
      clear hb2 HX1 HB1 l0 b0 b1 b2 b3 b4 b5
      rcases two (amtOk x.am x.ab) with ha | ha
      · have K4 := hideIt (K4.out ha)
        have K5 := hideIt (K5.out ha)
        rw [ha]
        obtain ⟨l0, b0, b1, b2, b3, b4, b5⟩ := HX2.out
        go_wp2_with fail
        refine (bounded_any _ _ _).mono ?_
        rintro e w3 ⟨rfl, hb3⟩
        have HX3 := hideIt (HX2.out.below hb3)
        have HN3 := hideIt (HN.out.below (HB2.out.trans (hb3.mono HB2.out.size)))
        have HB3 := hideIt (HB2.out.trans (hb3.mono HB2.out.size))
        clear hb3 HX2 HB2 l0 b0 b1 b2 b3 b4 b5
        rcases two (amtOk x.cm x.cb) with hc | hc
        · have K4 := hideIt (K4.out hc)
          have K5 := hideIt (K5.out hc)
          rw [hc]
          obtain ⟨l0, b0, b1, b2, b3, b4, b5⟩ := HX3.out
          go_wp2_with fail
          refine (beyond_any _ _ _).mono ?_
          rintro e w4 ⟨rfl, rfl⟩
          rcases two (over x.am x.cm) with h1 | h1
          · have he := K4.out (.inl h1)
            rw [h1]
            go_wp2_with fail
            go_ret
            exact ⟨by rw [he]; rfl, HB3.out⟩
          · have K5 := hideIt (K5.out h1)
            rw [h1]
            go_wp2_with fail
            refine (beyond_any _ _ _).mono ?_
            rintro e w4 ⟨rfl, rfl⟩
            rcases two (over x.ab x.cb) with h2 | h2
            · have he := K4.out (.inr h2)
              rw [h2]
              go_wp2_with fail
              go_ret
              exact ⟨by rw [he]; rfl, HB3.out⟩
            · have HE := hideIt (K5.out h2)
              rw [h2]
              go_wp2_with fail
              refine (checkNeeds_any d x.ds _ HN3.out).mono ?_
              rintro e w5 ⟨rfl, hb5⟩
              rw [← HE.out]
              have HB5 := hideIt (HB3.out.trans (hb5.mono HB3.out.size))
              clear hb5
              go_wp2_with fail
              go_ret
              exact ⟨rfl, HB5.out⟩
        · have he := K3.out (.inr hc)
          rw [hc]
          go_wp2_with fail
          go_ret
          exact ⟨by rw [he]; rfl, HB3.out⟩
      · have he := K3.out (.inl ha)
        rw [ha]
        go_wp2_with fail
        go_ret
        exact ⟨by rw [he]; rfl, HB2.out⟩
  · have he := H1.out hn
    go_enter Tryz.func85, Tryz.ntmps85
    go_wp2_with fail
    refine (name_any _ _).mono ?_
    rintro e w1 ⟨rfl, rfl⟩
    rw [hn]
    go_wp2_with fail
    go_ret
    exact ⟨by rw [he]; rfl, HB0.out⟩
end Go.Proofs.YtlljniaobbbjgaaGreatDoor
namespace Go.Proofs.YtlljniaobbbjgaaGreatDoor
open Go.RowKit
open Qos (Nd Ct Pd nd ct pd)
open Ost (good val cut1 parseOut)
open S1 (Mx)
def nOf (l : List UInt8) : Int := if good 16 l = true then val l else 0
def gOf (l : List UInt8) : Bool := good 16 l
theorem readOut_n (l : List UInt8) : readOut 16 l = .tuple #[.int .i64 (nOf l), .bool (gOf l)] := by
  unfold readOut nOf gOf
  rcases two (good 16 l) with h | h <;> simp [h]
theorem numS_n (l : List UInt8) : Sv.numS l = if gOf l = true then some (nOf l) else none := by
  unfold Sv.numS nOf gOf
  rcases two (good 16 l) with h | h <;> simp [h]
theorem readNumber_any (s : ByteArray) (w : World) (hs : s.size ≤ maxLen) :
    Calls Tryz.prog 92 #[.string s] w fun e w' => e = .returned (.tuple #[.int .i64 (nOf s.data.toList), .bool (gOf s.data.toList)]) ∧ w' = w := by
  have HR := hideIt (read_any s 16 w hs)
  rw [readOut_n] at HR
  go_enter Tryz.func92, Tryz.ntmps92
  go_wp2_with fail
  refine HR.out.mono ?_
  rintro e w1 ⟨rfl, rfl⟩
  go_wp2_with fail
  go_ret2
  exact ⟨rfl, rfl⟩
set_option maxHeartbeats 400000 in
theorem readAmount_any (s r : ByteArray) (w : World) (hs : s.size ≤ maxLen) (hr : r.size ≤ maxLen) :
    Calls Tryz.prog 93 #[.string s, .string r] w fun e w' => e = .returned (.tuple #[.agg #[.int .i64 (nOf s.data.toList), .int .i64 (nOf r.data.toList)], .bool (gOf s.data.toList && gOf r.data.toList)]) ∧ Below w.heap.size w w' := by
  have HA := hideIt (fun W => readNumber_any s W hs)
  have HC := hideIt (fun W => readNumber_any r W hr)
  have HB := hideIt ((Below.refl w.heap.size w).alloc (Nat.le_refl _) (.cells #[.int .i64 (nOf s.data.toList), .int .i64 (nOf r.data.toList)] 53))
  generalize nOf s.data.toList = a at *
  generalize nOf r.data.toList = b at *
  generalize gOf s.data.toList = p at *
  generalize gOf r.data.toList = q at *
  rcases two p with rfl | rfl
  all_goals
    go_enter Tryz.func93, Tryz.ntmps93
    go_wp2_with fail
    refine (HA.out _).mono ?_
    rintro e w1 ⟨rfl, rfl⟩
    go_wp2_with fail
    refine (HC.out _).mono ?_
    rintro e w1 ⟨rfl, rfl⟩
    go_wp2_with fail
    (try simp only [Exit.inBlock, Exit.then])
    refine bodyPost_ret (v := .tuple #[.agg #[.int .i64 a, .int .i64 b], _]) ?_ rfl ⟨rfl, HB.out⟩
    rw [results_cell_tmp rfl]
    go_simp
theorem below_drewNR {B : Nat} {a w : World} (h : Below B a w) (n : Nat) : Below B a (w.drewN n) := ⟨h.os, h.tape, h.output, h.size, h.block⟩
set_option maxHeartbeats 400000 in
theorem readNeed_any (s : ByteArray) (w : World) (hs : s.size < 4294967281) (hm : Mx w) :
    Calls Tryz.prog 95 #[.string s] w fun e w' => e = .returned (.tuple #[.agg #[.string ⟨(cut1 58 s.data.toList).1.toArray⟩, .int .i64 (nOf (cut1 58 s.data.toList).2.1)], .bool (gOf (cut1 58 s.data.toList).2.1)]) ∧ Below w.heap.size w w' := by
  have HB0 := hideIt ((Below.refl w.heap.size w).alloc (Nat.le_refl _) (.cells #[.string ⟨#[]⟩, .int .i64 0] 115))
  have HC := hideIt (S1.cut_any s 58 _ hs (hm.below HB0.out))
  have hle := (S1.cut1_le 58 s.data.toList).2
  have hsz : s.data.toList.length = s.size := by simp
  generalize (cut1 58 s.data.toList).2.2 = fl at *
  generalize (cut1 58 s.data.toList).2.1 = b at *
  generalize (cut1 58 s.data.toList).1 = a at *
  have HN := hideIt (fun W => readNumber_any ⟨b.toArray⟩ W (by unfold maxLen; show b.length ≤ _; omega))
  have e0 : (ByteArray.mk b.toArray).data.toList = b := by simp
  rw [e0] at HN
  clear hm hle hsz e0
  generalize nOf b = n at *
  generalize gOf b = g at *
  go_enter Tryz.func95, Tryz.ntmps95
  go_wp2_with fail
  refine HC.out.mono ?_
  rintro e w1 ⟨rfl, m, rfl⟩
  go_wp2_with fail
  refine (HN.out _).mono ?_
  rintro e w1 ⟨rfl, rfl⟩
  go_wp2_with fail
  (try simp only [Exit.inBlock, Exit.then])
  refine bodyPost_ret (v := .tuple #[.agg #[.string ⟨a.toArray⟩, .int .i64 n], .bool g]) ?_ rfl ⟨rfl, ((below_drewNR HB0.out m).setCell (p := ⟨w.heap.size, 0, none⟩) (Nat.le_refl _) _).setCell (p := ⟨w.heap.size, 1, none⟩) (Nat.le_refl _) _⟩
  rw [results_cell_tmp rfl]
  go_simp
def cpOf (l : List UInt8) : Nat := if l = [45] then 0 else (parseOut l).1
def cgOf (l : List UInt8) : Bool := decide (l = [45]) || decide ((parseOut l).2 = 0)
theorem cpusOf_n (l : List UInt8) : Sv.cpusOf l = if cgOf l = true then some (cpOf l) else none := by
  unfold Sv.cpusOf cgOf cpOf
  by_cases h : l = [45]
  · simp [h]
  · by_cases h2 : (parseOut l).2 = 0 <;> simp [h, h2]
theorem dash_eq (s : ByteArray) : (s.toList == [45]) = decide (s.data.toList = [45]) := by
  rw [ByteArray.toList_eq]
  by_cases h : s.data.toList = [45] <;> simp [h]
set_option maxHeartbeats 400000 in
theorem readCPUs_any (s : ByteArray) (w : World) (hs : s.size ≤ maxLen) (hm : Mx w) :
    Calls Tryz.prog 96 #[.string s] w fun e w' => e = .returned (.tuple #[.int .u64 (cpOf s.data.toList : Nat), .bool (cgOf s.data.toList)]) ∧ Below w.heap.size w w' := by
  have hq := dash_eq s
  by_cases h : s.data.toList = [45]
  · have HE : Hid (cpOf s.data.toList = 0 ∧ cgOf s.data.toList = true) := by unfold Hid cpOf cgOf; simp [h]
    rw [decide_eq_true h] at hq
    rw [HE.out.1, HE.out.2]
    go_enter Tryz.func96, Tryz.ntmps96
    go_wp2_with fail
    go_ret2
    exact ⟨rfl, Below.refl _ _⟩
  · rw [decide_eq_false h] at hq
    have HE : Hid (cpOf s.data.toList = (parseOut s.data.toList).1 ∧ cgOf s.data.toList = decide ((parseOut s.data.toList).2 = 0)) := by unfold Hid cpOf cgOf; simp [h]
    have HP := hideIt (S1.parse_any s w hs hm)
    unfold S1.setErr at HP
    rw [HE.out.1, HE.out.2]
    clear HE hm
    generalize (parseOut s.data.toList).1 = A at *
    by_cases h0 : (parseOut s.data.toList).2 = 0
    · have e0 : S1.errV (parseOut s.data.toList).2 = .nilIface := by rw [h0]; rfl
      rw [e0] at HP
      rw [decide_eq_true h0]
      go_enter Tryz.func96, Tryz.ntmps96
      go_wp2_with fail
      refine HP.out.mono ?_
      rintro e w1 ⟨rfl, hb⟩
      go_wp2_with fail
      go_quiet (fail)
      go_wp2_with fail
      go_ret2
      exact ⟨rfl, below_drewNR hb _⟩
    · have e0 : S1.errV (parseOut s.data.toList).2 = .iface 80 (.int .i64 (parseOut s.data.toList).2) := by unfold S1.errV; rw [if_neg h0]
      rw [e0] at HP
      rw [decide_eq_false h0]
      generalize (parseOut s.data.toList).2 = f at *
      go_enter Tryz.func96, Tryz.ntmps96
      go_wp2_with fail
      refine HP.out.mono ?_
      rintro e w1 ⟨rfl, hb⟩
      go_wp2_with fail
      go_quiet (fail)
      go_wp2_with fail
      go_ret2
      exact ⟨rfl, below_drewNR hb _⟩
end Go.Proofs.YtlljniaobbbjgaaGreatDoor
namespace Go.Proofs.YtlljniaobbbjgaaGreatDoor
open Go.RowKit
open Qos (Nd Ct Pd nd ct pd)
open Sv (Gv Hd gv hd needTxt needsTxt devsTxt setTxt contWs givenWs lineTxt OkN OkC OkG)
open S1 (Tab strs strs_snoc strs_oneCell ownsRow_cells infoStr itoa_any)
theorem row_belowV {w w' : World} {base : Nat} {e : TypeId} {size : Nat} {v : Value} {n : Nat} {xs : List Value} (h : w.ownsRow base e size v n xs) (hb : Below w.heap.size w w') : w'.ownsRow base e size v n xs :=
  h.kept (row := none) ⟨hb.os, hb.tape, hb.output, hb.size, fun j hj _ => hb.block j hj⟩ (by cases hv : v.ownBlock <;> simp)
/-- strings.Join over a row of the call's own. -/
theorem join_any (c : UInt8) (v : Value) (xs : List (List UInt8)) (w : World) (base : Nat) (h : w.ownsRow base 9 1 v xs.length (strs xs)) (hn : xs.length ≤ 1000) (hl : (Lib.join xs [c]).length ≤ 1000000) :
    Calls Tryz.prog 76 #[v, .string ⟨#[c]⟩] w fun e w' => e = .returned (.string ⟨(Lib.join xs [c]).toArray⟩) ∧ Below w.heap.size w w' := by
  rcases ownsRow_cells h with ⟨rfl, h0⟩ | ⟨g, cap, rfl, hc, hg, hcell⟩
  · have : xs = [] := List.eq_nil_of_length_eq_zero h0
    subst this
    refine (Tryz.strings_Join_none none 0 ⟨#[c]⟩ w).mono ?_
    rintro e w' ⟨rfl, rfl⟩
    exact ⟨rfl, Below.refl _ _⟩
  · have hx : (xs.map fun (b : List UInt8) => ByteArray.mk b.toArray).map (·.data.toList) = xs := by
      rw [List.map_map]; exact List.map_id'' (fun _ => rfl) xs
    have := Tryz.strings_Join g 0 cap (xs.map fun (b : List UInt8) => ByteArray.mk b.toArray) ⟨#[c]⟩ w (fun j x hj => by
      rw [Nat.zero_add]
      apply hcell
      unfold strs
      rw [List.getElem?_map] at hj ⊢
      obtain ⟨a, ha, rfl⟩ := Option.map_eq_some_iff.1 hj
      rw [ha]; rfl) hg (by simp; omega) (by simpa using hc) (by rw [hx]; show (Lib.join xs [c]).length ≤ _; omega)
    rw [hx] at this
    simpa using this
def decs (xs : List Int) (k : Nat) : List (List UInt8) := (xs.take k).map Sv.dec
theorem decs_next {xs : List Int} {k : Nat} (h : k < xs.length) : decs xs (k + 1) = decs xs k ++ [Sv.dec (xs.getD k 0)] := by
  unfold decs
  rw [List.take_succ_eq_append_getElem h, List.map_append]; simp [h]
theorem decs_len {xs : List Int} {k : Nat} (h : k ≤ xs.length) : (decs xs k).length = k := by
  unfold decs; simp; omega
theorem decs_all (xs : List Int) : decs xs xs.length = xs.map Sv.dec := by unfold decs; rw [List.take_length]
set_option maxRecDepth 100000 in
set_option maxHeartbeats 2000000 in
theorem listInts_any (v : Value) (xs : List Int) (w : World) (h : IntsOf w v xs) (hx : ∀ x ∈ xs, 0 ≤ x ∧ x ≤ 15) (hl : xs.length ≤ 16) (htab : Tab w) (hG : 1 < w.heap.size) :
    Calls Tryz.prog 60 #[v, .func (.func 56) #[] #[]] w fun e w' => e = .returned (.string ⟨(devsTxt xs).toArray⟩) ∧ Below w.heap.size w w' := by
  obtain ⟨i0, hi, hz0, hz1, hz2⟩ := info_parts infoStr
  obtain ⟨ao, c, rfl, hm, hr⟩ := h
  have HR := hideIt hr
  have HT := hideIt htab
  have HX := hideIt hx
  have HG := hideIt hG
  clear hr htab hx hG
  unfold maxLen at hm
  have HJ : Hid (∀ (v : Value) (w1 : World), w1.ownsRow w.heap.size 9 1 v (decs xs xs.length).length (strs (decs xs xs.length)) → Calls Tryz.prog 76 #[v, .string ⟨#[44]⟩] w1 fun e w' => e = .returned (.string ⟨(Lib.join (decs xs xs.length) [44]).toArray⟩) ∧ Below w1.heap.size w1 w') := by
    intro v w1 h
    refine join_any 44 v _ w1 _ h (by rw [decs_len (Nat.le_refl _)]; omega) ?_
    refine Nat.le_trans (Sv.join_le 44 20 _ fun x hx => ?_) (by rw [decs_len (Nat.le_refl _)]; omega)
    rw [decs_all] at hx
    obtain ⟨d, hd, rfl⟩ := List.mem_map.1 hx
    exact Sv.dec_le d (by have := (HX.out d hd).2; omega)
  have HD : Hid (Sv.orNo (Lib.join (decs xs xs.length) [44]) = devsTxt xs) := by unfold Hid devsTxt; rw [decs_all]
  go_enter Tryz.func60, Tryz.ntmps60
  go_wp2_with fail
  go_loopw [5, 10] (fun r i wr => ∃ k : Nat, k ≤ xs.length ∧ i = .int .i64 k ∧ wr.ownsRow w.heap.size 9 1 r (decs xs k).length (strs (decs xs k)) ∧ Below w.heap.size w wr) (fun _ i _ => xs.length - (intOf i).toNat)
  case atStart => exact ⟨0, by omega, rfl, World.ownsRow_nil _ _ _ _, Below.refl _ _⟩
  case round =>
    obtain ⟨k, hk, rfl, hrow, hB⟩ := hrel
    by_cases hlt : k < xs.length
    · obtain ⟨b, o, rfl, hb, hc⟩ := HR.out (by omega)
      have h1 := (hB.cell (p := ⟨b, o + k, none⟩) hb).trans (hc k hlt)
      have HS := hideIt (decs_next hlt)
      have hle := decs_len hk
      have hxk := HX.out (xs.getD k 0) (by simp [hlt])
      have hsz := hB.size
      clear hc
      generalize xs.getD k 0 = x at *
      have HI := hideIt (itoa_any x wr hxk.1 (by omega) (HT.out.below hB HG.out))
      go_wp2_with fail
      refine HI.out.mono ?_
      rintro e w1 ⟨rfl, hb1⟩
      have HB1 := hideIt (hB.trans (hb1.mono hB.size))
      have hrow1 := row_belowV hrow hb1
      have hsz1 := hb1.size
      go_wp2_with (at_builtin; refine wpList_append_own _ rfl _ _ 41 rfl w.heap.size 9 i0 (.string ⟨#[]⟩) 1 16 Tryz.underlying41 hi hz0 hz1 hz2 rfl (by decide) _ _ _ rfl (hrow1.alloc _) ⟨_, 0, none⟩ 1 1 [.string ⟨(Sv.dec x).toArray⟩] rfl rfl (cell_one_new _ _ _) (strs_oneCell [Sv.dec x]) (by unfold maxLen; omega) (by omega) (by simp; omega) ?_; intro v' w2 hown' hgrow' _)
      go_roundw
      case rel =>
        refine ⟨k + 1, by omega, by go_num, ?_, ?_⟩
        · rw [HS.out, strs_snoc, List.length_append]; exact hown'
        · exact (HB1.out.alloc HB1.out.size _).grown hgrow' (by simp; omega) (fun j hj => (hrow1.lt j hj).1)
      case measure => simp [intOf]; omega
    · have hke : k = xs.length := by omega
      subst hke
      go_wp2_with fail
      refine (HJ.out _ _ hrow).mono ?_
      rintro e w1 ⟨rfl, hb1⟩
      have hB1 := hB.trans (hb1.mono hB.size)
      go_wp2_with fail
      refine (orNothing_any _ _).mono ?_
      rintro e w2 ⟨rfl, rfl⟩
      go_wp2_with fail
      go_ret
      exact ⟨by rw [← HD.out]; rfl, hB1⟩
end Go.Proofs.YtlljniaobbbjgaaGreatDoor
