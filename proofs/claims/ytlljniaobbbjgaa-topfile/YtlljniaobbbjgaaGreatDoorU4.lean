/- SParse2, VH1, QW2, VD3, VE1, TopSetW, VT1, QW3, VR1, VC1, VR2 -/
import Derived.Test.YtlljniaobbbjgaaGreatDoorU3
import Derived.Test.YtlljniaobbbjgaaGreatDoorU2
import Derived.Shelf.SlicesQ.IndexFunc
import Derived.Ground.SlgfProg
import Derived.Shelf.Lay
import Derived.Deep.RegionHeld3
import Derived.Laws.ResultCell
namespace Go.Proofs.YtlljniaobbbjgaaGreatDoor.S1
open Go.RowKit
/-- The parts from the k-th on give the whole's answer. -/
def Left (l : List UInt8) (k acc : Nat) : Prop := Ost.parseOut l = Ost.pieces acc ((Ost.splitC 44 l).drop k)
theorem Left.next {l : List UInt8} {k acc : Nat} (h : Left l k acc) (hk : k < (Ost.splitC 44 l).length) :
    (Ost.spanOf ((Ost.splitC 44 l).getD k []) = none → Ost.parseOut l = (0, 4)) ∧
    (∀ f t, Ost.spanOf ((Ost.splitC 44 l).getD k []) = some (f, t) → (63 < t → Ost.parseOut l = (0, 1)) ∧ (¬ 63 < t → Left l (k + 1) (acc ||| Ost.rb f.toNat (t - f + 1).toNat))) := by
  have e : (Ost.splitC 44 l).drop k = (Ost.splitC 44 l).getD k [] :: (Ost.splitC 44 l).drop (k + 1) := by
    rw [List.drop_eq_getElem_cons hk]; simp [hk]
  unfold Left at h ⊢
  rw [e, Ost.pieces] at h
  refine ⟨fun hn => by rw [hn] at h; exact h, fun f t hs => ?_⟩
  rw [hs] at h
  simp only at h
  exact ⟨fun ht => by rw [if_pos ht] at h; exact h, fun ht => by rw [if_neg ht] at h; exact h⟩
theorem Left.done {l : List UInt8} {k acc : Nat} (h : Left l k acc) (hk : (Ost.splitC 44 l).length ≤ k) : Ost.parseOut l = (acc, 0) := by
  unfold Left at h
  rw [List.drop_eq_nil_of_le hk] at h; exact h
theorem spanOf_le (t : List UInt8) (f l : Int) (h : Ost.spanOf t = some (f, l)) : 0 ≤ f ∧ f ≤ l ∧ l ≤ 9223372036854775807 := by
  unfold Ost.spanOf at h
  split at h
  · split at h
    · rename_i hg
      rw [Bool.and_eq_true, Bool.and_eq_true, decide_eq_true_eq] at hg
      obtain ⟨⟨⟨_, _, h3⟩, _⟩, ⟨_, _, hm⟩⟩ : _ ∧ _ := ⟨(Ost.good_iff _ _).1 hg.1.1, (Ost.good_iff _ _).1 hg.1.2⟩
      simp only [Option.some.injEq, Prod.mk.injEq] at h
      obtain ⟨rfl, rfl⟩ := h
      exact ⟨Ost.val_nonneg _ h3, hg.2, hm⟩
    · cases h
  · split at h
    · rename_i hg
      obtain ⟨⟨_, _, h3⟩, _, hm⟩ := (Ost.good_iff _ _).1 hg
      simp only [Option.some.injEq, Prod.mk.injEq] at h
      obtain ⟨rfl, rfl⟩ := h
      exact ⟨Ost.val_nonneg _ h3, Int.le_refl _, hm⟩
    · cases h
theorem rb_lt (f m : Nat) (h : f + m ≤ 64) : Ost.rb f m < 18446744073709551616 := by
  induction m with
  | zero => simp [Ost.rb]
  | succ m ih => rw [Ost.rb]; exact or_lt _ _ (ih (by omega)) (pow_lt64 _ (by omega))
theorem splitC_len (c : UInt8) (l : List UInt8) : (Ost.splitC c l).length ≤ l.length + 1 := by
  induction l with
  | nil => simp [Ost.splitC]
  | cons b r ih =>
    unfold Ost.splitC
    split
    · simp; omega
    · split
      · simp
      · rename_i h; rw [h] at ih; simp at ih ⊢; omega
theorem splitC_mem (c : UInt8) (l : List UInt8) : ∀ x ∈ Ost.splitC c l, x.length ≤ l.length := by
  induction l with
  | nil => simp [Ost.splitC]
  | cons b r ih =>
    intro x hx
    unfold Ost.splitC at hx
    split at hx
    · rcases List.mem_cons.1 hx with rfl | hx
      · simp
      · have := ih x hx; simp; omega
    · split at hx
      · simp at hx; subst hx; simp
      · rename_i h
        rcases List.mem_cons.1 hx with rfl | hx
        · have := ih _ (by rw [h]; exact List.mem_cons_self); simp; omega
        · have := ih x (by rw [h]; exact List.mem_cons_of_mem _ hx); simp; omega
set_option maxHeartbeats 400000 in
theorem member_yes (z : Int) (w : World) (h0 : 0 ≤ z) (h1 : z < 64) : Calls Tryz.prog 101 #[.int .i64 z] w fun e w' => e = .returned (.bool true) ∧ w' = w := by
  go_enter Tryz.func101, Tryz.ntmps101
  go_wp2_with fail
  go_ret
  exact ⟨rfl, rfl⟩
set_option maxHeartbeats 400000 in
theorem member_no (z : Int) (w : World) (h0 : 0 ≤ z) (h1 : 64 ≤ z) : Calls Tryz.prog 101 #[.int .i64 z] w fun e w' => e = .returned (.bool false) ∧ w' = w := by
  have hd : decide (z < 64) = false := decide_eq_false (by omega)
  go_enter Tryz.func101, Tryz.ntmps101
  go_wp2_with fail
  go_ret
  exact ⟨rfl, rfl⟩
set_option maxRecDepth 100000 in
set_option maxHeartbeats 2000000 in
theorem parse_walk (s : ByteArray) (w : World) (hs : s.size ≤ 300) (h0 : 0 < s.size) (hm : Mx w) :
    Calls Tryz.prog 122 #[.string s] w fun e w' => e = .returned (setErr (Ost.parseOut s.data.toList)) ∧ Below w.heap.size w w' := by
  have hem : s.toList.isEmpty = false := by rw [Ost.toList_isEmpty, decide_eq_false (by omega)]
  have h300 : decide (300 < (s.size : Int)) = false := decide_eq_false (by omega)
  have HL : Hid (s.data.toList.length = s.size) := by unfold Hid; simp
  have HM := hideIt' hm
  clear hm
  have hP : Left s.data.toList 0 0 := by
    unfold Left Ost.parseOut
    rw [if_neg (by rw [HL.out]; omega), if_neg (fun e => by have := HL.out; rw [e] at this; simp at this; omega)]
    rfl
  have hn1 := splitC_len 44 s.data.toList
  rw [HL.out] at hn1
  have HX := hideIt' (splitC_mem 44 s.data.toList)
  have hn0 : 0 < (Ost.splitC 44 s.data.toList).length := List.length_pos_iff.2 (Ost.splitC_ne _ _)
  go_enter Tryz.func122, Tryz.ntmps122
  go_wp2_with fail
  refine (split_any s _ (by omega) HM.out).mono ?_
  rintro e w1 ⟨rfl, hw1⟩
  have hB1 : Below w.heap.size w w1 := by rw [hw1]; exact (Below.refl _ _).alloc (Nat.le_refl _) _
  have HM1 := hideIt' (HM.out.below hB1)
  have HC : Hid (∀ k, k < (Ost.splitC 44 s.data.toList).length → w1.cell? ⟨w.heap.size, k, none⟩ = some (.string ⟨((Ost.splitC 44 s.data.toList).getD k []).toArray⟩)) := by
    intro k hk
    rw [hw1]
    simp [go_sem, hk]
  have HPx : Hid (Left s.data.toList 0 0) := hP
  clear hw1 hP
  go_wp2_with fail
  go_loopw [4, 20] (fun t i wr => ∃ k acc m : Nat, k ≤ (Ost.splitC 44 s.data.toList).length ∧ acc < 18446744073709551616 ∧ i = .int .i64 k ∧ t = .int .u64 acc ∧ Hid (Left s.data.toList k acc) ∧ wr = w1.drewN m) (fun _ i _ => (Ost.splitC 44 s.data.toList).length - (intOf i).toNat)
  case atStart => exact ⟨0, 0, 0, by omega, by omega, rfl, rfl, HPx, rfl⟩
  case round =>
    obtain ⟨k, acc, m, hk, hacc, rfl, rfl, HLf, rfl⟩ := hrel
    clear HPx
    by_cases hlt : k < (Ost.splitC 44 s.data.toList).length
    · have hcell := HC.out k hlt
      have HN := hideIt' (HLf.out.next hlt)
      have hps : ((Ost.splitC 44 s.data.toList).getD k []).length ≤ 300 := by
        have hmem : (Ost.splitC 44 s.data.toList).getD k [] ∈ Ost.splitC 44 s.data.toList := by simp [hlt]
        have := HX.out _ hmem
        rw [HL.out] at this; omega
      generalize (Ost.splitC 44 s.data.toList).getD k [] = t at hcell HN hps
      have hts : (ByteArray.mk t.toArray).size < 4294967281 := by show t.toArray.size < _; simp; omega
      have HM2 : Hid (Mx (w1.drewN m)) := HM1
      rcases ho : Ost.spanOf t with _ | ⟨f, l⟩
      · have H := hideIt' (HN.out.1 ho)
        have HO := hideIt' ho
        clear ho
        go_wp2_with fail
        refine (readSpan_no ⟨t.toArray⟩ _ hts HM2.out HO.out).mono ?_
        rintro e w2 ⟨⟨a, b, rfl⟩, n, rfl⟩
        go_wp2_with fail
        go_ret2
        exact ⟨congrArg Ending.returned (congrArg setErr H.out).symm, below_drewN hB1 _⟩
      · have hfl := spanOf_le t f l ho
        obtain ⟨F, rfl⟩ := Int.eq_ofNat_of_zero_le hfl.1
        obtain ⟨T, rfl⟩ := Int.eq_ofNat_of_zero_le (show 0 ≤ l by omega)
        have HO := hideIt' ho
        have hFT : F ≤ T := by omega
        have hT2 : (T : Int) ≤ 9223372036854775807 := hfl.2.2
        have HN2 := hideIt' (HN.out.2 _ _ ho)
        clear ho hfl HN
        by_cases h63 : 63 < T
        · have H := hideIt' (HN2.out.1 (by omega))
          go_wp2_with fail
          refine (readSpan_yes ⟨t.toArray⟩ _ _ _ hts HM2.out HO.out).mono ?_
          rintro e w2 ⟨rfl, n, rfl⟩
          go_wp2_with fail
          refine (member_no _ _ (by omega) (by omega)).mono ?_
          rintro e w3 ⟨rfl, rfl⟩
          go_wp2_with fail
          go_ret2
          exact ⟨congrArg Ending.returned (congrArg setErr H.out).symm, below_drewN hB1 _⟩
        · have H := hideIt' (HN2.out.2 (by omega))
          go_wp2_with fail
          refine (readSpan_yes ⟨t.toArray⟩ _ _ _ hts HM2.out HO.out).mono ?_
          rintro e w2 ⟨rfl, n, rfl⟩
          go_wp2_with fail
          refine (member_yes _ _ (by omega) (by omega)).mono ?_
          rintro e w3 ⟨rfl, rfl⟩
          go_wp2_with fail
          go_loop [4, 10] (fun t i => ∃ q : Nat, q ≤ T - F + 1 ∧ i = .int .i64 (F + q : Nat) ∧ t = .int .u64 (acc ||| Ost.rb F q : Nat)) (fun _ i => 65 - (intOf i).toNat)
          case atStart => exact ⟨0, by omega, rfl, by simp [Ost.rb]⟩
          case round =>
            obtain ⟨q, hq, rfl, rfl⟩ := hrel
            have hlt2 : acc ||| Ost.rb F q < 18446744073709551616 := or_lt _ _ hacc (rb_lt F q (by omega))
            by_cases hend : F + q ≤ T
            · have HOr : Hid (bits BinOp.or IntKind.u64 (acc ||| Ost.rb F q : Nat) (IntKind.u64.wrap (2 ^ (F + q))) = ((acc ||| Ost.rb F (q + 1) : Nat) : Int)) := by
                unfold Hid; rw [or_step _ _ hlt2 (by omega), Ost.rb, Nat.or_assoc]
              go_wp2_with fail
              go_round
              case rel => exact ⟨q + 1, by omega, by go_num, by rw [← HOr.out]⟩
              case measure => simp [intOf]; omega
            · have HA : Hid (Left s.data.toList (k + 1) (acc ||| Ost.rb F q)) := by
                have h1 := H.out
                rw [show ((F : Nat) : Int).toNat = F by omega, show (((T : Nat) : Int) - (F : Nat) + 1).toNat = q by omega] at h1
                exact h1
              go_wp2_with fail
              go_roundw
              case rel => exact ⟨k + 1, _, _, by omega, hlt2, by go_num, rfl, HA, rfl⟩
              case measure => simp [intOf]; omega
    · have H := hideIt' (HLf.out.done (by omega))
      go_wp2_with fail
      go_ret2
      exact ⟨congrArg Ending.returned (congrArg setErr H.out).symm, below_drewN hB1 m⟩
set_option maxHeartbeats 400000 in
theorem parse_many (s : ByteArray) (w : World) (hs : 300 < s.size) (hs2 : s.size ≤ maxLen) :
    Calls Tryz.prog 122 #[.string s] w fun e w' => e = .returned (setErr (0, 2)) ∧ Below w.heap.size w w' := by
  unfold maxLen at hs2
  go_enter Tryz.func122, Tryz.ntmps122
  go_wp2_with fail
  go_ret2
  exact ⟨rfl, Below.refl _ _⟩
set_option maxHeartbeats 400000 in
theorem parse_none (w : World) :
    Calls Tryz.prog 122 #[.string ⟨#[]⟩] w fun e w' => e = .returned (setErr (0, 0)) ∧ Below w.heap.size w w' := by
  go_enter Tryz.func122, Tryz.ntmps122
  go_wp2_with fail
  go_ret2
  exact ⟨rfl, Below.refl _ _⟩
theorem empty_of (s : ByteArray) (h : s.size = 0) : s = ⟨#[]⟩ := by
  rcases s with ⟨⟨l⟩⟩
  cases l with
  | nil => rfl
  | cons a r => simp [ByteArray.size] at h
theorem parse_any (s : ByteArray) (w : World) (hs2 : s.size ≤ maxLen) (hm : Mx w) :
    Calls Tryz.prog 122 #[.string s] w fun e w' => e = .returned (setErr (Ost.parseOut s.data.toList)) ∧ Below w.heap.size w w' := by
  by_cases h1 : 300 < s.size
  · have := parse_many s w h1 hs2
    rw [show ((0, 2) : Nat × Int) = Ost.parseOut s.data.toList by unfold Ost.parseOut; rw [if_pos (by simpa using h1)]] at this
    exact this
  · by_cases h0 : s.size = 0
    · have he := empty_of s h0
      subst he
      exact parse_none w
    · exact parse_walk s w (by omega) (by omega) hm
end Go.Proofs.YtlljniaobbbjgaaGreatDoor.S1
namespace Go.Proofs.YtlljniaobbbjgaaGreatDoor
open Go.ChangeShapes Go.WideShapes Go.ChangeAt Go.RowKit
open Qos (Nd Ct Pd nd0 ct0 pd0 nd ct pd)
open Sv (Gv Hd gv hd)
/-- A slice of numbers that is read. -/
def IntsOf (w : World) (v : Value) (xs : List Int) : Prop :=
  ∃ ao c, v = .slice ao xs.length c ∧ (xs.length ≤ c ∧ c ≤ maxLen) ∧ (0 < xs.length → ∃ b o, ao = some ⟨b, o, none⟩ ∧ b < w.heap.size ∧ ∀ k, k < xs.length → w.cell? ⟨b, o + k, none⟩ = some (.int .i64 (xs.getD k 0)))
/-- A slice of what containers were given, at a place. -/
def GivsIn (w : World) (b o : Nat) (gs : List Gv) (dv : Nat → Value) : Prop :=
  b < w.heap.size ∧ ∀ k, k < gs.length → (w.cell? ⟨b, o + k * 2, none⟩ = some (.int .u64 (gv gs k).cp) ∧ w.cell? ⟨b, o + k * 2 + 1, none⟩ = some (dv k) ∧ (gv gs k).cp < 18446744073709551616) ∧ IntsOf w (dv k) (gv gs k).dv
def GivsAt (w : World) (v : Value) (gs : List Gv) : Prop :=
  ∃ ao c, v = .slice ao gs.length c ∧ (gs.length ≤ c ∧ c ≤ maxLen) ∧ (0 < gs.length → ∃ b o dv, ao = some ⟨b, o, none⟩ ∧ GivsIn w b o gs dv)
/-- What is held as a value. -/
def heldV (h : Hd) (cv gvv : Value) : Value := .agg #[.string h.pod.nm, .int .i64 h.pod.pr, cv, gvv]
def HldsIn (w : World) (b o : Nat) (hs : List Hd) (cv gvv : Nat → Value) : Prop :=
  b < w.heap.size ∧ ∀ k, k < hs.length → (w.cell? ⟨b, o + k * 4, none⟩ = some (.string (hd hs k).pod.nm) ∧ w.cell? ⟨b, o + k * 4 + 1, none⟩ = some (.int .i64 (hd hs k).pod.pr) ∧ w.cell? ⟨b, o + k * 4 + 2, none⟩ = some (cv k) ∧ w.cell? ⟨b, o + k * 4 + 3, none⟩ = some (gvv k)) ∧ ConsAt w (cv k) (hd hs k).pod.cs ∧ GivsAt w (gvv k) (hd hs k).gs
def HldsAt (w : World) (v : Value) (hs : List Hd) : Prop :=
  ∃ ao c, v = .slice ao hs.length c ∧ (hs.length ≤ c ∧ c ≤ maxLen) ∧ (0 < hs.length → ∃ b o cv gvv, ao = some ⟨b, o, none⟩ ∧ HldsIn w b o hs cv gvv)
theorem IntsOf.below {w w' : World} {v : Value} {xs : List Int} (h : IntsOf w v xs) (hb : Below w.heap.size w w') : IntsOf w' v xs := by
  obtain ⟨ao, c, hv, hm, hr⟩ := h
  refine ⟨ao, c, hv, hm, fun h0 => ?_⟩
  obtain ⟨b, o, ha, hlt, hc⟩ := hr h0
  exact ⟨b, o, ha, Nat.lt_of_lt_of_le hlt hb.size, fun k hk => (hb.cell (p := ⟨b, o + k, none⟩) hlt).trans (hc k hk)⟩
theorem GivsIn.below {w w' : World} {b o : Nat} {gs : List Gv} {dv : Nat → Value} (h : GivsIn w b o gs dv) (hb : Below w.heap.size w w') : GivsIn w' b o gs dv :=
  ⟨Nat.lt_of_lt_of_le h.1 hb.size, fun k hk => by
    obtain ⟨⟨h1, h2, h3⟩, h4⟩ := h.2 k hk
    exact ⟨⟨(hb.cell (p := ⟨b, o + k * 2, none⟩) h.1).trans h1, (hb.cell (p := ⟨b, o + k * 2 + 1, none⟩) h.1).trans h2, h3⟩, h4.below hb⟩⟩
theorem GivsAt.below {w w' : World} {v : Value} {gs : List Gv} (h : GivsAt w v gs) (hb : Below w.heap.size w w') : GivsAt w' v gs := by
  obtain ⟨ao, c, hv, hm, hr⟩ := h
  refine ⟨ao, c, hv, hm, fun h0 => ?_⟩
  obtain ⟨b, o, dv, ha, hc⟩ := hr h0
  exact ⟨b, o, dv, ha, hc.below hb⟩
theorem HldsIn.below {w w' : World} {b o : Nat} {hs : List Hd} {cv gvv : Nat → Value} (h : HldsIn w b o hs cv gvv) (hb : Below w.heap.size w w') : HldsIn w' b o hs cv gvv :=
  ⟨Nat.lt_of_lt_of_le h.1 hb.size, fun k hk => by
    obtain ⟨⟨h1, h2, h3, h4⟩, h5, h6⟩ := h.2 k hk
    exact ⟨⟨(hb.cell (p := ⟨b, o + k * 4, none⟩) h.1).trans h1, (hb.cell (p := ⟨b, o + k * 4 + 1, none⟩) h.1).trans h2, (hb.cell (p := ⟨b, o + k * 4 + 2, none⟩) h.1).trans h3, (hb.cell (p := ⟨b, o + k * 4 + 3, none⟩) h.1).trans h4⟩, h5.below hb, h6.below hb⟩⟩
theorem HldsAt.below {w w' : World} {v : Value} {hs : List Hd} (h : HldsAt w v hs) (hb : Below w.heap.size w w') : HldsAt w' v hs := by
  obtain ⟨ao, c, hv, hm, hr⟩ := h
  refine ⟨ao, c, hv, hm, fun h0 => ?_⟩
  obtain ⟨b, o, cv, gvv, ha, hc⟩ := hr h0
  exact ⟨b, o, cv, gvv, ha, hc.below hb⟩
theorem HldsAt.cps {w : World} {v : Value} {hs : List Hd} (h : HldsAt w v hs) : ∀ x ∈ hs, ∀ g ∈ x.gs, g.cp < 18446744073709551616 := by
  intro x hx g hg
  obtain ⟨k, hk, rfl⟩ := Sv.hd_in hx
  obtain ⟨ao, c, _, _, hr⟩ := h
  obtain ⟨b, o, cv, gvv, _, hc⟩ := hr (by omega)
  obtain ⟨_, _, h6⟩ := hc.2 k hk
  obtain ⟨j, hj, rfl⟩ := Sv.gv_in hg
  obtain ⟨ao, c, _, _, hr⟩ := h6
  obtain ⟨b, o, dv, _, hc⟩ := hr (by omega)
  exact (hc.2 j hj).1.2.2
theorem ints_of_rows {W : World} {v : Value} (h : RowsOf W v 1 intP) (hcap : CapOk v) : ∃ xs, IntsOf W v xs := by
  obtain ⟨ao, len, c, rfl, hm, hr⟩ := h
  obtain ⟨_, _, _, hv, hl1, hl2⟩ := hcap
  cases hv
  by_cases h0 : len = 0
  · subst h0
    exact ⟨[], ao, c, rfl, ⟨by simp, hl2⟩, fun h => by simp at h⟩
  · obtain ⟨b, o, rfl, hlt, hc⟩ := hr (by omega)
    obtain ⟨f, hf⟩ := Deep.choose_lt (α := Int) (n := len) (p := fun k x => W.cell? ⟨b, o + k, none⟩ = some (.int .i64 x)) (fun k hk => by
      obtain ⟨cs, _, hcs, x, rfl⟩ := hc k hk
      have := hcs 0 (by decide)
      rw [Nat.mul_one, Nat.add_zero] at this
      exact ⟨x, this⟩)
    refine ⟨(List.range len).map f, _, c, by simp, ⟨by simpa using hl1, hl2⟩, fun _ => ⟨b, o, rfl, hlt, fun k hk => ?_⟩⟩
    have hk' : k < len := by simpa using hk
    have e : ((List.range len).map f).getD k 0 = f k := by simp [hk']
    rw [e]
    exact hf k hk'
theorem c_Set : Tryz.prog.cellsOf 61 = 1 := by kernel_rfl
theorem c_Given : Tryz.prog.cellsOf 64 = 2 := by kernel_rfl
theorem c_Held : Tryz.prog.cellsOf 67 = 4 := by kernel_rfl
theorem c_givens : Tryz.prog.cellsOf 65 = 1 := by kernel_rfl
def givP (W : World) (cs : List Value) : Prop := ∃ (A : Nat) (dv : Value), cs = [.int .u64 A, dv] ∧ A < 18446744073709551616 ∧ RowsOf W dv 1 intP ∧ CapOk dv
def heldP (W : World) (cs : List Value) : Prop := ∃ (nm : ByteArray) (pr : Int) (cv gvv : Value), cs = [.string nm, .int .i64 pr, cv, gvv] ∧ (RowsOf W cv 6 (contP W) ∧ CapOk cv) ∧ RowsOf W gvv 2 (givP W) ∧ CapOk gvv
theorem givs_of_rows {W : World} {v : Value} (h : RowsOf W v 2 (givP W)) (hcap : CapOk v) : ∃ gs, GivsAt W v gs := by
  obtain ⟨ao, len, c, rfl, hm, hr⟩ := h
  obtain ⟨_, _, _, hv, hl1, hl2⟩ := hcap
  cases hv
  by_cases h0 : len = 0
  · subst h0
    exact ⟨[], ao, c, rfl, ⟨by simp, hl2⟩, fun h => by simp at h⟩
  · obtain ⟨b, o, rfl, hlt, hc⟩ := hr (by omega)
    obtain ⟨f, hf⟩ := Deep.choose_lt (α := Gv × Value) (n := len) (p := fun k d => (W.cell? ⟨b, o + k * 2, none⟩ = some (.int .u64 d.1.cp) ∧ W.cell? ⟨b, o + k * 2 + 1, none⟩ = some d.2 ∧ d.1.cp < 18446744073709551616) ∧ IntsOf W d.2 d.1.dv) (fun k hk => by
      obtain ⟨cs, _, hcs, A, dv, rfl, hA, hdv, hcd⟩ := hc k hk
      obtain ⟨ds, hds⟩ := ints_of_rows hdv hcd
      exact ⟨⟨⟨A, ds⟩, dv⟩, ⟨hcs 0 (by decide), hcs 1 (by decide), hA⟩, hds⟩)
    refine ⟨(List.range len).map fun k => (f k).1, _, c, by simp, ⟨by simpa using hl1, hl2⟩, fun _ => ⟨b, o, fun k => (f k).2, rfl, hlt, fun k hk => ?_⟩⟩
    have hk' : k < len := by simpa using hk
    have e : gv ((List.range len).map fun k => (f k).1) k = (f k).1 := by simp [gv, hk']
    rw [e]
    exact hf k hk'
theorem hlds_of_rows {W : World} {v : Value} (h : RowsOf W v 4 (heldP W)) (hcap : CapOk v) : ∃ hs, HldsAt W v hs := by
  obtain ⟨ao, len, c, rfl, hm, hr⟩ := h
  obtain ⟨_, _, _, hv, hl1, hl2⟩ := hcap
  cases hv
  by_cases h0 : len = 0
  · subst h0
    exact ⟨[], ao, c, rfl, ⟨by simp, hl2⟩, fun h => by simp at h⟩
  · obtain ⟨b, o, rfl, hlt, hc⟩ := hr (by omega)
    obtain ⟨f, hf⟩ := Deep.choose_lt (α := Hd × Value × Value) (n := len) (p := fun k d => (W.cell? ⟨b, o + k * 4, none⟩ = some (.string d.1.pod.nm) ∧ W.cell? ⟨b, o + k * 4 + 1, none⟩ = some (.int .i64 d.1.pod.pr) ∧ W.cell? ⟨b, o + k * 4 + 2, none⟩ = some d.2.1 ∧ W.cell? ⟨b, o + k * 4 + 3, none⟩ = some d.2.2) ∧ ConsAt W d.2.1 d.1.pod.cs ∧ GivsAt W d.2.2 d.1.gs) (fun k hk => by
      obtain ⟨cs, _, hcs, nm, pr, cv, gvv, rfl, hcv, hgv⟩ := hc k hk
      obtain ⟨ds, hds⟩ := cons_of_rows hcv.1 hcv.2
      obtain ⟨gs, hgs⟩ := givs_of_rows hgv.1 hgv.2
      exact ⟨⟨⟨⟨nm, pr, ds⟩, gs⟩, cv, gvv⟩, ⟨hcs 0 (by decide), hcs 1 (by decide), hcs 2 (by decide), hcs 3 (by decide)⟩, hds, hgs⟩)
    refine ⟨(List.range len).map fun k => (f k).1, _, c, by simp, ⟨by simpa using hl1, hl2⟩, fun _ => ⟨b, o, fun k => (f k).2.1, fun k => (f k).2.2, rfl, hlt, fun k hk => ?_⟩⟩
    have hk' : k < len := by simpa using hk
    have e : hd ((List.range len).map fun k => (f k).1) k = (f k).1 := by simp [hd, hk']
    rw [e]
    exact hf k hk'
section
variable {H : Type} {enc : TypeId × Value → H} {W : World}
set_option maxRecDepth 100000 in
theorem givP_of_trod {n : Nat} {cs : List Value} {y : DataW H × List MemPlace} (hl : cs.length = 2) (h : DataW.trod enc Tryz.prog W 0 (fun _ => true) true n 64 cs = some y) : givP W cs := by
  obtain ⟨_, _, h0⟩ := trod_field Tryz.underlying64 h 0 61 0 _ c_Set rfl
  obtain ⟨_, _, h1⟩ := trod_field Tryz.underlying64 h 1 62 1 _ c_ints rfl
  match cs, hl with
  | [a, b], _ =>
    obtain ⟨p, e, _, hwf⟩ := DataW.trod_int Tryz.underlying61 h0
    simp at e h1
    have h2 := ints_of_trod h1
    have h3 := cap_of_trod Tryz.underlying62 h1
    have hr : 0 ≤ p ∧ p ≤ 18446744073709551615 := bounds_u64 hwf
    obtain ⟨A, rfl⟩ := Int.eq_ofNat_of_zero_le hr.1
    exact ⟨A, b, by rw [e], by omega, h2, h3⟩
set_option maxRecDepth 100000 in
theorem heldP_of_trod {n : Nat} {cs : List Value} {y : DataW H × List MemPlace} (hl : cs.length = 4) (h : DataW.trod enc Tryz.prog W 0 (fun _ => true) true n 67 cs = some y) : heldP W cs := by
  obtain ⟨_, _, h0⟩ := trod_field Tryz.underlying67 h 0 59 0 _ c_Pod rfl
  obtain ⟨_, _, h1⟩ := trod_field Tryz.underlying67 h 1 65 3 _ c_givens rfl
  match cs, hl with
  | [a, b, c, d], _ =>
    simp at h0 h1
    obtain ⟨nm, pr, cv, e, h2, h3⟩ := podP_of_trod rfl h0
    have h4 := rows_of_trod Tryz.underlying65 c_Given (by decide) h1 fun _ _ _ hl h => givP_of_trod hl h
    have h5 := cap_of_trod Tryz.underlying65 h1
    cases e
    exact ⟨nm, pr, _, d, rfl, ⟨h2, h3⟩, h4, h5⟩
theorem hlds_of_trod {n : Nat} {v : Value} {y : DataW H × List MemPlace} (h : DataW.trod enc Tryz.prog W 0 (fun _ => true) true n 22 [v] = some y) : ∃ hs, HldsAt W v hs :=
  hlds_of_rows (rows_of_trod Tryz.underlying22 c_Held (by decide) h fun _ _ _ hl h => heldP_of_trod hl h) (cap_of_trod Tryz.underlying22 h)
end
end Go.Proofs.YtlljniaobbbjgaaGreatDoor
namespace Go.Proofs
open Go.Shelf
def Tryz.contL_ren:Go.Shelf.Ren:=⟨fun|8=>108|6=>129|n=>n,fun|22=>57|23=>56|25=>169|4=>4|3=>3|0=>0|n=>n,fun|n=>n⟩
theorem Tryz.contL:Go.Proofs.SlLaysH0.n8 Tryz.prog Tryz.contL_ren:=by
 constructor
 case f6=>exact ⟨Tryz.f129.name,by decide,Tryz.func129.trans (congrArg some (by kernel_rfl))⟩
 case f8=>exact ⟨Tryz.f108.name,by decide,Tryz.func108.trans (congrArg some (by kernel_rfl))⟩
 all_goals intros;kernel_rfl
end Go.Proofs
namespace Go.Proofs.YtlljniaobbbjgaaGreatDoor
open Go.RowKit
open Qos (Nd Ct Pd nd0 ct0 pd0 nd ct pd needF contF podF amtOk over twice leS)
open Dvs (nameMay first)
instance : Inhabited (Ct × Value) := ⟨⟨ct0, .nilIface⟩⟩
theorem eq_str (a b : ByteArray) : (a.toList == b.toList) = decide (a = b) := by
  rw [Bool.eq_iff_iff, beq_iff_eq, decide_eq_true_iff, ByteArray.toList_eq, ByteArray.toList_eq]
  exact ⟨fun h => ByteArray.ext (Array.toList_inj.mp h), fun h => by rw [h]⟩
set_option maxHeartbeats 400000 in
theorem sameName_pred (nm : ByteArray) (B : Nat) (w : World) (hB : B < w.heap.size) (hcell : w.cell? ⟨B, 0, none⟩ = some (.string nm)) :
    PredBelow Tryz.prog 109 #[.pointer (some ⟨B, 0, none⟩)] (fun x : Ct × Value => .agg (contCells x.1 x.2).toArray) (fun x => decide (x.1.nm = nm)) w := fun W x hb => by
  have hc : W.cell? ⟨B, 0, none⟩ = some (.string nm) := (hb.cell (p := ⟨B, 0, none⟩) hB).trans hcell
  have hBW : B < W.heap.size := Nat.lt_of_lt_of_le hB hb.size
  have hne : B ≠ W.heap.size := by omega
  obtain ⟨x, dv⟩ := x
  have HX := hideIt (eq_str x.nm nm)
  show Calls Tryz.prog 109 #[.agg #[.string x.nm, .int .i64 x.am, .int .i64 x.ab, .int .i64 x.cm, .int .i64 x.cb, dv], .pointer (some ⟨B, 0, none⟩)] W _
  show Calls Tryz.prog 109 _ W fun e w' => e = .returned (.bool (decide (x.nm = nm))) ∧ Below w.heap.size w w'
  rw [← HX.out]
  have HB := hideIt (hb.alloc hb.size (.cells #[.string x.nm, .int .i64 x.am, .int .i64 x.ab, .int .i64 x.cm, .int .i64 x.cb, dv] 56))
  clear hb
  go_enter Tryz.func109, Tryz.ntmps109
  go_wp2_with fail
  go_ret
  exact ⟨rfl, HB.out⟩
theorem any_fst (cs : List Ct) (dv : Nat → Value) (k : Nat) (q : Ct → Bool) : ((((List.range cs.length).map fun j => (ct cs j, dv j)).take k).any fun x => q x.1) = (cs.take k).any q := by
  have e : ((List.range cs.length).map fun j => (ct cs j, dv j)).map Prod.fst = cs := by
    rw [List.map_map]
    apply List.ext_getElem
    · simp
    · intro i h1 h2
      simp [ct, h2]
  have h : (cs.take k) = (((List.range cs.length).map fun j => (ct cs j, dv j)).take k).map Prod.fst := by rw [List.map_take, e]
  rw [h, List.any_map]
  rfl
theorem has_twice (b o c B k : Nat) (cs : List Ct) (dv : Nat → Value) (w : World) (h : ConsIn w b o cs dv) (hk : k < cs.length) (hl : cs.length ≤ maxLen) (hB : B < w.heap.size) (hcell : w.cell? ⟨B, 0, none⟩ = some (.string (ct cs k).nm)) :
    Calls Tryz.prog 108 #[.slice (some ⟨b, o, none⟩) k c, .func (.func 109) #[] #[.pointer (some ⟨B, 0, none⟩)]] w fun e w' => e = .returned (.bool (twice cs k)) ∧ Below w.heap.size w w' := by
  have eg : ∀ args w, (callFunc 109 args).run Tryz.prog w = .ok (.enter 109 args) w := enters_of Tryz.func109 (by kernel_rfl) rfl
  have hcon := AnyQ.slices_ContainsFunc Tryz.contL 6 Tryz.isAgg56 Tryz.sizeOf56 (fun x : Ct × Value => contCells x.1 x.2) (fun _ => rfl) (fun x => decide (x.1.nm = (ct cs k).nm)) 109 #[.pointer (some ⟨B, 0, none⟩)] eg b o k c ((List.range cs.length).map fun j => (ct cs j, dv j)) w
    (sameName_pred (ct cs k).nm B w hB hcell) (by simp; omega) (by unfold maxLen at hl; omega) h.1 (fun j hj i v hi => by
      have hj' : j < cs.length := by simpa using hj
      have e : ((List.range cs.length).map fun j => (ct cs j, dv j))[j]! = (ct cs j, dv j) := by simp [hj']
      rw [e] at hi
      have h6 : i < 6 := by
        have := (List.getElem?_eq_some_iff.1 hi).1
        simpa [contCells] using this
      rw [(h.2 j hj').1 i h6]
      exact hi)
  change Calls Tryz.prog 108 _ _ _ at hcon
  rw [any_fst cs dv k (fun x => decide (x.nm = (ct cs k).nm))] at hcon
  exact hcon
theorem contF_1 {cs : List Ct} {k : Nat} (h : nameMay (ct cs k).nm = false) : contF cs k = 3 := by unfold contF; rw [if_pos h]
theorem contF_2 {cs : List Ct} {k : Nat} (h : nameMay (ct cs k).nm = true) (h2 : twice cs k = true) : contF cs k = 5 := by unfold contF; rw [if_neg (by rw [h]; decide), if_pos h2]
theorem contF_3 {cs : List Ct} {k : Nat} (h : nameMay (ct cs k).nm = true) (h2 : twice cs k = false) (h3 : amtOk (ct cs k).am (ct cs k).ab = false ∨ amtOk (ct cs k).cm (ct cs k).cb = false) : contF cs k = 1 := by
  unfold contF; rw [if_neg (by rw [h]; decide), if_neg (by rw [h2]; decide), if_pos h3]
theorem contF_4 {cs : List Ct} {k : Nat} (h : nameMay (ct cs k).nm = true) (h2 : twice cs k = false) (h3 : amtOk (ct cs k).am (ct cs k).ab = true) (h3' : amtOk (ct cs k).cm (ct cs k).cb = true) (h4 : over (ct cs k).am (ct cs k).cm = true ∨ over (ct cs k).ab (ct cs k).cb = true) : contF cs k = 3 := by
  unfold contF; rw [if_neg (by rw [h]; decide), if_neg (by rw [h2]; decide), if_neg (by rw [h3, h3']; decide), if_pos h4]
theorem contF_5 {cs : List Ct} {k : Nat} (h : nameMay (ct cs k).nm = true) (h2 : twice cs k = false) (h3 : amtOk (ct cs k).am (ct cs k).ab = true) (h3' : amtOk (ct cs k).cm (ct cs k).cb = true) (h4 : over (ct cs k).am (ct cs k).cm = false) (h4' : over (ct cs k).ab (ct cs k).cb = false) : contF cs k = (if 3 < (ct cs k).ds.length then (2 : Nat) else first (needF (ct cs k).ds) (ct cs k).ds.length : Nat) := by
  unfold contF; rw [if_neg (by rw [h]; decide), if_neg (by rw [h2]; decide), if_neg (by rw [h3, h3']; decide), if_neg (by rw [h4, h4']; decide)]
/-- A container's cells, boxed. -/
theorem boxed (w : World) (x : Ct) (d : Value) : (w.alloc (.cells #[.string x.nm, .int .i64 x.am, .int .i64 x.ab, .int .i64 x.cm, .int .i64 x.cb, d] 56)).cell? ⟨w.heap.size, 0, none⟩ = some (.string x.nm) := by simp
/-- A container lies boxed. -/
def BoxAt (W : World) (B : Nat) (x : Ct) (d : Value) : Prop := B < W.heap.size ∧ W.cell? ⟨B, 0, none⟩ = some (.string x.nm) ∧ W.cell? ⟨B, 1, none⟩ = some (.int .i64 x.am) ∧ W.cell? ⟨B, 2, none⟩ = some (.int .i64 x.ab) ∧ W.cell? ⟨B, 3, none⟩ = some (.int .i64 x.cm) ∧ W.cell? ⟨B, 4, none⟩ = some (.int .i64 x.cb) ∧ W.cell? ⟨B, 5, none⟩ = some d
theorem BoxAt.made (w : World) (x : Ct) (d : Value) : BoxAt (w.alloc (.cells #[.string x.nm, .int .i64 x.am, .int .i64 x.ab, .int .i64 x.cm, .int .i64 x.cb, d] 56)) w.heap.size x d := by
  refine ⟨by simp, by simp, by simp, by simp, by simp, by simp, by simp⟩
theorem BoxAt.below {W W' : World} {B : Nat} {x : Ct} {d : Value} (h : BoxAt W B x d) (hb : Below W.heap.size W W') : BoxAt W' B x d := by
  obtain ⟨h0, h1, h2, h3, h4, h5, h6⟩ := h
  exact ⟨Nat.lt_of_lt_of_le h0 hb.size, (hb.cell (p := ⟨B, 0, none⟩) h0).trans h1, (hb.cell (p := ⟨B, 1, none⟩) h0).trans h2, (hb.cell (p := ⟨B, 2, none⟩) h0).trans h3, (hb.cell (p := ⟨B, 3, none⟩) h0).trans h4, (hb.cell (p := ⟨B, 4, none⟩) h0).trans h5, (hb.cell (p := ⟨B, 5, none⟩) h0).trans h6⟩
set_option maxRecDepth 100000 in
set_option maxHeartbeats 2000000 in
theorem checkCont_any (b o c k : Nat) (cs : List Ct) (dv : Nat → Value) (w : World) (h : ConsIn w b o cs dv) (hk : k < cs.length) (hl : cs.length ≤ maxLen) :
    Calls Tryz.prog 85 #[.agg #[.string (ct cs k).nm, .int .i64 (ct cs k).am, .int .i64 (ct cs k).ab, .int .i64 (ct cs k).cm, .int .i64 (ct cs k).cb, dv k], .slice (some ⟨b, o, none⟩) k c] w fun e w' => e = .returned (errV (contF cs k : Nat)) ∧ Below w.heap.size w w' := by
  have hB0 := (Below.refl w.heap.size w).alloc (Nat.le_refl _) (.cells #[.string (ct cs k).nm, .int .i64 (ct cs k).am, .int .i64 (ct cs k).ab, .int .i64 (ct cs k).cm, .int .i64 (ct cs k).cb, dv k] 56)
  have HT := hideIt (has_twice b o c w.heap.size k cs dv _ (h.below hB0) hk hl (by simp) (boxed w (ct cs k) (dv k)))
  have HN := hideIt (h.2 k hk).2
  have HB0 := hideIt hB0
  have H1 := hideIt (@contF_1 cs k)
  have H2 := hideIt (@contF_2 cs k)
  have H3 := hideIt (@contF_3 cs k)
  have H4 := hideIt (@contF_4 cs k)
  have H5 := hideIt (@contF_5 cs k)
  clear h hk hl hB0
  generalize contF cs k = F at *
  generalize twice cs k = T at *
  generalize ct cs k = x at *
  generalize dv k = d at *
  rcases two (nameMay x.nm) with hn | hn
  · rcases two T with ht | ht
    · have he := H2.out hn ht
      subst ht
      go_enter Tryz.func85, Tryz.ntmps85
      go_wp2_with fail
      refine (name_any _ _).mono ?_
      rintro e w1 ⟨rfl, rfl⟩
      rw [hn]
      go_wp2_with fail
      refine HT.out.mono ?_
      rintro e w1 ⟨rfl, hb1⟩
      go_wp2_with fail
      go_ret
      exact ⟨by rw [he]; rfl, HB0.out.trans (hb1.mono HB0.out.size)⟩
    · subst ht
      have K3 := hideIt (H3.out hn rfl)
      have K4 := hideIt (H4.out hn rfl)
      have K5 := hideIt (H5.out hn rfl)
      clear H1 H2 H3 H4 H5
      go_enter Tryz.func85, Tryz.ntmps85
      go_wp2_with fail
      refine (name_any _ _).mono ?_
      rintro e w1 ⟨rfl, rfl⟩
      rw [hn]
      go_wp2_with fail
      refine HT.out.mono ?_
      rintro e w1 ⟨rfl, hb1⟩
      have HX1 := hideIt ((BoxAt.made w x d).below hb1)
      have HB1 := hideIt (HB0.out.trans (hb1.mono HB0.out.size))
      clear hb1 HT HB0
      generalize w.heap.size = B at HX1
      obtain ⟨l0, b0, b1, b2, b3, b4, b5⟩ := HX1.out
      go_wp2_with fail
      refine (bounded_any _ _ _).mono ?_
      rintro e w2 ⟨rfl, hb2⟩
      have HX2 := hideIt (HX1.out.below hb2)
      have HB2 := hideIt (HB1.out.trans (hb2.mono HB1.out.size))
      clear hb2 HX1 HB1 l0 b0 b1 b2 b3 b4 b5
      rcases two (amtOk x.am x.ab) with ha | ha
      · have K4 := hideIt (K4.out ha)
        have K5 := hideIt (K5.out ha)
        rw [ha]
        obtain ⟨l0, b0, b1, b2, b3, b4, b5⟩ := HX2.out
        go_wp2_with fail
        refine (bounded_any _ _ _).mono ?_
        rintro e w3 ⟨rfl, hb3⟩
        have HX3 := hideIt (HX2.out.below hb3)
        have HN3 := hideIt (HN.out.below (HB2.out.trans (hb3.mono HB2.out.size)))
        have HB3 := hideIt (HB2.out.trans (hb3.mono HB2.out.size))
        clear hb3 HX2 HB2 l0 b0 b1 b2 b3 b4 b5
        rcases two (amtOk x.cm x.cb) with hc | hc
        · have K4 := hideIt (K4.out hc)
          have K5 := hideIt (K5.out hc)
          rw [hc]
          obtain ⟨l0, b0, b1, b2, b3, b4, b5⟩ := HX3.out
          go_wp2_with fail
          refine (beyond_any _ _ _).mono ?_
          rintro e w4 ⟨rfl, rfl⟩
          rcases two (over x.am x.cm) with h1 | h1
          · have he := K4.out (.inl h1)
            rw [h1]
            go_wp2_with fail
            go_ret
            exact ⟨by rw [he]; rfl, HB3.out⟩
          · have K5 := hideIt (K5.out h1)
            rw [h1]
            go_wp2_with fail
            refine (beyond_any _ _ _).mono ?_
            rintro e w4 ⟨rfl, rfl⟩
            rcases two (over x.ab x.cb) with h2 | h2
            · have he := K4.out (.inr h2)
              rw [h2]
              go_wp2_with fail
              go_ret
              exact ⟨by rw [he]; rfl, HB3.out⟩
            · have HE := hideIt (K5.out h2)
              rw [h2]
              go_wp2_with fail
              refine (checkNeeds_any d x.ds _ HN3.out).mono ?_
              rintro e w5 ⟨rfl, hb5⟩
              rw [← HE.out]
              have HB5 := hideIt (HB3.out.trans (hb5.mono HB3.out.size))
              clear hb5
              go_wp2_with fail
              go_ret
              exact ⟨rfl, HB5.out⟩
        · have he := K3.out (.inr hc)
          rw [hc]
          go_wp2_with fail
          go_ret
          exact ⟨by rw [he]; rfl, HB3.out⟩
      · have he := K3.out (.inl ha)
        rw [ha]
        go_wp2_with fail
        go_ret
        exact ⟨by rw [he]; rfl, HB2.out⟩
  · have he := H1.out hn
    go_enter Tryz.func85, Tryz.ntmps85
    go_wp2_with fail
    refine (name_any _ _).mono ?_
    rintro e w1 ⟨rfl, rfl⟩
    rw [hn]
    go_wp2_with fail
    go_ret
    exact ⟨by rw [he]; rfl, HB0.out⟩
end Go.Proofs.YtlljniaobbbjgaaGreatDoor
namespace Go.Proofs.YtlljniaobbbjgaaGreatDoor
open Go.RowKit
theorem step_two (l : Int) (d : Bool) : (stepE l d = 11 ∧ stepF l d = true) ∨ (stepE l d = 0 ∧ stepF l d = false) := by
  unfold stepE stepF
  by_cases h : d = true ∨ l = 0
  · exact .inl ⟨if_pos h, decide_eq_true h⟩
  · exact .inr ⟨if_neg h, decide_eq_false h⟩
theorem errV_11 : errV ((11 : Nat) : Int) = .iface 80 (.int .i64 11) := rfl
theorem errV_0 : errV ((0 : Nat) : Int) = .nilIface := rfl
set_option maxRecDepth 100000 in
set_option maxHeartbeats 1000000 in
theorem syncW_any (B : Nat) (n k : Sd) (v : Value) (l : Int) (d : Bool) (w : World) (h : DiskW w B n k v l d) (hl : -9223372036854775808 ≤ l ∧ l ≤ 9223372036854775807) : Calls Tryz.prog 41 #[.pointer (some ⟨B, 0, none⟩)] w fun e w' => e = .returned (errV ((stepE l d : Nat) : Int)) ∧ DiskW w' B n (if stepE l d = 0 then n else k) (if stepE l d = 0 then .slice none 0 0 else v) (stepN l d) (stepF l d) ∧ OnlyB B w w' := by
  have HS := hideIt (stepW_any B n k v l d w h hl)
  clear h
  rcases step_two l d with ⟨e1, e2⟩ | ⟨e1, e2⟩
  · rw [e1, e2, if_neg (by decide), if_neg (by decide), errV_11]
    rw [e1, e2, errV_11] at HS
    go_enter Tryz.func41, Tryz.ntmps41
    go_wp2_with fail
    refine HS.out.mono ?_
    rintro e w1 ⟨rfl, h1, ho1⟩
    have H1 := hideIt h1
    have HO := hideIt ho1
    clear h1 ho1 HS
    go_wp2_with fail
    go_ret
    exact ⟨rfl, H1.out, HO.out⟩
  · rw [e1, e2, if_pos rfl, if_pos rfl, errV_0]
    rw [e1, e2, errV_0] at HS
    go_enter Tryz.func41, Tryz.ntmps41
    go_wp2_with fail
    refine HS.out.mono ?_
    rintro e w1 ⟨rfl, h1, ho1⟩
    have H2 := hideIt ((h1.setKept n).set8 (.slice none 0 0))
    have HO := hideIt (((ho1.putS 4 n)).set 8 (.slice none 0 0))
    obtain ⟨n0, n1, n2, n3⟩ := h1.now
    obtain ⟨k0, k1, k2, k3⟩ := h1.kept
    obtain ⟨k8, _, _⟩ := h1.rest
    have f4 := h1.frozen 4
    have f5 := h1.frozen 5
    have f6 := h1.frozen 6
    have f7 := h1.frozen 7
    have f8 := h1.frozen 8
    clear h1 ho1 HS
    go_wp2_with fail
    go_ret
    exact ⟨rfl, H2.out, HO.out⟩
end Go.Proofs.YtlljniaobbbjgaaGreatDoor
namespace Go.Proofs.YtlljniaobbbjgaaGreatDoor
open Go.RowKit Go.Shelf
/-- An answer, and yes if P. -/
def AnsIf (P : Prop) (w : World) (e : Ending) (w' : World) : Prop := ∃ b : Bool, e = .returned (.bool b) ∧ (P → b = true) ∧ Below w.heap.size w w'
theorem below_drewNE (w : World) (n : Nat) : Below w.heap.size w (w.drewN n) := ⟨rfl, rfl, rfl, Nat.le_refl _, fun _ _ => rfl⟩
set_option maxRecDepth 100000 in
set_option maxHeartbeats 1000000 in
theorem sameInts_any (v1 v2 : Value) (xs ys : List Int) (w : World) (h1 : IntsOf w v1 xs) (h2 : IntsOf w v2 ys) :
    Calls Tryz.prog 46 #[v1, v2] w fun e w' => ∃ b : Bool, e = .returned (.bool b) ∧ (xs = ys → b = true) ∧ ∃ n, w' = w.drewN n := by
  obtain ⟨a1, c1, rfl, m1, h1⟩ := h1
  obtain ⟨a2, c2, rfl, m2, h2⟩ := h2
  unfold maxLen at m1 m2
  have H1 := hideIt h1
  have H2 := hideIt h2
  clear h1 h2
  by_cases hl : xs.length = ys.length
  · rw [← hl]
    have HL := hideIt hl
    go_enter Tryz.func46, Tryz.ntmps46
    clear hl
    go_wp2_with fail
    go_loopw [5] (fun i wr => ∃ k m : Nat, k ≤ xs.length ∧ i = .int .i64 k ∧ wr = w.drewN m) (fun i _ => xs.length - (intOf i).toNat)
    case atStart => exact ⟨0, 0, by omega, rfl, rfl⟩
    case round =>
      obtain ⟨k, m, hk, rfl, rfl⟩ := hrel
      by_cases hlt : k < xs.length
      · obtain ⟨b1, o1, rfl, _, hc1⟩ := H1.out (by omega)
        obtain ⟨b2, o2, rfl, _, hc2⟩ := H2.out (by rw [← HL.out]; omega)
        have d1 := hc1 k hlt
        have d2 := hc2 k (by rw [← HL.out]; omega)
        clear hc1 hc2
        have HK : Hid (xs = ys → xs.getD k 0 = ys.getD k 0) := fun e => by rw [e]
        generalize xs.getD k 0 = x at *
        generalize ys.getD k 0 = y at *
        by_cases hxy : x = y
        · subst hxy
          go_wp2_with fail
          go_quiet (fail)
          go_wp2_with fail
          go_roundw
          case rel => exact ⟨k + 1, _, by omega, by go_num, rfl⟩
          case measure => simp [intOf]; omega
        · have hb : (x == y) = false := by simpa using hxy
          have HN := hideIt hxy
          clear hxy
          go_wp2_with fail
          go_quiet (fail)
          go_wp2_with fail
          go_ret
          exact ⟨_, rfl, fun e => absurd (HK.out e) HN.out, _, World.drewN_drewN _ _ _⟩
      · have hke : k = xs.length := by omega
        subst hke
        go_wp2_with fail
        go_ret
        exact ⟨_, rfl, fun _ => rfl, m, rfl⟩
  · have hb : ((xs.length : Int) == (ys.length : Int)) = false := by simp; omega
    have HN := hideIt hl
    clear hl
    go_enter Tryz.func46, Tryz.ntmps46
    go_wp2_with fail
    go_ret
    exact ⟨_, rfl, fun e => absurd (congrArg List.length e) HN.out, 0, rfl⟩
end Go.Proofs.YtlljniaobbbjgaaGreatDoor
namespace Go.Proofs.YtlljniaobbbjgaaGreatDoor.S1
open Go.RowKit
theorem text_any (A : Nat) (w : World) (hA : A < 18446744073709551616) :
    Calls Tryz.prog 59 #[.int .u64 A] w fun e w' => e = .returned (.string ⟨(Ost.txt A).toArray⟩) ∧ Below w.heap.size w w' :=
  text_loop A w hA (fun v w1 h _ => join_own v (txts A 64) w1 w.heap.size h (Nat.le_trans (txts_len A 64) (by omega)) (Nat.le_trans (Ost.txt_len A) (by omega)))
theorem txt6 : Ost.txt 6 = [49, 45, 50] := by
  have e : Ost.spansTo 6 64 = [(1, 2)] := by decide +kernel
  unfold Ost.txt Ost.joined
  rw [e]
  have d1 : Lib.decDigits 1 = [49] := by rw [Lib.decDigits_one (by omega)]; decide
  have d2 : Lib.decDigits 2 = [50] := by rw [Lib.decDigits_one (by omega)]; decide
  simp [Ost.spanTxt, d1, d2, Lib.join, List.intercalate]
def intsOf (l : List Nat) : List Int := l.map fun (n : Nat) => (n : Int)
theorem intsAt_row {w : World} {base : Nat} {v : Value} (l : List Nat) (h : w.ownsRow base 3 1 v l.length (nums l)) : IntsAt w v (intsOf l) := by
  rcases ownsRow_cells h with ⟨rfl, h0⟩ | ⟨g, cap, rfl, _, _, hc⟩
  · have : l = [] := List.eq_nil_of_length_eq_zero h0
    subst this
    exact .inl ⟨rfl, none, 0, rfl⟩
  · refine .inr ⟨g, 0, cap, by simp [intsOf], fun k hk => ?_⟩
    have hk2 : k < l.length := by simpa [intsOf] using hk
    rw [Nat.zero_add]
    apply hc
    simp [nums, intsOf, hk2]
theorem listTo_bits (A k : Nat) (hk : k ≤ 64) : (intsOf (Ost.listTo A k)).all inSet = true ∧ ∀ i, (orBits (intsOf (Ost.listTo A k))).testBit i = (A.testBit i && decide (i < k)) := by
  induction k with
  | zero => exact ⟨rfl, fun i => by simp [Ost.listTo, intsOf, orBits]⟩
  | succ k ih =>
    obtain ⟨h1, h2⟩ := ih (by omega)
    rw [Ost.listTo_succ]
    by_cases hb : A.testBit k = true
    · rw [if_pos hb]
      have e : intsOf (Ost.listTo A k ++ [k]) = intsOf (Ost.listTo A k) ++ [(k : Int)] := by simp [intsOf]
      rw [e]
      refine ⟨?_, fun i => ?_⟩
      · rw [List.all_append, h1]
        have : inSet (k : Int) = true := by unfold inSet; exact decide_eq_true (by omega)
        simp [this]
      · rw [orBits_snoc, Nat.testBit_or, h2, Int.toNat_natCast, Nat.testBit_two_pow]
        by_cases hik : k = i
        · subst hik; simp [hb]
        · have : decide (i < k) = decide (i < k + 1) := by
            by_cases h3 : i < k
            · rw [decide_eq_true h3, decide_eq_true (by omega)]
            · rw [decide_eq_false h3, decide_eq_false (by omega)]
          rw [this, decide_eq_false hik]; simp
    · rw [if_neg hb]
      refine ⟨h1, fun i => ?_⟩
      rw [h2]
      by_cases hik : i = k
      · subst hik; simp [show A.testBit i = false by simpa using hb]
      · have : decide (i < k) = decide (i < k + 1) := by
          by_cases h3 : i < k
          · rw [decide_eq_true h3, decide_eq_true (by omega)]
          · rw [decide_eq_false h3, decide_eq_false (by omega)]
        rw [this]
theorem of_list (A : Nat) (hA : A < 18446744073709551616) : ofOut (intsOf (Ost.listTo A 64)) = (A, 0) := by
  obtain ⟨h1, h2⟩ := listTo_bits A 64 (Nat.le_refl _)
  unfold ofOut
  rw [if_pos h1]
  congr 1
  apply Nat.eq_of_testBit_eq
  intro i
  rw [h2]
  by_cases hi : i < 64
  · rw [decide_eq_true hi, Bool.and_true]
  · rw [Ost.bit_high A hA i (by omega)]; rfl
theorem parse_c (s : ByteArray) (p : Nat) (f : Int) (w : World) (hs2 : s.size ≤ maxLen) (hm : Mx w) (h : Ost.parseOut s.data.toList = (p, f)) :
    Calls Tryz.prog 122 #[.string s] w fun e w' => e = .returned (.tuple #[.int .u64 (p : Nat), errV f]) ∧ Below w.heap.size w w' := by
  have := parse_any s w hs2 hm
  rw [h] at this; exact this
theorem and_lt64 (A B : Nat) (hA : A < 18446744073709551616) : A &&& B < 18446744073709551616 := Nat.lt_of_le_of_lt Nat.and_le_left hA
theorem txt_size (A : Nat) : (ByteArray.mk (Ost.txt A).toArray).size ≤ maxLen := by
  have := Ost.txt_len A
  show (Ost.txt A).toArray.size ≤ _
  unfold maxLen; simp; omega
end Go.Proofs.YtlljniaobbbjgaaGreatDoor.S1
namespace Go.Proofs.YtlljniaobbbjgaaGreatDoor
open Go.RowKit
open Qos (Nd Ct Pd nd ct pd)
open Sv (Gv Hd gv hd needTxt needsTxt devsTxt setTxt contWs givenWs lineTxt OkN OkC OkG)
open S1 (Tab strs strs_snoc strs_oneCell ownsRow_cells infoStr itoa_any)
theorem row_belowV {w w' : World} {base : Nat} {e : TypeId} {size : Nat} {v : Value} {n : Nat} {xs : List Value} (h : w.ownsRow base e size v n xs) (hb : Below w.heap.size w w') : w'.ownsRow base e size v n xs :=
  h.kept (row := none) ⟨hb.os, hb.tape, hb.output, hb.size, fun j hj _ => hb.block j hj⟩ (by cases hv : v.ownBlock <;> simp)
/-- strings.Join over a row of the call's own. -/
theorem join_any (c : UInt8) (v : Value) (xs : List (List UInt8)) (w : World) (base : Nat) (h : w.ownsRow base 9 1 v xs.length (strs xs)) (hn : xs.length ≤ 1000) (hl : (Lib.join xs [c]).length ≤ 1000000) :
    Calls Tryz.prog 76 #[v, .string ⟨#[c]⟩] w fun e w' => e = .returned (.string ⟨(Lib.join xs [c]).toArray⟩) ∧ Below w.heap.size w w' := by
  rcases ownsRow_cells h with ⟨rfl, h0⟩ | ⟨g, cap, rfl, hc, hg, hcell⟩
  · have : xs = [] := List.eq_nil_of_length_eq_zero h0
    subst this
    refine (Tryz.strings_Join_none none 0 ⟨#[c]⟩ w).mono ?_
    rintro e w' ⟨rfl, rfl⟩
    exact ⟨rfl, Below.refl _ _⟩
  · have hx : (xs.map fun (b : List UInt8) => ByteArray.mk b.toArray).map (·.data.toList) = xs := by
      rw [List.map_map]; exact List.map_id'' (fun _ => rfl) xs
    have := Tryz.strings_Join g 0 cap (xs.map fun (b : List UInt8) => ByteArray.mk b.toArray) ⟨#[c]⟩ w (fun j x hj => by
      rw [Nat.zero_add]
      apply hcell
      unfold strs
      rw [List.getElem?_map] at hj ⊢
      obtain ⟨a, ha, rfl⟩ := Option.map_eq_some_iff.1 hj
      rw [ha]; rfl) hg (by simp; omega) (by simpa using hc) (by rw [hx]; show (Lib.join xs [c]).length ≤ _; omega)
    rw [hx] at this
    simpa using this
def decs (xs : List Int) (k : Nat) : List (List UInt8) := (xs.take k).map Sv.dec
theorem decs_next {xs : List Int} {k : Nat} (h : k < xs.length) : decs xs (k + 1) = decs xs k ++ [Sv.dec (xs.getD k 0)] := by
  unfold decs
  rw [List.take_succ_eq_append_getElem h, List.map_append]; simp [h]
theorem decs_len {xs : List Int} {k : Nat} (h : k ≤ xs.length) : (decs xs k).length = k := by
  unfold decs; simp; omega
theorem decs_all (xs : List Int) : decs xs xs.length = xs.map Sv.dec := by unfold decs; rw [List.take_length]
set_option maxRecDepth 100000 in
set_option maxHeartbeats 2000000 in
theorem listInts_any (v : Value) (xs : List Int) (w : World) (h : IntsOf w v xs) (hx : ∀ x ∈ xs, 0 ≤ x ∧ x ≤ 15) (hl : xs.length ≤ 16) (htab : Tab w) (hG : 1 < w.heap.size) :
    Calls Tryz.prog 60 #[v, .func (.func 56) #[] #[]] w fun e w' => e = .returned (.string ⟨(devsTxt xs).toArray⟩) ∧ Below w.heap.size w w' := by
  obtain ⟨i0, hi, hz0, hz1, hz2⟩ := info_parts infoStr
  obtain ⟨ao, c, rfl, hm, hr⟩ := h
  have HR := hideIt hr
  have HT := hideIt htab
  have HX := hideIt hx
  have HG := hideIt hG
  clear hr htab hx hG
  unfold maxLen at hm
  have HJ : Hid (∀ (v : Value) (w1 : World), w1.ownsRow w.heap.size 9 1 v (decs xs xs.length).length (strs (decs xs xs.length)) → Calls Tryz.prog 76 #[v, .string ⟨#[44]⟩] w1 fun e w' => e = .returned (.string ⟨(Lib.join (decs xs xs.length) [44]).toArray⟩) ∧ Below w1.heap.size w1 w') := by
    intro v w1 h
    refine join_any 44 v _ w1 _ h (by rw [decs_len (Nat.le_refl _)]; omega) ?_
    refine Nat.le_trans (Sv.join_le 44 20 _ fun x hx => ?_) (by rw [decs_len (Nat.le_refl _)]; omega)
    rw [decs_all] at hx
    obtain ⟨d, hd, rfl⟩ := List.mem_map.1 hx
    exact Sv.dec_le d (by have := (HX.out d hd).2; omega)
  have HD : Hid (Sv.orNo (Lib.join (decs xs xs.length) [44]) = devsTxt xs) := by unfold Hid devsTxt; rw [decs_all]
  go_enter Tryz.func60, Tryz.ntmps60
  go_wp2_with fail
  go_loopw [5, 10] (fun r i wr => ∃ k : Nat, k ≤ xs.length ∧ i = .int .i64 k ∧ wr.ownsRow w.heap.size 9 1 r (decs xs k).length (strs (decs xs k)) ∧ Below w.heap.size w wr) (fun _ i _ => xs.length - (intOf i).toNat)
  case atStart => exact ⟨0, by omega, rfl, World.ownsRow_nil _ _ _ _, Below.refl _ _⟩
  case round =>
    obtain ⟨k, hk, rfl, hrow, hB⟩ := hrel
    by_cases hlt : k < xs.length
    · obtain ⟨b, o, rfl, hb, hc⟩ := HR.out (by omega)
      have h1 := (hB.cell (p := ⟨b, o + k, none⟩) hb).trans (hc k hlt)
      have HS := hideIt (decs_next hlt)
      have hle := decs_len hk
      have hxk := HX.out (xs.getD k 0) (by simp [hlt])
      have hsz := hB.size
      clear hc
      generalize xs.getD k 0 = x at *
      have HI := hideIt (itoa_any x wr hxk.1 (by omega) (HT.out.below hB HG.out))
      go_wp2_with fail
      refine HI.out.mono ?_
      rintro e w1 ⟨rfl, hb1⟩
      have HB1 := hideIt (hB.trans (hb1.mono hB.size))
      have hrow1 := row_belowV hrow hb1
      have hsz1 := hb1.size
      go_wp2_with (at_builtin; refine wpList_append_own _ rfl _ _ 41 rfl w.heap.size 9 i0 (.string ⟨#[]⟩) 1 16 Tryz.underlying41 hi hz0 hz1 hz2 rfl (by decide) _ _ _ rfl (hrow1.alloc _) ⟨_, 0, none⟩ 1 1 [.string ⟨(Sv.dec x).toArray⟩] rfl rfl (cell_one_new _ _ _) (strs_oneCell [Sv.dec x]) (by unfold maxLen; omega) (by omega) (by simp; omega) ?_; intro v' w2 hown' hgrow' _)
      go_roundw
      case rel =>
        refine ⟨k + 1, by omega, by go_num, ?_, ?_⟩
        · rw [HS.out, strs_snoc, List.length_append]; exact hown'
        · exact (HB1.out.alloc HB1.out.size _).grown hgrow' (by simp; omega) (fun j hj => (hrow1.lt j hj).1)
      case measure => simp [intOf]; omega
    · have hke : k = xs.length := by omega
      subst hke
      go_wp2_with fail
      refine (HJ.out _ _ hrow).mono ?_
      rintro e w1 ⟨rfl, hb1⟩
      have hB1 := hB.trans (hb1.mono hB.size)
      go_wp2_with fail
      refine (orNothing_any _ _).mono ?_
      rintro e w2 ⟨rfl, rfl⟩
      go_wp2_with fail
      go_ret
      exact ⟨by rw [← HD.out]; rfl, hB1⟩
end Go.Proofs.YtlljniaobbbjgaaGreatDoor
namespace Go.Proofs.YtlljniaobbbjgaaGreatDoor
open Go.RowKit
open Qos (Nd Ct Pd nd0 ct0 pd0 nd ct pd needF contF podF amtOk over twice leS)
open Dvs (nameMay first)
theorem podF_1 {p : Pd} (h : nameMay p.nm = false) : podF p = 3 := by unfold podF; rw [if_pos h]
theorem podF_2 {p : Pd} (h : nameMay p.nm = true) (h2 : p.pr < 0 ∨ 1000 < p.pr) : podF p = 1 := by unfold podF; rw [if_neg (by rw [h]; decide), if_pos h2]
theorem podF_3 {p : Pd} (h : nameMay p.nm = true) (h2 : ¬ (p.pr < 0 ∨ 1000 < p.pr)) (h3 : p.cs.length < 1 ∨ 3 < p.cs.length) : podF p = 2 := by unfold podF; rw [if_neg (by rw [h]; decide), if_neg h2, if_pos h3]
theorem podF_4 {p : Pd} (h : nameMay p.nm = true) (h2 : ¬ (p.pr < 0 ∨ 1000 < p.pr)) (h3 : ¬ (p.cs.length < 1 ∨ 3 < p.cs.length)) : podF p = first (contF p.cs) p.cs.length := by unfold podF; rw [if_neg (by rw [h]; decide), if_neg h2, if_neg h3]
theorem errQ_pos {f : Nat} (h : f ≠ 0) : errV (f : Int) = .iface 80 (.int .i64 f) := by unfold errV; rw [if_neg (by omega)]
theorem below_drew' {B : Nat} {a w : World} (h : Below B a w) : Below B a w.drew := ⟨h.os, h.tape, h.output, h.size, h.block⟩
set_option maxRecDepth 100000 in
set_option maxHeartbeats 2000000 in
theorem check_any (p : Pd) (cv : Value) (w : World) (h : ConsAt w cv p.cs) : Calls Tryz.prog 62 #[podV p cv] w fun e w' => e = .returned (errV (podF p : Nat)) ∧ Below w.heap.size w w' := by
  obtain ⟨ao, c, rfl, hm, hr⟩ := h
  have HR := hideIt hr
  have HM := hideIt hm
  clear hr hm
  have H1 := hideIt (@podF_1 p)
  have H2 := hideIt (@podF_2 p)
  have H3 := hideIt (@podF_3 p)
  have H4 := hideIt (@podF_4 p)
  unfold podV
  have HB0 := hideIt ((Below.refl w.heap.size w).alloc (Nat.le_refl _) (.cells #[.string p.nm, .int .i64 p.pr, .slice ao p.cs.length c] 59))
  rcases two (nameMay p.nm) with hn | hn
  · have H2 := hideIt (H2.out hn)
    have H3 := hideIt (H3.out hn)
    have H4 := hideIt (H4.out hn)
    by_cases hp : p.pr < 0 ∨ 1000 < p.pr
    · have he := H2.out hp
      go_enter Tryz.func62, Tryz.ntmps62
      go_wp2_with fail
      refine (name_any _ _).mono ?_
      rintro e w1 ⟨rfl, rfl⟩
      rw [hn]
      go_wp2_with fail
      refine (within_any _ _ _ _).mono ?_
      rintro e w1 ⟨rfl, rfl⟩
      rw [show (decide (0 ≤ p.pr) && decide (p.pr ≤ 1000)) = false by simp; omega]
      go_wp2_with fail
      go_ret
      exact ⟨by rw [he]; rfl, HB0.out⟩
    have H3 := hideIt (H3.out hp)
    have H4 := hideIt (H4.out hp)
    have hp' : (decide (0 ≤ p.pr) && decide (p.pr ≤ 1000)) = true := by simp; omega
    clear hp
    by_cases hl : p.cs.length < 1 ∨ 3 < p.cs.length
    · have he := H3.out hl
      have hl' : (decide ((1 : Int) ≤ p.cs.length) && decide ((p.cs.length : Int) ≤ 3)) = false := by simp; omega
      clear hl H1 H2 H3 H4
      go_enter Tryz.func62, Tryz.ntmps62
      go_wp2_with fail
      refine (name_any _ _).mono ?_
      rintro e w1 ⟨rfl, rfl⟩
      rw [hn]
      go_wp2_with fail
      refine (within_any _ _ _ _).mono ?_
      rintro e w1 ⟨rfl, rfl⟩
      rw [hp']
      go_wp2_with fail
      refine (within_any _ _ _ _).mono ?_
      rintro e w1 ⟨rfl, rfl⟩
      rw [hl']
      go_wp2_with fail
      go_ret
      exact ⟨by rw [he]; rfl, HB0.out⟩
    have HE := hideIt (H4.out hl)
    have hl' : (decide ((1 : Int) ≤ p.cs.length) && decide ((p.cs.length : Int) ≤ 3)) = true := by simp; omega
    have hlen : p.cs.length ≤ 3 := by omega
    rw [HE.out]
    clear hl H1 H2 H3 H4 HE
    clear H2 H3 H4
    generalize p.cs = cs at *
    go_enter Tryz.func62, Tryz.ntmps62
    go_wp2_with fail
    refine (name_any _ _).mono ?_
    rintro e w1 ⟨rfl, rfl⟩
    rw [hn]
    go_wp2_with fail
    refine (within_any _ _ _ _).mono ?_
    rintro e w1 ⟨rfl, rfl⟩
    rw [hp']
    go_wp2_with fail
    refine (within_any _ _ _ _).mono ?_
    rintro e w1 ⟨rfl, rfl⟩
    rw [hl']
    go_wp2_with fail
    go_loopw [25] (fun i wr => ∃ k : Nat, k ≤ cs.length ∧ i = .int .i64 k ∧ Below w.heap.size w wr ∧ Hid (w.heap.size < wr.heap.size) ∧ wr.cell? ⟨w.heap.size, 2, none⟩ = some (.slice ao cs.length c) ∧ Hid (first (contF cs) k = 0)) (fun i _ => cs.length - (intOf i).toNat)
    case atStart => exact ⟨0, by omega, rfl, HB0.out, by simp [Hid], by simp, rfl⟩
    case round =>
      obtain ⟨k, hk, rfl, hB, HLT, hcv, HF⟩ := hrel
      by_cases hlt : k < cs.length
      · obtain ⟨b, o, dv, rfl, hin⟩ := HR.out (by omega)
        have hin := hin.below hB
        obtain ⟨c0, c1, c2, c3, c4, c5⟩ := hin.at hlt
        have hkc : k ≤ c := Nat.le_trans hk HM.out.1
        have HO := hideIt (Dvs.first_hit (f := contF cs) (n := cs.length) HF.out · hlt)
        have HZ := hideIt (Dvs.first_zero (f := contF cs) (k := k) HF.out)
        have HI := hideIt hin
        have hB1 := hideIt (hB.alloc hB.size (.cells #[.string (ct cs k).nm, .int .i64 (ct cs k).am, .int .i64 (ct cs k).ab, .int .i64 (ct cs k).cm, .int .i64 (ct cs k).cb, dv k] 56))
        have HBX := hideIt ((BoxAt.made wr (ct cs k) (dv k)).below (below_drew' (Below.refl _ _)))
        have HCK := hideIt (fun W (hb : Below wr.heap.size wr W) => checkCont_any b o c k cs dv W (hin.below hb) hlt (Nat.le_trans HM.out.1 HM.out.2))
        have HL2 := hideIt ((Below.refl wr.heap.size wr).alloc (Nat.le_refl _) (.cells #[.string (ct cs k).nm, .int .i64 (ct cs k).am, .int .i64 (ct cs k).ab, .int .i64 (ct cs k).cm, .int .i64 (ct cs k).cb, dv k] 56))
        have HCV := hideIt hcv
        have hsl : ∃ a n e, dv k = .slice a n e := by
          obtain ⟨a, e, he, _⟩ := (hin.2 k hlt).2
          exact ⟨a, _, e, he⟩
        clear hin HF hB
        generalize ct cs k = x at *
        generalize dv k = d at *
        obtain ⟨da, dn, dc, rfl⟩ := hsl
        generalize contF cs k = F at *
        go_wp2_with fail
        obtain ⟨l0, b0, b1, b2, b3, b4, b5⟩ := HBX.out
        have HC2 := (below_drew' HL2.out).cell (p := ⟨w.heap.size, 2, none⟩) HLT.out |>.trans HCV.out
        clear HBX
        refine wp_region_held_drew (S := (fun w' => (w'.cell? ⟨wr.heap.size, 0, none⟩ = some (.string x.nm) ∧ w'.cell? ⟨wr.heap.size, 1, none⟩ = some (.int .i64 x.am) ∧ w'.cell? ⟨wr.heap.size, 2, none⟩ = some (.int .i64 x.ab) ∧ w'.cell? ⟨wr.heap.size, 3, none⟩ = some (.int .i64 x.cm) ∧ w'.cell? ⟨wr.heap.size, 4, none⟩ = some (.int .i64 x.cb) ∧ w'.cell? ⟨wr.heap.size, 5, none⟩ = some (.slice da dn dc)) ∧ w'.cell? ⟨w.heap.size, 2, none⟩ = some (.slice (some ⟨b, o, none⟩) cs.length c))) (by kernel_rfl) ⟨⟨b0, b1, b2, b3, b4, b5⟩, HC2⟩ (fun hHeld => ?_)
        refine wpAnyH_take (i := 0) (oi := { dst := some 30, op := Op.load 56 (Operand.tmp 4), type := 56, pos := "qos.go:31", after := #[], guard := none }) (v := ?v1x0) rfl (by kernel_rfl) (by kernel_rfl) (by kernel_rfl) (fun _ _ _ h => h) (Or.inl ⟨by rfl, ?h1x0⟩) (by assumption) ?r1x0
        case h1x0 =>
          intro w' hSw
          (try dsimp only at hSw)
          go_simp
          first | done | with_reducible rfl | rfl
        (try simp only [Act.put, List.setIfInBounds_toArray, List.set_cons_zero, List.set_cons_succ])
        refine wpAnyH_take (i := 1) (oi := { dst := some 31, op := Op.fieldAddr 59 (Operand.tmp 1) 2, type := 0, pos := "qos.go:31", after := #[], guard := none }) (v := ?v2x1) rfl (by kernel_rfl) (by kernel_rfl) (by kernel_rfl) (fun _ _ _ h => h) (Or.inl ⟨by rfl, ?h2x1⟩) (by assumption) ?r2x1
        case h2x1 =>
          intro w' hSw
          (try dsimp only at hSw)
          go_simp
          first | done | with_reducible rfl | rfl
        (try simp only [Act.put, List.setIfInBounds_toArray, List.set_cons_zero, List.set_cons_succ])
        refine wpAnyH_take (i := 2) (oi := { dst := some 32, op := Op.load 57 (Operand.tmp 31), type := 57, pos := "qos.go:31", after := #[{ on := 1, ground := Ground.data }], guard := none }) (v := ?v3x2) rfl (by kernel_rfl) (by kernel_rfl) (by kernel_rfl) (fun _ _ _ h => h) (Or.inl ⟨by rfl, ?h3x2⟩) (by assumption) ?r3x2
        case h3x2 =>
          intro w' hSw
          (try dsimp only at hSw)
          go_simp
          first | done | with_reducible rfl | rfl
        (try simp only [Act.put, List.setIfInBounds_toArray, List.set_cons_zero, List.set_cons_succ])
        refine wpAnyH_take (i := 3) (oi := { dst := some 33, op := Op.move (Operand.tmp 3), type := 3, pos := "qos.go:31", after := #[], guard := none }) (v := ?v4x3) rfl (by kernel_rfl) (by kernel_rfl) (by kernel_rfl) (fun _ _ _ h => h) (Or.inl ⟨by rfl, ?h4x3⟩) (by assumption) ?r4x3
        case h4x3 =>
          intro w' hSw
          (try dsimp only at hSw)
          go_simp
          first | done | with_reducible rfl | rfl
        (try simp only [Act.put, List.setIfInBounds_toArray, List.set_cons_zero, List.set_cons_succ])
        refine wpAnyH_take (i := 4) (oi := { dst := some 34, op := Op.slice 57 (Operand.tmp 32) none (some (Operand.tmp 33)) none, type := 57, pos := "qos.go:31", after := #[{ on := 2, ground := Ground.data }, { on := 3, ground := Ground.data }], guard := none }) (v := ?v5x4) rfl (by kernel_rfl) (by kernel_rfl) (by kernel_rfl) (fun _ _ _ h => h) (Or.inl ⟨by rfl, ?h5x4⟩) (by assumption) ?r5x4
        case h5x4 =>
          intro w' hSw
          (try dsimp only at hSw)
          go_simp
          first | done | with_reducible rfl | rfl
        (try simp only [Act.put, List.setIfInBounds_toArray, List.set_cons_zero, List.set_cons_succ])
        refine wpAnyH_ready (rs := [5]) (by kernel_rfl) (by simp) (AllReadyH.cons rfl (fun K hK => ?_) AllReadyH.nil)
        go_simp
        go_wp2_with fail
        refine (HCK.out _ (below_drew' HL2.out)).mono ?_
        rintro e w5 ⟨rfl, hb5⟩
        have HB5 := hideIt hb5
        have HS5 := hideIt (And.intro (And.intro ((hb5.cell (p := ⟨wr.heap.size, 0, none⟩) l0).trans b0) (And.intro ((hb5.cell (p := ⟨wr.heap.size, 1, none⟩) l0).trans b1) (And.intro ((hb5.cell (p := ⟨wr.heap.size, 2, none⟩) l0).trans b2) (And.intro ((hb5.cell (p := ⟨wr.heap.size, 3, none⟩) l0).trans b3) (And.intro ((hb5.cell (p := ⟨wr.heap.size, 4, none⟩) l0).trans b4) ((hb5.cell (p := ⟨wr.heap.size, 5, none⟩) l0).trans b5)))))) ((hb5.cell (p := ⟨w.heap.size, 2, none⟩) (Nat.lt_trans HLT.out l0)).trans HC2))
        clear hb5
        go_wp2_with fail
        refine hK.out _ _ HS5.out (fun hHeld => ?_)
        clear hK K
        refine wpAnyH_take (i := 6) (oi := { dst := some 5, op := Op.assign (Operand.tmp 35), type := 27, pos := "qos.go:31", after := #[{ on := 5, ground := Ground.data }, { on := 5, ground := Ground.chain }, { on := 0, ground := Ground.phase }, { on := 1, ground := Ground.phase }, { on := 2, ground := Ground.phase }, { on := 3, ground := Ground.phase }, { on := 4, ground := Ground.phase }, { on := 5, ground := Ground.phase }], guard := none }) (v := ?v6x6) rfl (by kernel_rfl) (by kernel_rfl) (by kernel_rfl) (fun _ _ _ h => h) (Or.inl ⟨by rfl, ?h6x6⟩) (by assumption) ?r6x6
        case h6x6 =>
          intro w' hSw
          (try dsimp only at hSw)
          go_simp
          first | done | with_reducible rfl | rfl
        (try simp only [Act.put, List.setIfInBounds_toArray, List.set_cons_zero, List.set_cons_succ])
        refine wpAnyH_done (by kernel_rfl) ?_ _
        have HB6 := hideIt ((below_drew' hB1.out).trans (HB5.out.mono (below_drew' hB1.out).size))
        have HC6 := hideIt hHeld.2
        have HL6 := hideIt (Nat.lt_of_lt_of_le (Nat.lt_trans HLT.out l0) HB5.out.size)
        clear HB5 HS5 hHeld hB1 HCK HL2 HCV HI HC2 b0 b1 b2 b3 b4 b5 l0 HLT hcv c0 c1 c2 c3 c4 c5
        by_cases hF : F = 0
        · have HZ' := hideIt (HZ.out hF)
          rw [show errV (F : Int) = .nilIface by rw [hF]; rfl]
          clear HO HZ hF
          go_wp2_with fail
          go_roundw
          case rel => exact ⟨k + 1, by omega, by go_num, HB6.out, HL6, HC6.out, HZ'⟩
          case measure => simp [intOf]; omega
        · have HO' := hideIt (HO.out hF)
          have HE := hideIt (errQ_pos hF)
          rw [HE.out]
          clear HO HZ hF
          go_wp2_with fail
          go_ret
          exact ⟨by rw [HO'.out, HE.out]; rfl, HB6.out⟩
      · have hke : k = cs.length := by omega
        subst hke
        have hB1 := hideIt hB
        clear hB
        go_wp2_with fail
        go_ret
        exact ⟨by rw [HF.out]; rfl, hB1.out⟩
  · have he := H1.out hn
    go_enter Tryz.func62, Tryz.ntmps62
    go_wp2_with fail
    refine (name_any _ _).mono ?_
    rintro e w1 ⟨rfl, rfl⟩
    rw [hn]
    go_wp2_with fail
    go_ret
    exact ⟨by rw [he]; rfl, HB0.out⟩
end Go.Proofs.YtlljniaobbbjgaaGreatDoor
namespace Go.Proofs.YtlljniaobbbjgaaGreatDoor
open Go.RowKit
open Qos (Nd Ct Pd nd ct pd)
open Ost (good val cut1 parseOut)
open S1 (Mx)
def nOf (l : List UInt8) : Int := if good 16 l = true then val l else 0
def gOf (l : List UInt8) : Bool := good 16 l
theorem readOut_n (l : List UInt8) : readOut 16 l = .tuple #[.int .i64 (nOf l), .bool (gOf l)] := by
  unfold readOut nOf gOf
  rcases two (good 16 l) with h | h <;> simp [h]
theorem numS_n (l : List UInt8) : Sv.numS l = if gOf l = true then some (nOf l) else none := by
  unfold Sv.numS nOf gOf
  rcases two (good 16 l) with h | h <;> simp [h]
theorem readNumber_any (s : ByteArray) (w : World) (hs : s.size ≤ maxLen) :
    Calls Tryz.prog 92 #[.string s] w fun e w' => e = .returned (.tuple #[.int .i64 (nOf s.data.toList), .bool (gOf s.data.toList)]) ∧ w' = w := by
  have HR := hideIt (read_any s 16 w hs)
  rw [readOut_n] at HR
  go_enter Tryz.func92, Tryz.ntmps92
  go_wp2_with fail
  refine HR.out.mono ?_
  rintro e w1 ⟨rfl, rfl⟩
  go_wp2_with fail
  go_ret2
  exact ⟨rfl, rfl⟩
set_option maxHeartbeats 400000 in
theorem readAmount_any (s r : ByteArray) (w : World) (hs : s.size ≤ maxLen) (hr : r.size ≤ maxLen) :
    Calls Tryz.prog 93 #[.string s, .string r] w fun e w' => e = .returned (.tuple #[.agg #[.int .i64 (nOf s.data.toList), .int .i64 (nOf r.data.toList)], .bool (gOf s.data.toList && gOf r.data.toList)]) ∧ Below w.heap.size w w' := by
  have HA := hideIt (fun W => readNumber_any s W hs)
  have HC := hideIt (fun W => readNumber_any r W hr)
  have HB := hideIt ((Below.refl w.heap.size w).alloc (Nat.le_refl _) (.cells #[.int .i64 (nOf s.data.toList), .int .i64 (nOf r.data.toList)] 53))
  generalize nOf s.data.toList = a at *
  generalize nOf r.data.toList = b at *
  generalize gOf s.data.toList = p at *
  generalize gOf r.data.toList = q at *
  rcases two p with rfl | rfl
  all_goals
    go_enter Tryz.func93, Tryz.ntmps93
    go_wp2_with fail
    refine (HA.out _).mono ?_
    rintro e w1 ⟨rfl, rfl⟩
    go_wp2_with fail
    refine (HC.out _).mono ?_
    rintro e w1 ⟨rfl, rfl⟩
    go_wp2_with fail
    (try simp only [Exit.inBlock, Exit.then])
    refine bodyPost_ret (v := .tuple #[.agg #[.int .i64 a, .int .i64 b], _]) ?_ rfl ⟨rfl, HB.out⟩
    rw [results_cell_tmp rfl]
    go_simp
theorem below_drewNR {B : Nat} {a w : World} (h : Below B a w) (n : Nat) : Below B a (w.drewN n) := ⟨h.os, h.tape, h.output, h.size, h.block⟩
set_option maxHeartbeats 400000 in
theorem readNeed_any (s : ByteArray) (w : World) (hs : s.size < 4294967281) (hm : Mx w) :
    Calls Tryz.prog 95 #[.string s] w fun e w' => e = .returned (.tuple #[.agg #[.string ⟨(cut1 58 s.data.toList).1.toArray⟩, .int .i64 (nOf (cut1 58 s.data.toList).2.1)], .bool (gOf (cut1 58 s.data.toList).2.1)]) ∧ Below w.heap.size w w' := by
  have HB0 := hideIt ((Below.refl w.heap.size w).alloc (Nat.le_refl _) (.cells #[.string ⟨#[]⟩, .int .i64 0] 115))
  have HC := hideIt (S1.cut_any s 58 _ hs (hm.below HB0.out))
  have hle := (S1.cut1_le 58 s.data.toList).2
  have hsz : s.data.toList.length = s.size := by simp
  generalize (cut1 58 s.data.toList).2.2 = fl at *
  generalize (cut1 58 s.data.toList).2.1 = b at *
  generalize (cut1 58 s.data.toList).1 = a at *
  have HN := hideIt (fun W => readNumber_any ⟨b.toArray⟩ W (by unfold maxLen; show b.length ≤ _; omega))
  have e0 : (ByteArray.mk b.toArray).data.toList = b := by simp
  rw [e0] at HN
  clear hm hle hsz e0
  generalize nOf b = n at *
  generalize gOf b = g at *
  go_enter Tryz.func95, Tryz.ntmps95
  go_wp2_with fail
  refine HC.out.mono ?_
  rintro e w1 ⟨rfl, m, rfl⟩
  go_wp2_with fail
  refine (HN.out _).mono ?_
  rintro e w1 ⟨rfl, rfl⟩
  go_wp2_with fail
  (try simp only [Exit.inBlock, Exit.then])
  refine bodyPost_ret (v := .tuple #[.agg #[.string ⟨a.toArray⟩, .int .i64 n], .bool g]) ?_ rfl ⟨rfl, ((below_drewNR HB0.out m).setCell (p := ⟨w.heap.size, 0, none⟩) (Nat.le_refl _) _).setCell (p := ⟨w.heap.size, 1, none⟩) (Nat.le_refl _) _⟩
  rw [results_cell_tmp rfl]
  go_simp
def cpOf (l : List UInt8) : Nat := if l = [45] then 0 else (parseOut l).1
def cgOf (l : List UInt8) : Bool := decide (l = [45]) || decide ((parseOut l).2 = 0)
theorem cpusOf_n (l : List UInt8) : Sv.cpusOf l = if cgOf l = true then some (cpOf l) else none := by
  unfold Sv.cpusOf cgOf cpOf
  by_cases h : l = [45]
  · simp [h]
  · by_cases h2 : (parseOut l).2 = 0 <;> simp [h, h2]
theorem dash_eq (s : ByteArray) : (s.toList == [45]) = decide (s.data.toList = [45]) := by
  rw [ByteArray.toList_eq]
  by_cases h : s.data.toList = [45] <;> simp [h]
set_option maxHeartbeats 400000 in
theorem readCPUs_any (s : ByteArray) (w : World) (hs : s.size ≤ maxLen) (hm : Mx w) :
    Calls Tryz.prog 96 #[.string s] w fun e w' => e = .returned (.tuple #[.int .u64 (cpOf s.data.toList : Nat), .bool (cgOf s.data.toList)]) ∧ Below w.heap.size w w' := by
  have hq := dash_eq s
  by_cases h : s.data.toList = [45]
  · have HE : Hid (cpOf s.data.toList = 0 ∧ cgOf s.data.toList = true) := by unfold Hid cpOf cgOf; simp [h]
    rw [decide_eq_true h] at hq
    rw [HE.out.1, HE.out.2]
    go_enter Tryz.func96, Tryz.ntmps96
    go_wp2_with fail
    go_ret2
    exact ⟨rfl, Below.refl _ _⟩
  · rw [decide_eq_false h] at hq
    have HE : Hid (cpOf s.data.toList = (parseOut s.data.toList).1 ∧ cgOf s.data.toList = decide ((parseOut s.data.toList).2 = 0)) := by unfold Hid cpOf cgOf; simp [h]
    have HP := hideIt (S1.parse_any s w hs hm)
    unfold S1.setErr at HP
    rw [HE.out.1, HE.out.2]
    clear HE hm
    generalize (parseOut s.data.toList).1 = A at *
    by_cases h0 : (parseOut s.data.toList).2 = 0
    · have e0 : S1.errV (parseOut s.data.toList).2 = .nilIface := by rw [h0]; rfl
      rw [e0] at HP
      rw [decide_eq_true h0]
      go_enter Tryz.func96, Tryz.ntmps96
      go_wp2_with fail
      refine HP.out.mono ?_
      rintro e w1 ⟨rfl, hb⟩
      go_wp2_with fail
      go_quiet (fail)
      go_wp2_with fail
      go_ret2
      exact ⟨rfl, below_drewNR hb _⟩
    · have e0 : S1.errV (parseOut s.data.toList).2 = .iface 80 (.int .i64 (parseOut s.data.toList).2) := by unfold S1.errV; rw [if_neg h0]
      rw [e0] at HP
      rw [decide_eq_false h0]
      generalize (parseOut s.data.toList).2 = f at *
      go_enter Tryz.func96, Tryz.ntmps96
      go_wp2_with fail
      refine HP.out.mono ?_
      rintro e w1 ⟨rfl, hb⟩
      go_wp2_with fail
      go_quiet (fail)
      go_wp2_with fail
      go_ret2
      exact ⟨rfl, below_drewNR hb _⟩
end Go.Proofs.YtlljniaobbbjgaaGreatDoor
namespace Go.Proofs.YtlljniaobbbjgaaGreatDoor
open Go.RowKit
open Qos (Nd Ct Pd nd ct pd podF leS)
open Sv (Gv Hd gv hd devF devF1 gsF behindF oneF heldF lowAt)
open Dvs (nameMay first)
theorem IntsOf.slice {w : World} {v : Value} {xs : List Int} (h : IntsOf w v xs) : ∃ ao c, v = .slice ao xs.length c := by
  obtain ⟨ao, c, rfl, _⟩ := h
  exact ⟨ao, c, rfl⟩
theorem devF_many {xs : List Int} (h : 16 < xs.length) : devF xs = 2 := by unfold devF; rw [if_pos h]
theorem devF_few {xs : List Int} (h : ¬ 16 < xs.length) : devF xs = first (devF1 xs) xs.length := by unfold devF; rw [if_neg h]
/-- The number ahead, or -1. -/
def lastI (xs : List Int) (k : Nat) : Int := if k = 0 then -1 else xs.getD (k - 1) 0
theorem lastI_next (xs : List Int) (k : Nat) : lastI xs (k + 1) = xs.getD k 0 := rfl
theorem devF1_at {xs : List Int} {k : Nat} (h : first (devF1 xs) k = 0) (hk : k < xs.length) : devF1 xs k = if xs.getD k 0 ≤ lastI xs k ∨ 16 ≤ xs.getD k 0 then 3 else 0 := by
  unfold devF1
  by_cases h0 : k = 0
  · subst h0
    rw [show lastI xs 0 = -1 from rfl]
    by_cases h1 : xs.getD 0 0 < 0 ∨ 15 < xs.getD 0 0
    · rw [if_pos (by omega), if_pos (by omega)]
    · rw [if_neg (by omega), if_neg (by omega)]
  · have e : lastI xs k = xs.getD (k - 1) 0 := by unfold lastI; rw [if_neg h0]
    rw [e]
    have hp := Dvs.first_all h (k - 1) (by omega)
    unfold devF1 at hp
    split at hp
    · cases hp
    rename_i h2
    by_cases h1 : xs.getD k 0 ≤ xs.getD (k - 1) 0 ∨ 16 ≤ xs.getD k 0
    · rw [if_pos h1, if_pos (by omega)]
    · rw [if_neg h1, if_neg (by omega)]
set_option maxRecDepth 100000 in
set_option maxHeartbeats 1000000 in
theorem checkDevs_any (v : Value) (xs : List Int) (w : World) (h : IntsOf w v xs) : Calls Tryz.prog 63 #[v] w fun e w' => e = .returned (errV (devF xs : Nat)) ∧ w' = w := by
  obtain ⟨ao, c, rfl, hm, hr⟩ := h
  have HR := hideIt hr
  clear hr
  have HM := hideIt hm
  unfold maxLen at hm
  by_cases hn : 16 < xs.length
  · have he := devF_many hn
    have hd : decide ((16 : Int) < (xs.length : Int)) = true := decide_eq_true (by omega)
    go_enter Tryz.func63, Tryz.ntmps63
    go_wp2_with fail
    go_ret
    exact ⟨by rw [he]; rfl, rfl⟩
  · rw [devF_few hn]
    have hl : xs.length ≤ 16 := by omega
    have hd : decide ((16 : Int) < (xs.length : Int)) = false := decide_eq_false (by omega)
    go_enter Tryz.func63, Tryz.ntmps63
    go_wp2_with fail
    go_loop [3, 12] (fun la i => ∃ k : Nat, k ≤ xs.length ∧ i = .int .i64 k ∧ la = .int .i64 (lastI xs k) ∧ Hid (first (devF1 xs) k = 0)) (fun _ i => xs.length - (intOf i).toNat)
    case atStart => exact ⟨0, by omega, rfl, rfl, rfl⟩
    case round =>
      obtain ⟨k, hk, rfl, rfl, HF⟩ := hrel
      by_cases hlt : k < xs.length
      · obtain ⟨b, o, rfl, hb, hc⟩ := HR.out (by omega)
        have h1 := hc k hlt
        have HO := hideIt (Dvs.first_hit (f := devF1 xs) (n := xs.length) HF.out · hlt)
        have HZ := hideIt (Dvs.first_zero (f := devF1 xs) (k := k) HF.out)
        have HA := hideIt (devF1_at HF.out hlt)
        have HN := hideIt (lastI_next xs k)
        clear hc HF HR HM
        generalize xs.getD k 0 = x at *
        generalize lastI xs k = L at *
        by_cases ha : x ≤ L
        · have e3 : devF1 xs k = 3 := by rw [HA.out, if_pos (.inl ha)]
          have hd1 : decide (x ≤ L) = true := decide_eq_true ha
          have HO' := hideIt (HO.out (by omega))
          go_wp2_with fail
          go_ret
          exact ⟨by rw [HO'.out, e3]; rfl, rfl⟩
        · have hd1 : decide (x ≤ L) = false := decide_eq_false ha
          by_cases hg : 16 ≤ x
          · have e3 : devF1 xs k = 3 := by rw [HA.out, if_pos (.inr hg)]
            have hd2 : decide (16 ≤ x) = true := decide_eq_true hg
            have HO' := hideIt (HO.out (by omega))
            go_wp2_with fail
            go_ret
            exact ⟨by rw [HO'.out, e3]; rfl, rfl⟩
          · have e0 : devF1 xs k = 0 := by rw [HA.out, if_neg (by omega)]
            have hd2 : decide (16 ≤ x) = false := decide_eq_false hg
            have HZ' := hideIt (HZ.out e0)
            clear HO HZ HA
            go_wp2_with fail
            go_round
            case rel => exact ⟨k + 1, by omega, by go_num, by rw [HN.out], HZ'⟩
            case measure => simp [intOf]; omega
      · have hke : k = xs.length := by omega
        subst hke
        go_wp2_with fail
        go_ret
        exact ⟨by rw [HF.out]; rfl, rfl⟩
theorem GivsIn.at {w : World} {b o : Nat} {gs : List Gv} {dv : Nat → Value} (h : GivsIn w b o gs dv) {k : Nat} (hk : k < gs.length) :
    w.cell? ⟨b, o + k * 2, none⟩ = some (.int .u64 (gv gs k).cp) ∧ w.cell? ⟨b, o + k * 2 + 1, none⟩ = some (dv k) := ⟨(h.2 k hk).1.1, (h.2 k hk).1.2.1⟩
theorem behind_1 {h : Hd} {b : Bool} (e : podF h.pod ≠ 0) : behindF h b = podF h.pod := by unfold behindF; rw [if_pos e]
theorem behind_2 {h : Hd} {b : Bool} (e : podF h.pod = 0) (e2 : b = true ∨ h.gs.length ≠ h.pod.cs.length) : behindF h b = 3 := by unfold behindF; rw [if_neg (by omega), if_pos e2]
theorem behind_3 {h : Hd} {b : Bool} (e : podF h.pod = 0) (e2 : ¬ (b = true ∨ h.gs.length ≠ h.pod.cs.length)) : behindF h b = first (fun k => devF (gv h.gs k).dv) h.gs.length := by unfold behindF; rw [if_neg (by omega), if_neg e2]; rfl
theorem ConsAt.sl {w : World} {v : Value} {cs : List Ct} (h : ConsAt w v cs) : ∃ ao c, v = .slice ao cs.length c := by
  obtain ⟨ao, c, rfl, _⟩ := h
  exact ⟨ao, c, rfl⟩
theorem GivsAt.sl {w : World} {v : Value} {cs : List Gv} (h : GivsAt w v cs) : ∃ ao c, v = .slice ao cs.length c := by
  obtain ⟨ao, c, rfl, _⟩ := h
  exact ⟨ao, c, rfl⟩
/-- What is held, behind a name. -/
def lowS (a last : ByteArray) : Bool := leS a last
set_option maxRecDepth 100000 in
set_option maxHeartbeats 2000000 in
theorem checkHeld_any (h : Hd) (cv gvv : Value) (last : ByteArray) (w : World) (hc : ConsAt w cv h.pod.cs) (hg : GivsAt w gvv h.gs) :
    Calls Tryz.prog 33 #[heldV h cv gvv, .string last] w fun e w' => e = .returned (errV (behindF h (leS h.pod.nm last) : Nat)) ∧ Below w.heap.size w w' := by
  unfold heldV
  have HB0 := hideIt ((Below.refl w.heap.size w).alloc (Nat.le_refl _) (.cells #[.string h.pod.nm, .int .i64 h.pod.pr, cv, gvv] 67))
  have hcb := hc.below HB0.out
  have hgb := hg.below HB0.out
  have HCK := hideIt (check_any h.pod cv _ hcb)
  have HCB := hideIt hcb
  have HGB := hideIt hgb
  obtain ⟨cao, cc, rfl⟩ := hc.sl
  obtain ⟨gao, gc, rfl⟩ := hg.sl
  clear hc hg hcb hgb
  unfold podV at HCK
  by_cases hp : podF h.pod = 0
  · have e0 : errV ((podF h.pod : Nat) : Int) = .nilIface := by rw [hp]; rfl
    go_enter Tryz.func33, Tryz.ntmps33
    go_wp2_with fail
    refine HCK.out.mono ?_
    rintro e w1 ⟨rfl, hb⟩
    rw [e0]
    have HB1 := hideIt (HB0.out.trans (hb.mono HB0.out.size))
    have hG := HGB.out.below hb
    have c0 : w1.cell? ⟨w.heap.size, 0, none⟩ = some (.string h.pod.nm) := (hb.cell (p := ⟨w.heap.size, 0, none⟩) (by simp)).trans (by simp)
    have c2 : w1.cell? ⟨w.heap.size, 2, none⟩ = some (.slice cao h.pod.cs.length cc) := (hb.cell (p := ⟨w.heap.size, 2, none⟩) (by simp)).trans (by simp)
    have c3 : w1.cell? ⟨w.heap.size, 3, none⟩ = some (.slice gao h.gs.length gc) := (hb.cell (p := ⟨w.heap.size, 3, none⟩) (by simp)).trans (by simp)
    clear hb HCK HCB HGB
    rcases two (leS h.pod.nm last) with hle | hle
    · have HE := hideIt (behind_2 (b := leS h.pod.nm last) hp (.inl hle))
      unfold leS at hle
      go_wp2_with fail
      go_ret
      exact ⟨by rw [HE.out]; rfl, HB1.out⟩
    · by_cases hl : h.gs.length = h.pod.cs.length
      · have HE := hideIt (behind_3 (b := leS h.pod.nm last) hp (by rw [hle]; simp [hl]))
        unfold leS at hle
        have hl2 : (h.gs.length : Int) = (h.pod.cs.length : Int) := by omega
        obtain ⟨_, _, hgv, hm, hr⟩ := hG
        cases hgv
        have HR := hideIt hr
        have HM := hideIt hm
        clear hr
        unfold maxLen at hm
        generalize h.gs = gs at *
        go_wp2_with fail
        go_loopw [34] (fun i wr => ∃ k : Nat, k ≤ gs.length ∧ i = .int .i64 k ∧ Below w.heap.size w wr ∧ Below w1.heap.size w1 wr ∧ Hid (first (fun k => devF (gv gs k).dv) k = 0)) (fun i _ => gs.length - (intOf i).toNat)
        case atStart => exact ⟨0, by omega, rfl, HB1.out, Below.refl _ _, rfl⟩
        case round =>
          obtain ⟨k, hk, rfl, hB, hB1, HF⟩ := hrel
          by_cases hlt : k < gs.length
          · obtain ⟨b, o, dv, rfl, hin⟩ := HR.out (by omega)
            have hin := hin.below hB1
            obtain ⟨d0, d1⟩ := hin.at hlt
            have hI := (hin.2 k hlt).2
            have HO : Hid (devF (gv gs k).dv ≠ 0 → first (fun k => devF (gv gs k).dv) gs.length = devF (gv gs k).dv) := hideIt fun h => Dvs.first_hit (f := fun k => devF (gv gs k).dv) (n := gs.length) HF.out h hlt
            have HZ : Hid (devF (gv gs k).dv = 0 → first (fun k => devF (gv gs k).dv) (k + 1) = 0) := hideIt fun h => Dvs.first_zero (f := fun k => devF (gv gs k).dv) (k := k) HF.out h
            have HBW := hideIt ((Below.refl wr.heap.size wr).alloc (Nat.le_refl _) (.cells #[.int .u64 (gv gs k).cp, dv k] 64))
            have HBa := hideIt (hB.alloc hB.size (.cells #[.int .u64 (gv gs k).cp, dv k] 64))
            have HBb := hideIt (hB1.alloc hB1.size (.cells #[.int .u64 (gv gs k).cp, dv k] 64))
            have HCD := hideIt (checkDevs_any (dv k) _ _ (hI.below HBW.out))
            obtain ⟨iao, ic, hsl⟩ := hI.slice
            clear hin hI HF hB hB1
            generalize (gv gs k).cp = cp at *
            generalize devF (gv gs k).dv = F at *
            generalize (gv gs k).dv.length = dn at *
            generalize dv k = d at *
            subst hsl
            go_wp2_with fail
            refine HCD.out.mono ?_
            rintro e w5 ⟨rfl, rfl⟩
            by_cases hF : F = 0
            · have HZ' := hideIt (HZ.out hF)
              rw [show errV (F : Int) = .nilIface by rw [hF]; rfl]
              clear HO HZ hF HCD
              go_wp2_with fail
              go_roundw
              case rel => exact ⟨k + 1, by omega, by go_num, HBa.out, HBb.out, HZ'⟩
              case measure => simp [intOf]; omega
            · have HO' := hideIt (HO.out hF)
              have HP := hideIt (errQ_pos hF)
              rw [HP.out]
              clear HO HZ hF HCD
              go_wp2_with fail
              go_ret
              exact ⟨by rw [HE.out, HO'.out, HP.out]; rfl, HBa.out⟩
          · have hke : k = gs.length := by omega
            subst hke
            have HBa := hideIt hB
            clear hB hB1
            go_wp2_with fail
            go_ret
            exact ⟨by rw [HE.out, HF.out]; rfl, HBa.out⟩
      · have HE := hideIt (behind_2 (b := leS h.pod.nm last) hp (.inr hl))
        unfold leS at hle
        have hl2 : ((h.gs.length : Int) == (h.pod.cs.length : Int)) = false := by simp; omega
        go_wp2_with fail
        go_ret
        exact ⟨by rw [HE.out]; rfl, HB1.out⟩
  · have HE := hideIt (behind_1 (b := leS h.pod.nm last) hp)
    have HP := hideIt (errQ_pos hp)
    go_enter Tryz.func33, Tryz.ntmps33
    go_wp2_with fail
    refine HCK.out.mono ?_
    rintro e w1 ⟨rfl, hb⟩
    have HB1 := hideIt (HB0.out.trans (hb.mono HB0.out.size))
    rw [HP.out]
    clear hb
    go_wp2_with fail
    go_ret
    exact ⟨by rw [HE.out, HP.out]; rfl, HB1.out⟩
theorem HldsIn.at {w : World} {b o : Nat} {hs : List Hd} {cv gvv : Nat → Value} (h : HldsIn w b o hs cv gvv) {k : Nat} (hk : k < hs.length) :
    w.cell? ⟨b, o + k * 4, none⟩ = some (.string (hd hs k).pod.nm) ∧ w.cell? ⟨b, o + k * 4 + 1, none⟩ = some (.int .i64 (hd hs k).pod.pr) ∧ w.cell? ⟨b, o + k * 4 + 2, none⟩ = some (cv k) ∧ w.cell? ⟨b, o + k * 4 + 3, none⟩ = some (gvv k) := (h.2 k hk).1
/-- The name ahead, or none. -/
def lastS (hs : List Hd) (k : Nat) : ByteArray := if k = 0 then ByteArray.empty else (hd hs (k - 1)).pod.nm
theorem lastS_next (hs : List Hd) (k : Nat) : lastS hs (k + 1) = (hd hs k).pod.nm := rfl
theorem name_above {s : ByteArray} (h : nameMay s = true) : leS s ByteArray.empty = false := by
  have h0 := (Sv.name_size h).1
  rw [leS, ByteArray.toList_eq, ByteArray.toList_eq]
  cases hs : s.data.toList with
  | nil => rw [hs] at h0; simp at h0
  | cons a r => rfl
theorem behind_low {h : Hd} {b : Bool} (hb : nameMay h.pod.nm = true → b = false) : behindF h b = behindF h false := by
  unfold behindF
  by_cases hp : podF h.pod = 0
  · have hn := (Qos.pod_len hp).1
    rw [hb hn]
  · rw [if_pos hp, if_pos hp]
theorem one_last (hs : List Hd) (k : Nat) : behindF (hd hs k) (leS (hd hs k).pod.nm (lastS hs k)) = oneF hs k := by
  unfold oneF lowAt lastS
  by_cases h0 : k = 0
  · subst h0
    rw [if_pos rfl]
    show _ = behindF (hd hs 0) false
    exact behind_low name_above
  · rw [if_neg h0, decide_eq_true (by omega : 0 < k)]
    rfl
theorem heldF_many {hs : List Hd} (h : 12 < hs.length) : heldF hs = 2 := by unfold heldF; rw [if_pos h]
theorem heldF_few {hs : List Hd} (h : ¬ 12 < hs.length) : heldF hs = first (oneF hs) hs.length := by unfold heldF; rw [if_neg h]
set_option maxRecDepth 100000 in
set_option maxHeartbeats 2000000 in
theorem saveCheck_any (v : Value) (hs : List Hd) (w : World) (h : HldsAt w v hs) : Calls Tryz.prog 11 #[v] w fun e w' => e = .returned (errV (heldF hs : Nat)) ∧ Below w.heap.size w w' := by
  obtain ⟨ao, c, rfl, hm, hr⟩ := h
  have HR := hideIt hr
  clear hr
  have HM := hideIt hm
  unfold maxLen at hm
  by_cases hn : 12 < hs.length
  · have he := heldF_many hn
    have hd1 : decide ((12 : Int) < (hs.length : Int)) = true := decide_eq_true (by omega)
    go_enter Tryz.func11, Tryz.ntmps11
    go_wp2_with fail
    go_ret
    exact ⟨by rw [he]; rfl, Below.refl _ _⟩
  · rw [heldF_few hn]
    have hl : hs.length ≤ 12 := by omega
    have hd1 : decide ((12 : Int) < (hs.length : Int)) = false := decide_eq_false (by omega)
    go_enter Tryz.func11, Tryz.ntmps11
    go_wp2_with fail
    go_loopw [3, 13] (fun la i wr => ∃ k : Nat, k ≤ hs.length ∧ i = .int .i64 k ∧ la = .string (lastS hs k) ∧ Below w.heap.size w wr ∧ Hid (first (oneF hs) k = 0)) (fun _ i _ => hs.length - (intOf i).toNat)
    case atStart => exact ⟨0, by omega, rfl, rfl, Below.refl _ _, rfl⟩
    case round =>
      obtain ⟨k, hk, rfl, rfl, hB, HF⟩ := hrel
      by_cases hlt : k < hs.length
      · obtain ⟨b, o, cv, gvv, rfl, hin⟩ := HR.out (by omega)
        have hin := hin.below hB
        obtain ⟨d0, d1, d2, d3⟩ := hin.at hlt
        obtain ⟨_, hC, hG⟩ := hin.2 k hlt
        have HO := hideIt (Dvs.first_hit (f := oneF hs) (n := hs.length) HF.out · hlt)
        have HZ := hideIt (Dvs.first_zero (f := oneF hs) (k := k) HF.out)
        have HBW := hideIt ((Below.refl wr.heap.size wr).alloc (Nat.le_refl _) (.cells #[.string (hd hs k).pod.nm, .int .i64 (hd hs k).pod.pr, cv k, gvv k] 67))
        have HBa := hideIt (hB.alloc hB.size (.cells #[.string (hd hs k).pod.nm, .int .i64 (hd hs k).pod.pr, cv k, gvv k] 67))
        have HCH := hideIt (checkHeld_any (hd hs k) (cv k) (gvv k) (lastS hs k) _ (hC.below HBW.out) (hG.below HBW.out))
        rw [one_last hs k] at HCH
        unfold heldV at HCH
        have HN := hideIt (lastS_next hs k)
        obtain ⟨ca, cc, hs1⟩ := hC.sl
        obtain ⟨ga, gc, hs2⟩ := hG.sl
        clear hin hC hG HF hB
        generalize lastS hs k = L at *
        generalize oneF hs k = F at *
        generalize (hd hs k).pod.nm = nm at *
        generalize (hd hs k).pod.pr = pr at *
        generalize (hd hs k).pod.cs.length = cl at *
        generalize (hd hs k).gs.length = gl at *
        generalize cv k = cvk at *
        generalize gvv k = gvk at *
        subst hs1 hs2
        go_wp2_with fail
        refine HCH.out.mono ?_
        rintro e w5 ⟨rfl, hb5⟩
        have HB5 := hideIt (HBa.out.trans (hb5.mono HBa.out.size))
        have c0 : w5.cell? ⟨wr.heap.size, 0, none⟩ = some (.string nm) := (hb5.cell (p := ⟨wr.heap.size, 0, none⟩) (by simp)).trans (by simp)
        clear hb5
        by_cases hF : F = 0
        · have HZ' := hideIt (HZ.out hF)
          rw [show errV (F : Int) = .nilIface by rw [hF]; rfl]
          clear HO HZ hF HCH
          go_wp2_with fail
          go_roundw
          case rel => exact ⟨k + 1, by omega, by go_num, by rw [HN.out], HB5.out, HZ'⟩
          case measure => simp [intOf]; omega
        · have HO' := hideIt (HO.out hF)
          have HP := hideIt (errQ_pos hF)
          rw [HP.out]
          clear HO HZ hF HCH
          go_wp2_with fail
          go_ret
          exact ⟨by rw [HO'.out, HP.out]; rfl, HB5.out⟩
      · have hke : k = hs.length := by omega
        subst hke
        have HBa := hideIt hB
        clear hB
        go_wp2_with fail
        go_ret
        exact ⟨by rw [HF.out]; rfl, HBa.out⟩
end Go.Proofs.YtlljniaobbbjgaaGreatDoor
namespace Go.Proofs.YtlljniaobbbjgaaGreatDoor
open Go.RowKit Go.Shelf
open Ost (splitC)
attribute [local go_sem] Oper.semAt_some
theorem results_cc {fn : Func} {p q : Tmp} {ty ty' : TypeId} (h : fn.results = #[.cell p ty, .cell q ty']) (tmps : Array Value) (P : Program) (w : World) :
    (results fn tmps).run P w =
      ((asAddr (tmps.getD p undef)).run P w).andThen fun a w₁ => ((loadVar ty a).run P w₁).andThen fun v w₂ => ((asAddr (tmps.getD q undef)).run P w₂).andThen fun b w₃ => ((loadVar ty' b).run P w₃).andThen fun u w₄ => .ok (.tuple #[v, u]) w₄ := by
  simp only [results, h]
  simp [Sem.run_bind, Result.andThen]
theorem Apart.boxed {K : Nat → Prop} {A B : World} (h : Apart K A B) {b : Nat} {t : TypeId} {v : Value} (hb : Boxed A b t v) (hn : ¬ K b) : Boxed B b t v := (h.block b hb.lt hn).trans hb
theorem Apart.below {K : Nat → Prop} {A B : World} (h : Apart K A B) {w : World} {N : Nat} (hb : Below N w A) (hN : N ≤ w.heap.size) (hK : ∀ j, K j → N ≤ j) : Below N w B :=
  ⟨h.os.trans hb.os, h.tape.trans hb.tape, h.output.trans hb.output, Nat.le_trans hb.size h.size, fun j hj => (h.block j (Nat.lt_of_lt_of_le (Nat.lt_of_lt_of_le hj hN) hb.size) (fun e => by have := hK j e; omega)).trans (hb.block j hj)⟩
theorem Apart.row {K : Nat → Prop} {A B : World} (h : Apart K A B) {base : Nat} {e : TypeId} {size : Nat} {v : Value} {n : Nat} {xs : List Value} (hr : A.ownsRow base e size v n xs) (hK : ∀ j, K j → j < base) : B.ownsRow base e size v n xs := by
  obtain ⟨h1, h2⟩ := hr
  refine ⟨h1, h2.imp id ?_⟩
  rintro ⟨g, cap, cur, hv, hg, hh, r⟩
  exact ⟨g, cap, cur, hv, hg, (h.block g (Array.getElem?_eq_some_iff.1 hh).1 (fun e => by have := hK g e; omega)).trans hh, r⟩
def intsV (l : List Int) : List Value := l.map fun (n : Int) => Value.int .i64 n
theorem ints_of_row {w : World} {base : Nat} {v : Value} {xs : List Int} (h : w.ownsRow base 3 1 v xs.length (intsV xs)) : IntsOf w v xs := by
  obtain ⟨hl, h⟩ := h
  rcases h with ⟨rfl, h0⟩ | ⟨g, cap, cur, rfl, hb, hh, hn, hc, hs, ht⟩
  · exact ⟨none, 0, by rw [h0], ⟨by omega, by unfold maxLen; omega⟩, fun h => by omega⟩
  · refine ⟨_, cap, rfl, ⟨hn, hc⟩, fun _ => ⟨g, 0, rfl, (Array.getElem?_eq_some_iff.1 hh).1, fun k hk => ?_⟩⟩
    have hx : (intsV xs)[k]? = some (.int .i64 (xs.getD k 0)) := by simp [intsV, hk]
    rw [← ht, List.getElem?_take, if_pos (by omega)] at hx
    rw [Nat.zero_add]
    simp only [World.cell?, hh]
    simpa using hx
/-- What is read of the first pieces. -/
def numsTo (ps : List (List UInt8)) (k : Nat) : List Int := (ps.take k).map nOf
theorem numsTo_next {ps : List (List UInt8)} {k : Nat} (h : k < ps.length) : numsTo ps (k + 1) = numsTo ps k ++ [nOf ps[k]] := by
  unfold numsTo
  rw [List.take_succ_eq_append_getElem h, List.map_append]; rfl
theorem numsTo_len {ps : List (List UInt8)} {k : Nat} (h : k ≤ ps.length) : (numsTo ps k).length = k := by unfold numsTo; simp; omega
theorem allOf_good {ps : List (List UInt8)} (h : ∀ x ∈ ps, gOf x = true) : Sv.allOf Sv.numS ps = some (ps.map nOf) := by
  induction ps with
  | nil => rfl
  | cons x r ih => rw [Sv.allOf, numS_n, if_pos (h x (by simp)), ih fun y hy => h y (by simp [hy])]; rfl
theorem allOf_bad {ps : List (List UInt8)} {x : List UInt8} (hx : x ∈ ps) (h : gOf x = false) : Sv.allOf Sv.numS ps = none := by
  induction ps with
  | nil => simp at hx
  | cons y r ih =>
    rw [Sv.allOf, numS_n]
    rcases List.mem_cons.1 hx with rfl | hx
    · rw [h]; rfl
    · cases gOf y with
      | true => rw [if_pos rfl, ih hx]; rfl
      | false => rfl
/-- What reading a list of numbers leaves. -/
def ReadsInts (w : World) (l : List UInt8) (e : Ending) (w' : World) : Prop :=
  ∃ v, e = .returned (.tuple #[v, .bool (Sv.listOf Sv.numS l).isSome]) ∧ (∀ xs, Sv.listOf Sv.numS l = some xs → IntsOf w' v xs) ∧ (∃ a n c, v = .slice a n c ∧ ∀ x, a = some x → w.heap.size ≤ x.block) ∧ Below w.heap.size w w'
theorem IntsOf.put {w : World} {v : Value} {xs : List Int} (h : IntsOf w v xs) {D : Nat} {o : Obj} (o' : Obj) (hD : w.heap[D]? = some o) (ho : o.isCells = false) : IntsOf (w.putObj D o') v xs := by
  obtain ⟨ao, c, hv, hc, hr⟩ := h
  refine ⟨ao, c, hv, hc, fun h0 => ?_⟩
  obtain ⟨g, o2, ha, hlt, hcs⟩ := hr h0
  exact ⟨g, o2, ha, Nat.lt_of_lt_of_le hlt (grownBy_putObj' w D o').size, fun k hk => cell_kept (hcs k hk) (grownBy_putObj' w D o') (fun r e => by cases e; exact ⟨_, hD, ho⟩)⟩
theorem spTs_len (c : UInt8) (s : List UInt8) : (spTs c s).length = (splitC c s).length := by simp [spTs]
theorem spTs_at (c : UInt8) (s : List UInt8) (k : Nat) (hk : k < (splitC c s).length) : (spTs c s)[k]'(by rw [spTs_len]; exact hk) = #[Value.string ⟨((splitC c s)[k]).toArray⟩] := by simp [spTs]
theorem infoIntV : (Tryz.prog.info? 3).map (fun i => (i.zero, i.size, i.bytes)) = some (some (.int .i64 0), 1, 8) := by kernel_rfl
theorem own_slice {w : World} {base : Nat} {e : TypeId} {size : Nat} {v : Value} {n : Nat} {xs : List Value} (h : w.ownsRow base e size v n xs) : ∃ ao c, v = .slice ao n c := by
  rcases h.2 with ⟨rfl, h0⟩ | ⟨g, cap, cur, rfl, _⟩
  · exact ⟨none, 0, by rw [h0]⟩
  · exact ⟨_, _, rfl⟩
theorem row_base {w : World} {base : Nat} {e : TypeId} {size : Nat} {ao : Option Addr} {n m c : Nat} {xs : List Value} (h : w.ownsRow base e size (.slice ao m c) n xs) (x : Addr) (hx : ao = some x) : base ≤ x.block := by
  rcases h.2 with ⟨h1, _⟩ | ⟨g, cap, cur, h1, hb, _⟩
  · subst hx; cases h1
  · subst hx
    injection h1 with h2 _ _
    injection h2 with h3
    rw [h3]; exact hb
theorem IntsOf.apart {K : Nat → Prop} {N : Nat} {A B : World} {v : Value} {xs : List Int} (h : IntsOf A v xs) (hv : ∃ a n c, v = .slice a n c ∧ ∀ x, a = some x → N ≤ x.block) (hab : Apart K A B) (hK : ∀ j, K j → j < N) : IntsOf B v xs := by
  obtain ⟨ao, c, rfl, hc, hr⟩ := h
  obtain ⟨_, _, _, e, hx⟩ := hv
  cases e
  refine ⟨ao, c, rfl, hc, fun h0 => ?_⟩
  obtain ⟨b, o, ha, hlt, hcs⟩ := hr h0
  have hb := hx _ ha
  have hblk := hab.block b hlt (fun e => by have := hK b e; simp at hb; omega)
  exact ⟨b, o, ha, Nat.lt_of_lt_of_le hlt hab.size, fun k hk => (World.cell?_of_block (a := ⟨b, o + k, none⟩) hblk).trans (hcs k hk)⟩
/-- What an append onto a row of the call's own leaves as it was. -/
theorem row_apart {w W : World} {base : Nat} {e : TypeId} {size : Nat} {v : Value} {n : Nat} {xs : List Value} {o : Obj} (h : w.ownsRow base e size v n xs) (hg : (w.alloc o).grownBy W v.ownBlock) : Apart (fun j => base ≤ j) w W := by
  refine (Apart.alloc _ w o).trans ⟨hg.os, hg.tape, hg.output, hg.size, fun j hj hn => hg.block j hj fun e => hn (h.lt j e.symm).1⟩
/-- Where the reading of numbers stands. -/
structure RInv (w A : World) (ps : List (List UInt8)) (k : Nat) (W : World) : Prop where
  le : k ≤ ps.length
  b0 : Boxed W w.heap.size 106 (.func (.func 92) #[] #[])
  b1 : Boxed W (w.heap.size + 1) 62 (.slice none 0 0)
  b2 : Boxed W (w.heap.size + 1 + 1) 4 (.bool false)
  row : ∃ v, Boxed W (w.heap.size + 1 + 1 + 1) 62 v ∧ W.ownsRow (A.heap.size + 2) 3 1 v (numsTo ps k).length (intsV (numsTo ps k))
  below : Below w.heap.size w W
  good : ∀ x ∈ ps.take k, gOf x = true
theorem RInv.apart {w A : World} {ps : List (List UInt8)} {k : Nat} {B C : World} (h : RInv w A ps k B) (hA : A.heap.size = w.heap.size + 1 + 1 + 1 + 1 + 3) (hab : Apart (fun j => KSp (w.heap.size + 1 + 1 + 1 + 1) j ∨ j = A.heap.size + 1) B C) : RInv w A ps k C := by
  obtain ⟨h1, h2, h3, h4, ⟨v, h5, h6⟩, h7, h8⟩ := h
  exact ⟨h1, hab.boxed h2 (by unfold KSp; omega), hab.boxed h3 (by unfold KSp; omega), hab.boxed h4 (by unfold KSp; omega), ⟨v, hab.boxed h5 (by unfold KSp; omega), hab.row h6 (fun j hj => by unfold KSp at hj; omega)⟩, hab.below h7 (Nat.le_refl _) (fun j hj => by unfold KSp at hj; omega), h8⟩
set_option maxRecDepth 100000 in
set_option maxHeartbeats 4000000 in
theorem readInts_any (s : ByteArray) (w : World) (hs : s.size ≤ 100000) :
    Calls Tryz.prog 97 #[.string s, .func (.func 92) #[] #[]] w (ReadsInts w s.data.toList) := by
  have hq := dash_eq s
  obtain ⟨i0, hi, hz0, hz1, hz2⟩ := info_parts infoIntV
  have hb3 := ((((Below.refl w.heap.size w).alloc (Nat.le_refl _) (.cells #[.func (.func 92) #[] #[]] 106)).alloc (by simp) (.cells #[.slice none 0 0] 62)).alloc (by simp; omega) (.cells #[.bool false] 4))
  by_cases h : s.data.toList = [45]
  · rw [decide_eq_true h] at hq
    have HL : Hid (Sv.listOf Sv.numS s.data.toList = some []) := by unfold Hid Sv.listOf; rw [if_pos h]
    clear hb3
    have hb := ((((Below.refl w.heap.size w).alloc (Nat.le_refl _) (.cells #[.func (.func 92) #[] #[]] 106)).alloc (by simp) (.cells #[.slice none 0 0] 62)).alloc (by simp; omega) (.cells #[.bool true] 4))
    have HB := hideIt hb
    clear hb
    go_enter Tryz.func97, Tryz.ntmps97
    go_wp2_with fail
    (try simp only [Exit.inBlock, Exit.then])
    refine bodyPost_ret (v := .tuple #[.slice none 0 0, .bool true]) ?_ rfl ⟨.slice none 0 0, by rw [HL.out]; rfl, fun xs hx => ?_, ⟨_, _, _, rfl, fun x hx => by cases hx⟩, HB.out⟩
    · rw [results_cc rfl]
      go_simp
    · rw [HL.out] at hx
      cases hx
      exact ⟨none, 0, rfl, ⟨by simp, by unfold maxLen; omega⟩, fun h => by simp at h⟩
  · rw [decide_eq_false h] at hq
    have HB3 := hideIt hb3
    clear hb3
    have x3 := ((Boxed.new w 106 (.func (.func 92) #[] #[])).alloc (.cells #[.slice none 0 0] 62)).alloc (.cells #[.bool false] 4) |>.alloc (.cells #[.slice none 0 0] 62)
    have x4 := ((Boxed.new (w.alloc (.cells #[.func (.func 92) #[] #[]] 106)) 62 (.slice none 0 0)).alloc (.cells #[.bool false] 4)).alloc (.cells #[.slice none 0 0] 62)
    have x5 := (Boxed.new ((w.alloc (.cells #[.func (.func 92) #[] #[]] 106)).alloc (.cells #[.slice none 0 0] 62)) 4 (.bool false)).alloc (.cells #[.slice none 0 0] 62)
    have x6 := Boxed.new (((w.alloc (.cells #[.func (.func 92) #[] #[]] 106)).alloc (.cells #[.slice none 0 0] 62)).alloc (.cells #[.bool false] 4)) 62 (.slice none 0 0)
    simp only [World.size_alloc] at x4 x5 x6
    have HB4 := hideIt (HB3.out.alloc (by simp; omega) (.cells #[.slice none 0 0] 62))
    have hsz : ((((w.alloc (.cells #[.func (.func 92) #[] #[]] 106)).alloc (.cells #[.slice none 0 0] 62)).alloc (.cells #[.bool false] 4)).alloc (.cells #[.slice none 0 0] 62)).heap.size = w.heap.size + 1 + 1 + 1 + 1 := by simp
    have X3 := hideIt x3
    have X4 := hideIt x4
    have X5 := hideIt x5
    have X6 := hideIt x6
    clear x3 x4 x5 x6 HB3
    refine (callsIn_wide (n := 3)).1 ?_
    refine callsIn_of_wp_marks Tryz.func97 rfl trivial ?_ rfl
    simp only [Tryz.ntmps97, List.size_toArray, List.length_cons, List.length_nil, Nat.reduceAdd, Nat.reduceSub, Array.replicate_succ, Array.replicate_zero, List.push_toArray, List.append_toArray, List.nil_append, List.cons_append]
    gi_wp2_with fail
    generalize (((w.alloc (.cells #[.func (.func 92) #[] #[]] 106)).alloc (.cells #[.slice none 0 0] 62)).alloc (.cells #[.bool false] 4)).alloc (.cells #[.slice none 0 0] 62) = V at *
    refine ⟨trivial, (callsIn_wide.2 (splitSeq_new s 44 V)).mono ?_⟩
    rintro e A ⟨rfl, hspb, hbA, hszA⟩
    have HBA := hideIt (HB4.out.trans (hbA.mono HB4.out.size))
    have XA3 := hideIt (show Boxed A _ _ _ from (hbA.block _ X3.out.lt).trans X3.out)
    have XA4 := hideIt (show Boxed A _ _ _ from (hbA.block _ X4.out.lt).trans X4.out)
    have XA5 := hideIt (show Boxed A _ _ _ from (hbA.block _ X5.out.lt).trans X5.out)
    have XA6 := hideIt (show Boxed A _ _ _ from (hbA.block _ X6.out.lt).trans X6.out)
    have hseq := splitSeq_iter 2 (by omega) V.heap.size 44 s.data.toList A hspb (by simp; omega)
    rw [hsz] at hszA hseq ⊢
    clear hbA X3 X4 X5 X6 HB4 hspb hsz
    gi_wp2_with fail
    have HL : Hid (Sv.listOf Sv.numS s.data.toList = Sv.allOf Sv.numS (splitC 44 s.data.toList)) := by unfold Hid Sv.listOf; rw [if_neg h]
    have HSP := hideIt (S1.splitC_mem 44 s.data.toList)
    have HSL := hideIt (S1.splitC_len 44 s.data.toList)
    have hdl : s.data.toList.length = s.size := by simp
    generalize hgl : s.data.toList = sl at *
    generalize hps : splitC 44 sl = ps at *
    have HTS : Hid (∀ k, (hk : k < ps.length) → ∃ hk' : k < (spTs 44 sl).length, (spTs 44 sl)[k] = #[Value.string ⟨(ps.getD k []).toArray⟩]) := fun k hk => by
      subst hps
      exact ⟨by rw [spTs_len]; exact hk, by rw [spTs_at _ _ _ hk]; simp [hk]⟩
    have HTL : Hid ((spTs 44 sl).length = ps.length) := by unfold Hid; rw [spTs_len, hps]
    have HTZ : Hid (∀ x ∈ spTs 44 sl, x.size = 1) := by
      intro x hx
      obtain ⟨y, _, rfl⟩ := List.mem_map.1 hx
      rfl
    have hb9 := HBA.out.size
    clear hps h hq
    refine wpIn_rangeW rfl (by omega) (gf := 145) rfl trivial (enters_of Tryz.func145 (by kernel_rfl) rfl) (K := KSp (w.heap.size + 1 + 1 + 1 + 1)) (ts := spTs 44 sl) (fun j hj => by unfold KSp at hj; omega) hseq HTZ.out
      (fun k W => RInv w A ps k W) (fun c W => c = .ret ∧ Boxed W (w.heap.size + 1) 62 (.slice none 0 0) ∧ Boxed W (w.heap.size + 1 + 1) 4 (.bool false) ∧ Below w.heap.size w W ∧ Sv.listOf Sv.numS sl = none)
      (fun k B C hi hab => hi.apart hszA hab) (fun c B C hx hab => ⟨hx.1, hab.boxed hx.2.1 (by unfold KSp; omega), hab.boxed hx.2.2.1 (by unfold KSp; omega), hab.below hx.2.2.2.1 (Nat.le_refl _) (fun j hj => by unfold KSp at hj; omega), hx.2.2.2.2⟩)
      ⟨Nat.zero_le _, XA3.out, XA4.out, XA5.out, ⟨_, XA6.out, World.ownsRow_nil _ _ _ _⟩, HBA.out, by simp⟩
      (fun k => { tmps := #[Value.string s, Value.func (Fn.func 92) #[] #[], undef, Value.pointer (some ⟨w.heap.size, 0, none⟩), Value.pointer (some ⟨w.heap.size + 1, 0, none⟩), Value.pointer (some ⟨w.heap.size + 1 + 1, 0, none⟩), Value.pointer (some ⟨w.heap.size + 1 + 1 + 1, 0, none⟩), Value.string ⟨(ps.getD k []).toArray⟩, undef, undef, Value.string s, Value.bool false, Value.string s, Value.func (Fn.func 145) #[] #[Value.pointer (some ⟨w.heap.size + 1 + 1 + 1 + 1 + 1, 0, none⟩), Value.pointer (some ⟨w.heap.size + 1 + 1 + 1 + 1, 0, none⟩), Value.pointer (some ⟨w.heap.size + 1 + 1 + 1 + 1 + 2, 0, none⟩)], Value.string ⟨(ps.getD k []).toArray⟩, undef, undef, undef, undef, undef, undef, undef, undef, undef, undef, undef, undef, undef], defers := [] }) ?assign ?body ?done ?stop
    case assign =>
      intro l k hk W R hR
      rw [HTL.out] at hk
      obtain ⟨hk', e⟩ := HTS.out k hk
      rw [e]
      clear e
      generalize ps.getD k [] = x at *
      gi_wp2_with fail
      exact hR
    case body =>
      intro l k W hk hWs hI
      rw [HTL.out] at hk
      obtain ⟨h1, hb0, hb1, hb2, ⟨v, hb3, hrow⟩, hbel, hgood⟩ := hI
      have hxm : ps.getD k [] ∈ ps := by simp [hk]
      have hxl := HSP.out _ hxm
      have HTK : Hid (ps.take (k + 1) = ps.take k ++ [ps.getD k []]) := by unfold Hid; rw [List.take_succ_eq_append_getElem hk]; simp [hk]
      have HNX : Hid (numsTo ps (k + 1) = numsTo ps k ++ [nOf (ps.getD k [])]) := by unfold Hid; rw [numsTo_next hk]; simp [hk]
      have HNL := hideIt (numsTo_len h1)
      have hsl := HSL.out
      have HBAD : Hid (gOf (ps.getD k []) = false → Sv.listOf Sv.numS sl = none) := fun hg => by rw [HL.out]; exact allOf_bad hxm hg
      generalize ps.getD k [] = x at *
      have HN := hideIt (readNumber_any ⟨x.toArray⟩ W (by unfold maxLen; show x.length ≤ _; omega))
      rw [show (ByteArray.mk x.toArray).data.toList = x by simp] at HN
      have c0 := hb0.cell
      have HB1 := hideIt hb1
      have HB2 := hideIt hb2
      have HB3 := hideIt hb3
      have HB0 := hideIt hb0
      have HROW := hideIt hrow
      have HBEL := hideIt hbel
      have HGOOD := hideIt hgood
      generalize nOf x = nx at *
      clear hgood hbel hseq HTS HTZ HSP hxm
      rcases two (gOf x) with hg | hg
      · rw [hg] at HN
        have c3 := hb3.cell
        have hlen : (numsTo ps k).length + 1 ≤ 200000 := by rw [HNL.out]; omega
        obtain ⟨va, vc, hv⟩ : ∃ ao c, v = .slice ao (numsTo ps k).length c := by
          rcases hrow.2 with ⟨rfl, h0⟩ | ⟨g, cap, cur, rfl, _⟩
          · exact ⟨none, 0, by rw [h0]⟩
          · exact ⟨_, _, rfl⟩
        generalize numsTo ps k = ns at *
        subst hv
        gi_wp2_with fail
        refine ⟨trivial, (CallsIn.inRound l (callsIn_wide.2 HN.out)).mono ?_⟩
        rintro e w1 ⟨rfl, rfl⟩
        gi_wp2_with (gi_at_builtin; refine wpListIn_append_own_at _ rfl _ _ 62 rfl (A.heap.size + 2) 3 i0 (.int .i64 0) 1 8 Tryz.underlying62 hi hz0 hz1 hz2 rfl (by decide) _ _ _ rfl (hrow.alloc _) ⟨_, 0, none⟩ 1 1 [.int .i64 nx] rfl rfl (cell_one_new _ _ _) (by intro u hu; simp at hu; subst hu; rfl) (by unfold maxLen; omega) (by omega) (by simp; omega) ?_; intro v' W2 hown' hgrow' _ _; obtain ⟨na, nc, rfl⟩ := own_slice hown'; have hg2 : (w1.alloc (.cells #[.int .i64 nx] 3)).grownBy W2 (Value.slice va ns.length vc).ownBlock := hgrow'; clear hgrow'; have hap := row_apart hrow hg2; have hbx2 := hap.boxed hb3 (by omega); have c3' := hbx2.cell; have f3' := hbx2.frozen)
        have hab : Apart (fun j => A.heap.size + 2 ≤ j ∨ j = w.heap.size + 1 + 1 + 1) w1 (W2.setCell ⟨w.heap.size + 1 + 1 + 1, 0, none⟩ (.slice na (ns.length + 1) nc)) := (hap.wide fun _ => .inl).trans (Apart.setCell (.inr rfl) _ _ _)
        refine ⟨fun j hj => hab.block j (by unfold KSp at hj; omega) (by unfold KSp at hj; omega), by omega, hab.boxed HB0.out (by omega), hab.boxed HB1.out (by omega), hab.boxed HB2.out (by omega), ⟨_, hbx2.set _, ?_⟩, hab.below HBEL.out (Nat.le_refl _) (fun j hj => by omega), ?_⟩
        · rw [HNX.out, show intsV (ns ++ [nx]) = intsV ns ++ [.int .i64 nx] by simp [intsV], List.length_append]
          exact (Apart.setCell (K := fun j => j = w.heap.size + 1 + 1 + 1) rfl W2 0 _).row hown' (fun j hj => by omega)
        · rw [HTK.out]
          intro y hy
          rcases List.mem_append.1 hy with hy | hy
          · exact HGOOD.out y hy
          · rw [List.mem_singleton] at hy; rw [hy]; exact hg
      · rw [hg] at HN
        have HNO := hideIt (HBAD.out hg)
        have f1 := hb1.frozen
        have f2 := hb2.frozen
        have c1 := hb1.cell
        have c2 := hb2.cell
        gi_wp2_with fail
        refine ⟨trivial, (CallsIn.inRound l (callsIn_wide.2 HN.out)).mono ?_⟩
        rintro e w1 ⟨rfl, rfl⟩
        gi_wp2_with fail
        have hab : Apart (fun j => j = w.heap.size + 1 ∨ j = w.heap.size + 1 + 1) w1 ((w1.setCell ⟨w.heap.size + 1, 0, none⟩ (.slice none 0 0)).setCell ⟨w.heap.size + 1 + 1, 0, none⟩ (.bool false)) := (Apart.setCell (.inl rfl) _ _ _).trans (Apart.setCell (.inr rfl) _ _ _)
        exact ⟨fun j hj => hab.block j (by unfold KSp at hj; omega) (by unfold KSp at hj; omega), rfl, (Apart.setCell (K := fun j => j = w.heap.size + 1 + 1) rfl _ 0 _).boxed (HB1.out.set _) (by omega), ((Apart.setCell (K := fun j => j = w.heap.size + 1) rfl _ 0 _).boxed HB2.out (by omega)).set _, hab.below HBEL.out (Nat.le_refl _) (fun j hj => by omega), HNO.out⟩
    case done =>
      intro W hI hD
      rw [HTL.out] at hI
      obtain ⟨_, hb0, hb1, hb2, ⟨v, hb3, hrow⟩, hbel, hgood⟩ := hI
      have HS : Hid (Sv.listOf Sv.numS sl = some (numsTo ps ps.length)) := by
        unfold Hid
        rw [List.take_length] at hgood
        rw [HL.out, allOf_good hgood, numsTo, List.take_length]
      have HROW := hideIt hrow
      have c3 := hb3.cell
      have c1 := hb1.cell
      have c2 := hb2.cell
      have f1 := hb1.frozen
      have f2 := hb2.frozen
      have HBEL := hideIt hbel
      have HB1 := hideIt hb1
      have HB2 := hideIt hb2
      obtain ⟨va, vc, rfl⟩ := own_slice hrow
      clear hgood hbel hrow hseq HTS HTZ HSP
      generalize numsTo ps ps.length = ns at *
      gi_wp2_with fail
      have hab : Apart (fun j => j = w.heap.size + 1 ∨ j = w.heap.size + 1 + 1) W ((W.setCell ⟨w.heap.size + 1, 0, none⟩ (.slice va ns.length vc)).setCell ⟨w.heap.size + 1 + 1, 0, none⟩ (.bool true)) := (Apart.setCell (.inl rfl) _ _ _).trans (Apart.setCell (.inr rfl) _ _ _)
      have b1 := (Apart.setCell (K := fun j => j = w.heap.size + 1 + 1) rfl _ 0 (.bool true)).boxed (HB1.out.set (.slice va ns.length vc)) (by omega)
      have b2 := ((Apart.setCell (K := fun j => j = w.heap.size + 1) rfl W 0 (.slice va ns.length vc)).boxed HB2.out (by omega)).set (.bool true)
      have hD5 := (hab.block A.heap.size (Array.getElem?_eq_some_iff.1 hD).1 (by omega)).trans hD
      generalize (W.setCell ⟨w.heap.size + 1, 0, none⟩ (.slice va ns.length vc)).setCell ⟨w.heap.size + 1 + 1, 0, none⟩ (.bool true) = W5 at *
      have hput : Apart (fun j => j = A.heap.size) W5 (W5.putObj A.heap.size (.deferred none)) := Apart.putObj (K := fun j => j = A.heap.size) rfl _ _
      have e1 := (hput.boxed b1 (by omega)).cell
      have e2 := (hput.boxed b2 (by omega)).cell
      have HR5 := hideIt (hput.row (hab.row HROW.out (fun j hj => by omega)) (fun j hj => by omega))
      have HB5 := hideIt (hput.below (hab.below HBEL.out (Nat.le_refl _) (fun j hj => by omega)) (Nat.le_refl _) (fun j hj => by omega))
      refine ⟨by simp, .inl ⟨_, _, rfl, run_takeDeferred hD5, ?_⟩⟩
      refine ⟨.tuple #[.slice va ns.length vc, .bool true], ?_, .slice va ns.length vc, by rw [HS.out]; rfl, fun xs hx => ?_, ⟨_, _, _, rfl, fun x hx => Nat.le_trans (by omega) (row_base HR5.out x hx)⟩, HB5.out⟩
      · generalize W5.putObj A.heap.size (Obj.deferred none) = W6 at *
        rw [results_cc rfl]
        go_simp
      · rw [HS.out] at hx
        cases hx
        exact ints_of_row HR5.out
    case stop =>
      rintro c W ⟨rfl, h4, h5, hb, hn⟩ hD
      have c1 := h4.cell
      have c2 := h5.cell
      have HN := hideIt hn
      have HB := hideIt hb
      clear hn hb hseq HTS HTZ HSP
      gi_wp2_with fail
      have hput : Apart (fun j => j = A.heap.size) W (W.putObj A.heap.size (.deferred none)) := Apart.putObj (K := fun j => j = A.heap.size) rfl _ _
      have e1 := (hput.boxed h4 (by omega)).cell
      have e2 := (hput.boxed h5 (by omega)).cell
      have HB5 := hideIt (hput.below HB.out (Nat.le_refl _) (fun j hj => by omega))
      refine ⟨by simp, .inl ⟨_, _, rfl, run_takeDeferred hD, ?_⟩⟩
      refine ⟨.tuple #[.slice none 0 0, .bool false], ?_, .slice none 0 0, by rw [HN.out]; rfl, fun xs hx => ?_, ⟨_, _, _, rfl, fun x hx => by cases hx⟩, HB5.out⟩
      · generalize W.putObj A.heap.size (Obj.deferred none) = W6 at *
        rw [results_cc rfl]
        go_simp
      · rw [HN.out] at hx; cases hx
end Go.Proofs.YtlljniaobbbjgaaGreatDoor
