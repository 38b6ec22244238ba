/- What bits.Parse answers: the contract. -/
import Derived.Test.YtfnkmlpgfohjnaaDoorSParse
namespace Go.Proofs.YtfnkmlpgfohjnaaDoor
open Go.RowKit
/-- The parts from the k-th on give the whole's answer. -/
def Left (l : List UInt8) (k acc : Nat) : Prop := Ost.parseOut l = Ost.pieces acc ((Ost.splitC 44 l).drop k)
theorem Left.next {l : List UInt8} {k acc : Nat} (h : Left l k acc) (hk : k < (Ost.splitC 44 l).length) :
    (Ost.spanOf ((Ost.splitC 44 l).getD k []) = none → Ost.parseOut l = (0, 4)) ∧
    (∀ f t, Ost.spanOf ((Ost.splitC 44 l).getD k []) = some (f, t) → (63 < t → Ost.parseOut l = (0, 1)) ∧ (¬ 63 < t → Left l (k + 1) (acc ||| Ost.rb f.toNat (t - f + 1).toNat))) := by
  have e : (Ost.splitC 44 l).drop k = (Ost.splitC 44 l).getD k [] :: (Ost.splitC 44 l).drop (k + 1) := by
    rw [List.drop_eq_getElem_cons hk]; simp [hk]
  unfold Left at h ⊢
  rw [e, Ost.pieces] at h
  refine ⟨fun hn => by rw [hn] at h; exact h, fun f t hs => ?_⟩
  rw [hs] at h
  simp only at h
  exact ⟨fun ht => by rw [if_pos ht] at h; exact h, fun ht => by rw [if_neg ht] at h; exact h⟩
theorem Left.done {l : List UInt8} {k acc : Nat} (h : Left l k acc) (hk : (Ost.splitC 44 l).length ≤ k) : Ost.parseOut l = (acc, 0) := by
  unfold Left at h
  rw [List.drop_eq_nil_of_le hk] at h; exact h
theorem spanOf_le (t : List UInt8) (f l : Int) (h : Ost.spanOf t = some (f, l)) : 0 ≤ f ∧ f ≤ l ∧ l ≤ 9223372036854775807 := by
  unfold Ost.spanOf at h
  split at h
  · split at h
    · rename_i hg
      rw [Bool.and_eq_true, Bool.and_eq_true, decide_eq_true_eq] at hg
      obtain ⟨⟨⟨_, _, h3⟩, _⟩, ⟨_, _, hm⟩⟩ : _ ∧ _ := ⟨(Ost.good_iff _ _).1 hg.1.1, (Ost.good_iff _ _).1 hg.1.2⟩
      simp only [Option.some.injEq, Prod.mk.injEq] at h
      obtain ⟨rfl, rfl⟩ := h
      exact ⟨Ost.val_nonneg _ h3, hg.2, hm⟩
    · cases h
  · split at h
    · rename_i hg
      obtain ⟨⟨_, _, h3⟩, _, hm⟩ := (Ost.good_iff _ _).1 hg
      simp only [Option.some.injEq, Prod.mk.injEq] at h
      obtain ⟨rfl, rfl⟩ := h
      exact ⟨Ost.val_nonneg _ h3, Int.le_refl _, hm⟩
    · cases h
theorem rb_lt (f m : Nat) (h : f + m ≤ 64) : Ost.rb f m < 18446744073709551616 := by
  induction m with
  | zero => simp [Ost.rb]
  | succ m ih => rw [Ost.rb]; exact or_lt _ _ (ih (by omega)) (pow_lt64 _ (by omega))
theorem splitC_len (c : UInt8) (l : List UInt8) : (Ost.splitC c l).length ≤ l.length + 1 := by
  induction l with
  | nil => simp [Ost.splitC]
  | cons b r ih =>
    unfold Ost.splitC
    split
    · simp; omega
    · split
      · simp
      · rename_i h; rw [h] at ih; simp at ih ⊢; omega
theorem splitC_mem (c : UInt8) (l : List UInt8) : ∀ x ∈ Ost.splitC c l, x.length ≤ l.length := by
  induction l with
  | nil => simp [Ost.splitC]
  | cons b r ih =>
    intro x hx
    unfold Ost.splitC at hx
    split at hx
    · rcases List.mem_cons.1 hx with rfl | hx
      · simp
      · have := ih x hx; simp; omega
    · split at hx
      · simp at hx; subst hx; simp
      · rename_i h
        rcases List.mem_cons.1 hx with rfl | hx
        · have := ih _ (by rw [h]; exact List.mem_cons_self); simp; omega
        · have := ih x (by rw [h]; exact List.mem_cons_of_mem _ hx); simp; omega
set_option maxHeartbeats 400000 in
theorem member_yes (z : Int) (w : World) (h0 : 0 ≤ z) (h1 : z < 64) : Calls Tryd.prog 34 #[.int .i64 z] w fun e w' => e = .returned (.bool true) ∧ w' = w := by
  go_enter Tryd.func34, Tryd.ntmps34
  go_wp2_with fail
  go_ret
  exact ⟨rfl, rfl⟩
set_option maxHeartbeats 400000 in
theorem member_no (z : Int) (w : World) (h0 : 0 ≤ z) (h1 : 64 ≤ z) : Calls Tryd.prog 34 #[.int .i64 z] w fun e w' => e = .returned (.bool false) ∧ w' = w := by
  have hd : decide (z < 64) = false := decide_eq_false (by omega)
  go_enter Tryd.func34, Tryd.ntmps34
  go_wp2_with fail
  go_ret
  exact ⟨rfl, rfl⟩
set_option maxRecDepth 100000 in
set_option maxHeartbeats 2000000 in
theorem parse_walk (s : ByteArray) (w : World) (hs : s.size ≤ 300) (h0 : 0 < s.size) (hm : Mx w) :
    Calls Tryd.prog 21 #[.string s] w fun e w' => e = .returned (setErr (Ost.parseOut s.data.toList)) ∧ Below w.heap.size w w' := by
  have hem : s.toList.isEmpty = false := by rw [Ost.toList_isEmpty, decide_eq_false (by omega)]
  have h300 : decide (300 < (s.size : Int)) = false := decide_eq_false (by omega)
  have HL : Hid (s.data.toList.length = s.size) := by unfold Hid; simp
  have HM := hideIt' hm
  clear hm
  have hP : Left s.data.toList 0 0 := by
    unfold Left Ost.parseOut
    rw [if_neg (by rw [HL.out]; omega), if_neg (fun e => by have := HL.out; rw [e] at this; simp at this; omega)]
    rfl
  have hn1 := splitC_len 44 s.data.toList
  rw [HL.out] at hn1
  have HX := hideIt' (splitC_mem 44 s.data.toList)
  have hn0 : 0 < (Ost.splitC 44 s.data.toList).length := List.length_pos_iff.2 (Ost.splitC_ne _ _)
  go_enter Tryd.func21, Tryd.ntmps21
  go_wp2_with fail
  refine (split_any s _ (by omega) HM.out).mono ?_
  rintro e w1 ⟨rfl, hw1⟩
  have hB1 : Below w.heap.size w w1 := by rw [hw1]; exact (Below.refl _ _).alloc (Nat.le_refl _) _
  have HM1 := hideIt' (HM.out.below hB1)
  have HC : Hid (∀ k, k < (Ost.splitC 44 s.data.toList).length → w1.cell? ⟨w.heap.size, k, none⟩ = some (.string ⟨((Ost.splitC 44 s.data.toList).getD k []).toArray⟩)) := by
    intro k hk
    rw [hw1]
    simp [go_sem, hk]
  have HPx : Hid (Left s.data.toList 0 0) := hP
  clear hw1 hP
  go_wp2_with fail
  go_loopw [4, 20] (fun t i wr => ∃ k acc m : Nat, k ≤ (Ost.splitC 44 s.data.toList).length ∧ acc < 18446744073709551616 ∧ i = .int .i64 k ∧ t = .int .u64 acc ∧ Hid (Left s.data.toList k acc) ∧ wr = w1.drewN m) (fun _ i _ => (Ost.splitC 44 s.data.toList).length - (intOf i).toNat)
  case atStart => exact ⟨0, 0, 0, by omega, by omega, rfl, rfl, HPx, rfl⟩
  case round =>
    obtain ⟨k, acc, m, hk, hacc, rfl, rfl, HLf, rfl⟩ := hrel
    clear HPx
    by_cases hlt : k < (Ost.splitC 44 s.data.toList).length
    · have hcell := HC.out k hlt
      have HN := hideIt' (HLf.out.next hlt)
      have hps : ((Ost.splitC 44 s.data.toList).getD k []).length ≤ 300 := by
        have hmem : (Ost.splitC 44 s.data.toList).getD k [] ∈ Ost.splitC 44 s.data.toList := by simp [hlt]
        have := HX.out _ hmem
        rw [HL.out] at this; omega
      generalize (Ost.splitC 44 s.data.toList).getD k [] = t at hcell HN hps
      have hts : (ByteArray.mk t.toArray).size < 4294967281 := by show t.toArray.size < _; simp; omega
      have HM2 : Hid (Mx (w1.drewN m)) := HM1
      rcases ho : Ost.spanOf t with _ | ⟨f, l⟩
      · have H := hideIt' (HN.out.1 ho)
        have HO := hideIt' ho
        clear ho
        go_wp2_with fail
        refine (readSpan_no ⟨t.toArray⟩ _ hts HM2.out HO.out).mono ?_
        rintro e w2 ⟨⟨a, b, rfl⟩, n, rfl⟩
        go_wp2_with fail
        go_ret2
        exact ⟨congrArg Ending.returned (congrArg setErr H.out).symm, below_drewN hB1 _⟩
      · have hfl := spanOf_le t f l ho
        obtain ⟨F, rfl⟩ := Int.eq_ofNat_of_zero_le hfl.1
        obtain ⟨T, rfl⟩ := Int.eq_ofNat_of_zero_le (show 0 ≤ l by omega)
        have HO := hideIt' ho
        have hFT : F ≤ T := by omega
        have hT2 : (T : Int) ≤ 9223372036854775807 := hfl.2.2
        have HN2 := hideIt' (HN.out.2 _ _ ho)
        clear ho hfl HN
        by_cases h63 : 63 < T
        · have H := hideIt' (HN2.out.1 (by omega))
          go_wp2_with fail
          refine (readSpan_yes ⟨t.toArray⟩ _ _ _ hts HM2.out HO.out).mono ?_
          rintro e w2 ⟨rfl, n, rfl⟩
          go_wp2_with fail
          refine (member_no _ _ (by omega) (by omega)).mono ?_
          rintro e w3 ⟨rfl, rfl⟩
          go_wp2_with fail
          go_ret2
          exact ⟨congrArg Ending.returned (congrArg setErr H.out).symm, below_drewN hB1 _⟩
        · have H := hideIt' (HN2.out.2 (by omega))
          go_wp2_with fail
          refine (readSpan_yes ⟨t.toArray⟩ _ _ _ hts HM2.out HO.out).mono ?_
          rintro e w2 ⟨rfl, n, rfl⟩
          go_wp2_with fail
          refine (member_yes _ _ (by omega) (by omega)).mono ?_
          rintro e w3 ⟨rfl, rfl⟩
          go_wp2_with fail
          go_loop [4, 10] (fun t i => ∃ q : Nat, q ≤ T - F + 1 ∧ i = .int .i64 (F + q : Nat) ∧ t = .int .u64 (acc ||| Ost.rb F q : Nat)) (fun _ i => 65 - (intOf i).toNat)
          case atStart => exact ⟨0, by omega, rfl, by simp [Ost.rb]⟩
          case round =>
            obtain ⟨q, hq, rfl, rfl⟩ := hrel
            have hlt2 : acc ||| Ost.rb F q < 18446744073709551616 := or_lt _ _ hacc (rb_lt F q (by omega))
            by_cases hend : F + q ≤ T
            · have HOr : Hid (bits BinOp.or IntKind.u64 (acc ||| Ost.rb F q : Nat) (IntKind.u64.wrap (2 ^ (F + q))) = ((acc ||| Ost.rb F (q + 1) : Nat) : Int)) := by
                unfold Hid; rw [or_step _ _ hlt2 (by omega), Ost.rb, Nat.or_assoc]
              go_wp2_with fail
              go_round
              case rel => exact ⟨q + 1, by omega, by go_num, by rw [← HOr.out]⟩
              case measure => simp [intOf]; omega
            · have HA : Hid (Left s.data.toList (k + 1) (acc ||| Ost.rb F q)) := by
                have h1 := H.out
                rw [show ((F : Nat) : Int).toNat = F by omega, show (((T : Nat) : Int) - (F : Nat) + 1).toNat = q by omega] at h1
                exact h1
              go_wp2_with fail
              go_roundw
              case rel => exact ⟨k + 1, _, _, by omega, hlt2, by go_num, rfl, HA, rfl⟩
              case measure => simp [intOf]; omega
    · have H := hideIt' (HLf.out.done (by omega))
      go_wp2_with fail
      go_ret2
      exact ⟨congrArg Ending.returned (congrArg setErr H.out).symm, below_drewN hB1 m⟩
set_option maxHeartbeats 400000 in
theorem parse_many (s : ByteArray) (w : World) (hs : 300 < s.size) (hs2 : s.size ≤ maxLen) :
    Calls Tryd.prog 21 #[.string s] w fun e w' => e = .returned (setErr (0, 2)) ∧ Below w.heap.size w w' := by
  unfold maxLen at hs2
  go_enter Tryd.func21, Tryd.ntmps21
  go_wp2_with fail
  go_ret2
  exact ⟨rfl, Below.refl _ _⟩
set_option maxHeartbeats 400000 in
theorem parse_none (w : World) :
    Calls Tryd.prog 21 #[.string ⟨#[]⟩] w fun e w' => e = .returned (setErr (0, 0)) ∧ Below w.heap.size w w' := by
  go_enter Tryd.func21, Tryd.ntmps21
  go_wp2_with fail
  go_ret2
  exact ⟨rfl, Below.refl _ _⟩
theorem empty_of (s : ByteArray) (h : s.size = 0) : s = ⟨#[]⟩ := by
  rcases s with ⟨⟨l⟩⟩
  cases l with
  | nil => rfl
  | cons a r => simp [ByteArray.size] at h
theorem parse_any (s : ByteArray) (w : World) (hs2 : s.size ≤ maxLen) (hm : Mx w) :
    Calls Tryd.prog 21 #[.string s] w fun e w' => e = .returned (setErr (Ost.parseOut s.data.toList)) ∧ Below w.heap.size w w' := by
  by_cases h1 : 300 < s.size
  · have := parse_many s w h1 hs2
    rw [show ((0, 2) : Nat × Int) = Ost.parseOut s.data.toList by unfold Ost.parseOut; rw [if_pos (by simpa using h1)]] at this
    exact this
  · by_cases h0 : s.size = 0
    · have he := empty_of s h0
      subst he
      exact parse_none w
    · exact parse_walk s w (by omega) (by omega) hm
end Go.Proofs.YtfnkmlpgfohjnaaDoor
