/- What the document's 'words' and 'inInt' answer: contracts. -/
import Derived.Test.YtfnkmlpgfohjnaaDoorSMath3
import Derived.Test.YtfnkmlpgfohjnaaDoorSText
import Derived.Test.YtfnkmlpgfohjnaaDoorSParse2
import Derived.Test.YtfnkmlpgfohjnaaDoorRef2
namespace Go.Proofs.YtfnkmlpgfohjnaaDoor
open Go.RowKit
theorem extract_mk (s : ByteArray) (f k : Nat) : s.extract f k = ⟨((s.data.toList.take k).drop f).toArray⟩ := by
  rw [← extract_list, mk_data]
/-- How far the parting of a text has come: what is parted, and where the next part begins. -/
def Parted (l : List UInt8) (D : List (List UInt8)) (f k : Nat) : Prop :=
  f ≤ k ∧ k ≤ l.length ∧ Ost.splitC 44 l = D ++ Ost.splitC 44 (l.drop f) ∧ (44 : UInt8) ∉ (l.take k).drop f
theorem Parted.more {l : List UInt8} {D : List (List UInt8)} {f k : Nat} (h : Parted l D f k) (hk : k < l.length) (hc : l[k] ≠ 44) : Parted l D f (k + 1) := by
  obtain ⟨h1, h2, h3, h4⟩ := h
  refine ⟨by omega, by omega, h3, ?_⟩
  rw [List.take_succ_eq_append_getElem hk, List.drop_append_of_le_length (by rw [List.length_take]; omega)]
  simp only [List.mem_append, List.mem_singleton, not_or]
  exact ⟨h4, fun e => hc e.symm⟩
theorem drop_split (l : List UInt8) (f k : Nat) (h : f ≤ k) (hk : k ≤ l.length) : l.drop f = (l.take k).drop f ++ l.drop k := by
  conv => lhs; rw [← List.take_append_drop k l]
  rw [List.drop_append_of_le_length (by rw [List.length_take]; omega)]
theorem Parted.cut {l : List UInt8} {D : List (List UInt8)} {f k : Nat} (h : Parted l D f k) (hk : k < l.length) (hc : l[k] = 44) : Parted l (D ++ [(l.take k).drop f]) (k + 1) (k + 1) := by
  obtain ⟨h1, h2, h3, h4⟩ := h
  refine ⟨Nat.le_refl _, by omega, ?_, by simp⟩
  rw [h3, drop_split l f k h1 (by omega), List.drop_eq_getElem_cons hk, hc, Ost.splitC_cut 44 _ _ h4]
  simp
theorem Parted.last {l : List UInt8} {D : List (List UInt8)} {f : Nat} (h : Parted l D f l.length) : Ost.splitC 44 l = D ++ [(l.take l.length).drop f] := by
  obtain ⟨h1, h2, h3, h4⟩ := h
  rw [List.take_length] at h4 ⊢
  rw [h3, Ost.splitC_none 44 _ h4]
theorem Parted.len {l : List UInt8} {D : List (List UInt8)} {f k : Nat} (h : Parted l D f k) : D.length ≤ l.length := by
  have := congrArg List.length h.2.2.1
  have h2 := splitC_len 44 l
  have h3 : 0 < (Ost.splitC 44 (l.drop f)).length := List.length_pos_iff.2 (Ost.splitC_ne _ _)
  rw [List.length_append] at this
  omega
set_option maxRecDepth 100000 in
set_option maxHeartbeats 2000000 in
theorem words_any (s : ByteArray) (w : World) (hs : s.size ≤ 300) :
    Calls Tryd.prog 41 #[.string s, .int .u8 44] w fun e w' => ∃ v, e = .returned v ∧ w'.ownsRow w.heap.size 9 1 v (Ost.splitC 44 s.data.toList).length (strs (Ost.splitC 44 s.data.toList)) ∧ Below w.heap.size w w' := by
  obtain ⟨i0, hi, hz0, hz1, hz2⟩ := info_parts infoStr
  have HL : Hid (s.data.toList.length = s.size) := by unfold Hid; simp
  go_enter Tryd.func41, Tryd.ntmps41
  go_wp2_with fail
  go_loopw [5, 6, 7] (fun v f i wr => ∃ (k fN : Nat) (D : List (List UInt8)), k ≤ s.size + 1 ∧ fN ≤ s.size + 1 ∧ D.length ≤ s.size + 1 ∧ i = .int .i64 k ∧ f = .int .i64 fN ∧ Hid (Parted s.data.toList D fN k ∨ (k = s.size + 1 ∧ D = Ost.splitC 44 s.data.toList)) ∧ wr.ownsRow w.heap.size 9 1 v D.length (strs D) ∧ Below w.heap.size w wr) (fun _ _ i _ => s.size + 1 - (intOf i).toNat)
  case atStart => exact ⟨0, 0, [], by omega, by omega, by simp, rfl, rfl, .inl ⟨Nat.le_refl _, by omega, rfl, by simp⟩, World.ownsRow_nil _ _ _ _, Below.refl _ _⟩
  case round =>
    obtain ⟨k, fN, D, hk, hfN, hD, rfl, rfl, HP, hrow, hnx⟩ := hrel
    have hsz := hnx.size
    by_cases hend : k = s.size + 1
    · have HD : Hid (D = Ost.splitC 44 s.data.toList) := by
        rcases HP.out with h | h
        · exfalso; have := h.2.1; rw [HL.out] at this; omega
        · exact h.2
      have h1 : ¬ k ≤ s.size := by omega
      have HD2 := HD.out
      subst HD2
      clear HP hend HD
      go_wp2_with fail
      go_ret
      exact ⟨_, rfl, hrow, hnx⟩
    · have hkl : k ≤ s.size := by omega
      have HQ : Hid (Parted s.data.toList D fN k) := by
        rcases HP.out with h | h
        · exact h
        · exact absurd h.1 hend
      have hfk : fN ≤ k := HQ.out.1
      have hDl := HQ.out.len
      rw [HL.out] at hDl
      clear HP hend
      have HX : Hid (s.extract fN k = ⟨((s.data.toList.take k).drop fN).toArray⟩) := extract_mk s fN k
      by_cases hlast : k = s.size
      · have HN : Hid (Ost.splitC 44 s.data.toList = D ++ [(s.data.toList.take k).drop fN]) := by
          have h := HQ.out
          rw [hlast, ← HL.out] at h ⊢
          exact h.last
        have hb1 : ((k : Int) == (s.size : Int)) = true := by simp [hlast]
        have hlen : D.length + 1 ≤ s.size + 1 := by omega
        clear hlast
        go_wp2_with (at_builtin; refine wpList_append_own _ rfl _ _ 59 rfl w.heap.size 9 i0 (.string ⟨#[]⟩) 1 16 Tryd.underlying59 hi hz0 hz1 hz2 rfl (by decide) _ _ _ rfl (hrow.alloc _) ⟨_, 0, none⟩ 1 1 [.string (s.extract fN k)] rfl rfl (cell_one_new _ _ _) (by intro u hu; simp at hu; subst hu; rfl) (by unfold maxLen; omega) (by omega) (by simp; omega) ?_; intro v' w1 hown' hgrow' _)
        go_roundw
        case rel =>
          refine ⟨k + 1, k + 1, D ++ [(s.data.toList.take k).drop fN], by omega, by omega, by simp; omega, by go_num, by go_num, .inr ⟨by have := beq_iff_eq.1 hb1; omega, HN.out.symm⟩, ?_, ?_⟩
          · rw [strs_snoc, List.length_append, ← HX.out]; exact hown'
          · exact (hnx.alloc hsz _).grown hgrow' (by simp; omega) (fun j hj => (hrow.lt j hj).1)
        case measure => simp [intOf]; omega
      · have hlt : k < s.size := by omega
        have hb1 : ((k : Int) == (s.size : Int)) = false := by simp; omega
        clear hlast
        rcases two' ((s[k].toNat : Int) == 44) with hb2 | hb2
        · have HN : Hid (Parted s.data.toList (D ++ [(s.data.toList.take k).drop fN]) (k + 1) (k + 1)) :=
            HQ.out.cut (by rw [HL.out]; exact hlt) ((Ost.u8_eq _ 44 (by omega)).2 (by have := beq_iff_eq.1 hb2; show s[k].toNat = 44; omega))
          go_wp2_with (at_builtin; refine wpList_append_own _ rfl _ _ 59 rfl w.heap.size 9 i0 (.string ⟨#[]⟩) 1 16 Tryd.underlying59 hi hz0 hz1 hz2 rfl (by decide) _ _ _ rfl (hrow.alloc _) ⟨_, 0, none⟩ 1 1 [.string (s.extract fN k)] rfl rfl (cell_one_new _ _ _) (by intro u hu; simp at hu; subst hu; rfl) (by unfold maxLen; omega) (by omega) (by simp; omega) ?_; intro v' w1 hown' hgrow' _)
          go_roundw
          case rel =>
            refine ⟨k + 1, k + 1, D ++ [(s.data.toList.take k).drop fN], by omega, by omega, by simp; omega, by go_num, by go_num, .inl HN.out, ?_, ?_⟩
            · rw [strs_snoc, List.length_append, ← HX.out]; exact hown'
            · exact (hnx.alloc hsz _).grown hgrow' (by simp; omega) (fun j hj => (hrow.lt j hj).1)
          case measure => simp [intOf]; omega
        · have HN : Hid (Parted s.data.toList D fN (k + 1)) :=
            HQ.out.more (by rw [HL.out]; exact hlt) (fun h => by
              have h2 : s[k].toNat = 44 := (Ost.u8_eq _ 44 (by omega)).1 h
              rw [beq_eq_false_iff_ne] at hb2; exact hb2 (by omega))
          go_wp2_with fail
          go_roundw
          case rel => exact ⟨k + 1, fN, D, by omega, by omega, by omega, by go_num, rfl, .inl HN.out, hrow, hnx⟩
          case measure => simp [intOf]; omega
theorem toListL (s : ByteArray) : s.toList = s.data.toList := ByteArray.toList_eq s
set_option maxHeartbeats 400000 in
theorem inInt_any (s : ByteArray) (w : World) (hs : s.size ≤ 300) :
    Calls Tryd.prog 43 #[.string s] w fun e w' => e = .returned (.bool (Ost.inIntB s.data.toList)) ∧ w' = w := by
  have HL : Hid (s.data.toList.length = s.size) := by unfold Hid; simp
  by_cases h1 : s.size < 19
  · have H : Hid (Ost.inIntB s.data.toList = true) := by unfold Hid Ost.inIntB; rw [HL.out, decide_eq_true h1]; rfl
    go_enter Tryd.func43, Tryd.ntmps43
    go_wp2_with fail
    go_ret
    exact ⟨congrArg (fun b => Ending.returned (.bool b)) H.out.symm, rfl⟩
  · by_cases h2 : s.size = 19
    · have H : Hid (Ost.inIntB s.data.toList = (Op.bytesLess s.toList [57, 50, 50, 51, 51, 55, 50, 48, 51, 54, 56, 53, 52, 55, 55, 53, 56, 48, 55] || s.toList == [57, 50, 50, 51, 51, 55, 50, 48, 51, 54, 56, 53, 52, 55, 55, 53, 56, 48, 55])) := by
        unfold Hid Ost.inIntB; rw [HL.out, decide_eq_false h1, decide_eq_true h2, toListL]; rfl
      have hb : ((s.size : Int) == 19) = true := by simp; omega
      have h3 : decide ((s.size : Int) < 19) = false := decide_eq_false (by omega)
      clear h1 h2
      go_enter Tryd.func43, Tryd.ntmps43
      go_wp2_with fail
      go_ret
      exact ⟨congrArg (fun b => Ending.returned (.bool b)) H.out.symm, rfl⟩
    · have H : Hid (Ost.inIntB s.data.toList = false) := by unfold Hid Ost.inIntB; rw [HL.out, decide_eq_false h1, decide_eq_false h2]; rfl
      have hb : ((s.size : Int) == 19) = false := by simp; omega
      have h3 : decide ((s.size : Int) < 19) = false := decide_eq_false (by omega)
      clear h2
      go_enter Tryd.func43, Tryd.ntmps43
      go_wp2_with fail
      go_ret
      exact ⟨congrArg (fun b => Ending.returned (.bool b)) H.out.symm, rfl⟩
end Go.Proofs.YtfnkmlpgfohjnaaDoor
