/- VTM -/
import Derived.Test.YtlljniaobbbjgaaGreatDoorU24
namespace Go.Proofs.YtlljniaobbbjgaaGreatDoor
open Go.RowKit Go.Shelf
open Sv (Gv Hd gv hd wd Tx sumTxt heldTxt heldF body readS OkL)
/-- A disk that holds this, and is up. -/
structure Holds (s : Dk) (hs : List Hd) : Prop where
  up : s.d = false
  ft : s.n.ft = true
  fb : s.n.fb = ⟨(heldTxt hs).toArray⟩
  hf : heldF hs = 0
  len : (heldTxt hs).length ≤ 6000
  ok : OkL hs
theorem Holds.load {s : Dk} {hs : List Hd} (h : Holds s hs) : s.load = (0, hs) := by
  unfold Dk.load
  rw [if_neg (by rw [h.up]; decide), if_pos h.ft, h.fb]
  show Sv.parseS (heldTxt hs).toArray.toList = _
  rw [List.toList_toArray]
  exact Sv.parseS_text h.ok h.hf h.len
theorem Holds.size {s : Dk} {hs : List Hd} (h : Holds s hs) : s.n.fb.data.toList.length ≤ 1000000 := by
  rw [h.fb]
  show (heldTxt hs).toArray.toList.length ≤ _
  rw [List.toList_toArray]
  exact Nat.le_trans h.len (by decide)
theorem act_no {s : Dk} {t : ByteArray} {k : Nat} (h : (Dk.act t k s).1 ≠ 0) : (k = 0 ∧ (Dk.act t k s).1 = 2 ∧ (Dk.act t k s).2 = s) ∨ ((Dk.act t k s).1 = 11 ∧ (Dk.act t k s).2 = s.fall) := by
  unfold Dk.act at h ⊢
  by_cases h0 : k = 0
  · rw [if_pos h0] at h ⊢
    unfold Dk.write at h ⊢
    by_cases hl : 6000 < t.size
    · rw [if_pos hl]; exact .inl ⟨h0, rfl, rfl⟩
    · rw [if_neg hl] at h ⊢
      unfold Dk.apply at h ⊢
      by_cases he : stepE s.l s.d = 0
      · rw [if_pos he] at h; exact absurd rfl h
      · rw [if_neg he]; exact .inr ⟨rfl, rfl⟩
  · rw [if_neg h0] at h ⊢
    by_cases h2 : k = 2
    · rw [if_pos h2] at h ⊢
      unfold Dk.apply at h ⊢
      by_cases he : stepE s.l s.d = 0
      · rw [if_pos he] at h; exact absurd rfl h
      · rw [if_neg he]; exact .inr ⟨rfl, rfl⟩
    · rw [if_neg h2] at h ⊢
      unfold Dk.sync at h ⊢
      by_cases he : stepE s.l s.d = 0
      · rw [if_pos he] at h; exact absurd rfl h
      · rw [if_neg he]; exact .inr ⟨rfl, rfl⟩
theorem from_cases (s : Dk) (t : ByteArray) : (s.err t 0 = 0 ∧ s.err t 1 = 0 ∧ s.err t 2 = 0 ∧ s.err t 3 = 0 ∧ s.from t 0 = (0, s.run t 4)) ∨ ∃ k, k < 4 ∧ (∀ j, j < k → s.err t j = 0) ∧ s.err t k ≠ 0 ∧ s.from t 0 = (s.err t k, s.run t (k + 1)) := by
  by_cases h0 : s.err t 0 = 0
  · by_cases h1 : s.err t 1 = 0
    · by_cases h2 : s.err t 2 = 0
      · by_cases h3 : s.err t 3 = 0
        · exact .inl ⟨h0, h1, h2, h3, by rw [Dk.from_yes (by decide) h0, Dk.from_yes (by decide) h1, Dk.from_yes (by decide) h2, Dk.from_yes (by decide) h3, Dk.from_end]⟩
        · exact .inr ⟨3, by decide, fun j hj => by have : j = 0 ∨ j = 1 ∨ j = 2 := by omega
                                                   rcases this with rfl | rfl | rfl <;> assumption, h3, by rw [Dk.from_yes (by decide) h0, Dk.from_yes (by decide) h1, Dk.from_yes (by decide) h2, Dk.from_no (by decide) h3]⟩
      · exact .inr ⟨2, by decide, fun j hj => by have : j = 0 ∨ j = 1 := by omega
                                                 rcases this with rfl | rfl <;> assumption, h2, by rw [Dk.from_yes (by decide) h0, Dk.from_yes (by decide) h1, Dk.from_no (by decide) h2]⟩
    · exact .inr ⟨1, by decide, fun j hj => by have : j = 0 := by omega
                                               rw [this]; exact h0, h1, by rw [Dk.from_yes (by decide) h0, Dk.from_no (by decide) h1]⟩
  · exact .inr ⟨0, by decide, fun j hj => by omega, h0, Dk.from_no (by decide) h0⟩
theorem err0_len {s : Dk} {t : ByteArray} (h : s.err t 0 = 0) : t.size ≤ 6000 := by
  have h' : (s.write t).1 = 0 := h
  unfold Dk.write at h'
  by_cases hl : 6000 < t.size
  · rw [if_pos hl] at h'; cases h'
  · omega
theorem save_zero {s : Dk} {hs : List Hd} (hc : ∀ h ∈ hs, ∀ g ∈ h.gs, g.cp < 18446744073709551616) (h : (s.save hs).1 = 0) : Holds (s.save hs).2 hs ∧ (s.save hs).2.k = (s.save hs).2.n ∧ (s.save hs).2.wt = none := by
  unfold Dk.save at h ⊢
  by_cases hf : heldF hs = 0
  · rw [if_pos hf] at h ⊢
    rcases from_cases s ⟨(heldTxt hs).toArray⟩ with ⟨h0, h1, h2, h3, e⟩ | ⟨k, _, _, h0, e⟩
    · have hl := err0_len h0
      rw [e, run_4 h0 h1 h2 h3]
      exact ⟨⟨rfl, rfl, rfl, hf, by simpa [ByteArray.size] using hl, Sv.okL_of hf hc⟩, rfl, rfl⟩
    · rw [e] at h; exact absurd h h0
  · rw [if_neg hf] at h; exact absurd h hf
theorem save_calm {s : Dk} {hs : List Hd} (hl : s.l < 0) (hd : s.d = false) (hf : heldF hs = 0) (ht : (heldTxt hs).length ≤ 6000) : (s.save hs).1 = 0 := by
  have hE : ∀ l : Int, l < 0 → stepE l false = 0 := fun l h => by unfold stepE; rw [if_neg (by simp; omega)]
  have hN : ∀ l : Int, l < 0 → stepN l false = l := fun l h => by unfold stepN; rw [if_neg (by simp; omega), if_neg (by omega)]
  obtain ⟨n, k, wt, l, d⟩ := s
  dsimp only at hl hd
  subst hd
  unfold Dk.save
  rw [if_pos hf]
  have hsz : ¬ 6000 < (ByteArray.mk (heldTxt hs).toArray).size := by simp [ByteArray.size]; omega
  generalize ByteArray.mk (heldTxt hs).toArray = t at *
  have h0 : Dk.err ⟨n, k, wt, l, false⟩ t 0 = 0 := by
    show (Dk.write _ t).1 = 0
    unfold Dk.write; rw [if_neg hsz]
    unfold Dk.apply; rw [if_pos (show stepE (Dk.run ⟨n, k, wt, l, false⟩ t 0).l (Dk.run ⟨n, k, wt, l, false⟩ t 0).d = 0 from hE l hl)]
  have h1 : Dk.err ⟨n, k, wt, l, false⟩ t 1 = 0 := by
    show (Dk.sync _).1 = 0
    rw [run_1 h0]
    unfold Dk.sync; rw [if_pos (by show stepE (stepN l false) false = 0; rw [hN l hl]; exact hE l hl)]
  have h2 : Dk.err ⟨n, k, wt, l, false⟩ t 2 = 0 := by
    show (Dk.apply _ _).1 = 0
    rw [run_2 h0 h1]
    unfold Dk.apply; rw [if_pos (by show stepE (stepN (stepN l false) false) false = 0; rw [hN l hl, hN l hl]; exact hE l hl)]
  have h3 : Dk.err ⟨n, k, wt, l, false⟩ t 3 = 0 := by
    show (Dk.sync _).1 = 0
    rw [run_3 h0 h1 h2]
    unfold Dk.sync; rw [if_pos (by show stepE (stepN (stepN (stepN l false) false) false) false = 0; rw [hN l hl, hN l hl, hN l hl]; exact hE l hl)]
  rw [Dk.from_yes (by decide) h0, Dk.from_yes (by decide) h1, Dk.from_yes (by decide) h2, Dk.from_yes (by decide) h3, Dk.from_end]
/-- An error that is no fall: nothing is done. -/
theorem save_fault {s : Dk} {hs : List Hd} (h : (s.save hs).1 ≠ 0) (h2 : (s.save hs).1 ≠ 11) : (s.save hs).2 = s := by
  unfold Dk.save at h h2 ⊢
  by_cases hf : heldF hs = 0
  · rw [if_pos hf] at h h2 ⊢
    rcases from_cases s ⟨(heldTxt hs).toArray⟩ with ⟨_, _, _, _, e⟩ | ⟨k, _, _, h0, e⟩
    · rw [e] at h; exact absurd rfl h
    · rw [e] at h2 ⊢
      rcases act_no (k := k) h0 with ⟨rfl, _, e3⟩ | ⟨e2, _⟩
      · exact e3
      · exact absurd e2 h2
  · rw [if_neg hf]
/-- A restart behind a save that failed: what was there, or the new. -/
theorem save_restart {s : Dk} {hs ls : List Hd} (hc : ∀ h ∈ hs, ∀ g ∈ h.gs, g.cp < 18446744073709551616) (hl : Holds s ls) (hk : s.k = s.n) (hw : s.wt = none) (h : (s.save hs).1 ≠ 0) (keep torn : Int) : Holds ((s.save hs).2.restart keep torn) ls ∨ Holds ((s.save hs).2.restart keep torn) hs := by
  have hold : ∀ r : Dk, r.d = false → r.n.ft = s.n.ft → r.n.fb = s.n.fb → Holds r ls := fun r h1 h2 h3 => ⟨h1, by rw [h2]; exact hl.ft, by rw [h3]; exact hl.fb, hl.hf, hl.len, hl.ok⟩
  have hself : ∀ r : Dk, r.k = s.k → r.wt = none → Holds (r.restart keep torn) ls := fun r h1 h2 => hold _ rfl (by show (r.restartK keep torn).ft = _; unfold Dk.restartK; rw [h2]; dsimp only; rw [h1, hk]) (by show (r.restartK keep torn).fb = _; unfold Dk.restartK; rw [h2]; dsimp only; rw [h1, hk])
  unfold Dk.save at h ⊢
  by_cases hf : heldF hs = 0
  · rw [if_pos hf] at h ⊢
    rcases from_cases s ⟨(heldTxt hs).toArray⟩ with ⟨_, _, _, _, e⟩ | ⟨k, hk4, hj, h0, e⟩
    · rw [e] at h; exact absurd rfl h
    · rw [e]
      have hlen : 0 < k → (heldTxt hs).length ≤ 6000 := fun h => by simpa [ByteArray.size] using err0_len (hj 0 h)
      have hok : OkL hs := Sv.okL_of hf hc
      show Holds (Dk.restart (s.run _ (k + 1)) keep torn) ls ∨ Holds (Dk.restart (s.run _ (k + 1)) keep torn) hs
      have e2 : s.run ⟨(heldTxt hs).toArray⟩ (k + 1) = (Dk.act ⟨(heldTxt hs).toArray⟩ k (s.run ⟨(heldTxt hs).toArray⟩ k)).2 := rfl
      rw [e2]
      rcases act_no (k := k) h0 with ⟨rfl, _, e3⟩ | ⟨_, e3⟩
      · rw [e3]; exact .inl (hself s rfl hw)
      · rw [e3]
        have hcases : k = 0 ∨ k = 1 ∨ k = 2 ∨ k = 3 := by omega
        rcases hcases with rfl | rfl | rfl | rfl
        · exact .inl (hself _ rfl hw)
        · rw [run_1 (hj 0 (by omega))]
          refine .inl (hold _ rfl ?_ ?_)
          · show (Dk.restartK _ keep torn).ft = _
            by_cases h1 : 1 ≤ keep
            · simp [Dk.restartK, Dk.fall, Chg.on, h1, hk]
            · by_cases h2 : 0 < torn
              · simp [Dk.restartK, Dk.fall, Chg.on, h1, h2, hk]
              · simp [Dk.restartK, Dk.fall, Chg.on, h1, h2, hk]
          · show (Dk.restartK _ keep torn).fb = _
            by_cases h1 : 1 ≤ keep
            · simp [Dk.restartK, Dk.fall, Chg.on, h1, hk]
            · by_cases h2 : 0 < torn
              · simp [Dk.restartK, Dk.fall, Chg.on, h1, h2, hk]
              · simp [Dk.restartK, Dk.fall, Chg.on, h1, h2, hk]
        · rw [run_2 (hj 0 (by omega)) (hj 1 (by omega))]
          exact .inl (hold _ rfl rfl rfl)
        · rw [run_3 (hj 0 (by omega)) (hj 1 (by omega)) (hj 2 (by omega))]
          by_cases hkp : 1 ≤ keep
          · refine .inr ⟨rfl, ?_, ?_, hf, hlen (by omega), hok⟩
            · show (Dk.restartK _ keep torn).ft = _
              simp [Dk.restartK, Dk.fall, Chg.on, hkp]
            · show (Dk.restartK _ keep torn).fb = _
              simp [Dk.restartK, Dk.fall, Chg.on, hkp]
          · refine .inl (hold _ rfl ?_ ?_)
            · show (Dk.restartK _ keep torn).ft = _
              simp [Dk.restartK, Dk.fall, Chg.on, hkp]
            · show (Dk.restartK _ keep torn).fb = _
              simp [Dk.restartK, Dk.fall, Chg.on, hkp]
  · rw [if_neg hf]; exact .inl (hself s rfl hw)
theorem save_again {s : Dk} {hs : List Hd} (hc : ∀ h ∈ hs, ∀ g ∈ h.gs, g.cp < 18446744073709551616) (h : (s.save hs).1 = 0) (keep torn : Int) : Holds ((s.save hs).2.restart keep torn) hs := by
  obtain ⟨h1, h2, h3⟩ := save_zero hc h
  refine ⟨rfl, ?_, ?_, h1.hf, h1.len, h1.ok⟩
  · show (Dk.restartK _ keep torn).ft = _
    unfold Dk.restartK; rw [h3]; dsimp only; rw [h2]; exact h1.ft
  · show (Dk.restartK _ keep torn).fb = _
    unfold Dk.restartK; rw [h3]; dsimp only; rw [h2]; exact h1.fb
end Go.Proofs.YtlljniaobbbjgaaGreatDoor
