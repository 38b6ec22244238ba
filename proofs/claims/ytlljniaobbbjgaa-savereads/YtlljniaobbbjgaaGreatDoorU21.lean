/- VTM -/
import Derived.Test.YtlljniaobbbjgaaGreatDoorU20
namespace Go.Proofs.YtlljniaobbbjgaaGreatDoor
open Go.RowKit Go.Shelf
open Sv (Gv Hd gv hd wd Tx sumTxt heldTxt heldF body readS OkL)
/-- A disk that holds this, and is up. -/
structure Holds (s : Dk) (hs : List Hd) : Prop where
  up : s.d = false
  ft : s.n.ft = true
  fb : s.n.fb = ⟨(heldTxt hs).toArray⟩
  hf : heldF hs = 0
  len : (heldTxt hs).length ≤ 6000
  ok : OkL hs
theorem Holds.load {s : Dk} {hs : List Hd} (h : Holds s hs) : s.load = (0, hs) := by
  unfold Dk.load
  rw [if_neg (by rw [h.up]; decide), if_pos h.ft, h.fb]
  show Sv.parseS (heldTxt hs).toArray.toList = _
  rw [List.toList_toArray]
  exact Sv.parseS_text h.ok h.hf h.len
theorem Holds.size {s : Dk} {hs : List Hd} (h : Holds s hs) : s.n.fb.data.toList.length ≤ 1000000 := by
  rw [h.fb]
  show (heldTxt hs).toArray.toList.length ≤ _
  rw [List.toList_toArray]
  exact Nat.le_trans h.len (by decide)
theorem from_cases (s : Dk) (t : ByteArray) : (s.err t 0 = 0 ∧ s.err t 1 = 0 ∧ s.err t 2 = 0 ∧ s.err t 3 = 0 ∧ s.from t 0 = (0, s.run t 4)) ∨ ∃ k, k < 4 ∧ (∀ j, j < k → s.err t j = 0) ∧ s.err t k ≠ 0 ∧ s.from t 0 = (s.err t k, s.run t (k + 1)) := by
  by_cases h0 : s.err t 0 = 0
  · by_cases h1 : s.err t 1 = 0
    · by_cases h2 : s.err t 2 = 0
      · by_cases h3 : s.err t 3 = 0
        · exact .inl ⟨h0, h1, h2, h3, by rw [Dk.from_yes (by decide) h0, Dk.from_yes (by decide) h1, Dk.from_yes (by decide) h2, Dk.from_yes (by decide) h3, Dk.from_end]⟩
        · exact .inr ⟨3, by decide, fun j hj => by have : j = 0 ∨ j = 1 ∨ j = 2 := by omega
                                                   rcases this with rfl | rfl | rfl <;> assumption, h3, by rw [Dk.from_yes (by decide) h0, Dk.from_yes (by decide) h1, Dk.from_yes (by decide) h2, Dk.from_no (by decide) h3]⟩
      · exact .inr ⟨2, by decide, fun j hj => by have : j = 0 ∨ j = 1 := by omega
                                                 rcases this with rfl | rfl <;> assumption, h2, by rw [Dk.from_yes (by decide) h0, Dk.from_yes (by decide) h1, Dk.from_no (by decide) h2]⟩
    · exact .inr ⟨1, by decide, fun j hj => by have : j = 0 := by omega
                                               rw [this]; exact h0, h1, by rw [Dk.from_yes (by decide) h0, Dk.from_no (by decide) h1]⟩
  · exact .inr ⟨0, by decide, fun j hj => by omega, h0, Dk.from_no (by decide) h0⟩
theorem err0_len {s : Dk} {t : ByteArray} (h : s.err t 0 = 0) : t.size ≤ 6000 := by
  have h' : (s.write t).1 = 0 := h
  unfold Dk.write at h'
  by_cases hl : 6000 < t.size
  · rw [if_pos hl] at h'; cases h'
  · omega
theorem save_zero {s : Dk} {hs : List Hd} (hc : ∀ h ∈ hs, ∀ g ∈ h.gs, g.cp < 18446744073709551616) (h : (s.save hs).1 = 0) : Holds (s.save hs).2 hs ∧ (s.save hs).2.k = (s.save hs).2.n ∧ (s.save hs).2.wt = none := by
  unfold Dk.save at h ⊢
  by_cases hf : heldF hs = 0
  · rw [if_pos hf] at h ⊢
    rcases from_cases s ⟨(heldTxt hs).toArray⟩ with ⟨h0, h1, h2, h3, e⟩ | ⟨k, _, _, h0, e⟩
    · have hl := err0_len h0
      rw [e, run_4 h0 h1 h2 h3]
      exact ⟨⟨rfl, rfl, rfl, hf, by simpa [ByteArray.size] using hl, Sv.okL_of hf hc⟩, rfl, rfl⟩
    · rw [e] at h; exact absurd h h0
  · rw [if_neg hf] at h; exact absurd h hf
theorem save_calm {s : Dk} {hs : List Hd} (hl : s.l < 0) (hd : s.d = false) (hf : heldF hs = 0) (ht : (heldTxt hs).length ≤ 6000) : (s.save hs).1 = 0 := by
  have hE : ∀ l : Int, l < 0 → stepE l false = 0 := fun l h => by unfold stepE; rw [if_neg (by simp; omega)]
  have hN : ∀ l : Int, l < 0 → stepN l false = l := fun l h => by unfold stepN; rw [if_neg (by simp; omega), if_neg (by omega)]
  obtain ⟨n, k, wt, l, d⟩ := s
  dsimp only at hl hd
  subst hd
  unfold Dk.save
  rw [if_pos hf]
  have hsz : ¬ 6000 < (ByteArray.mk (heldTxt hs).toArray).size := by simp [ByteArray.size]; omega
  generalize ByteArray.mk (heldTxt hs).toArray = t at *
  have h0 : Dk.err ⟨n, k, wt, l, false⟩ t 0 = 0 := by
    show (Dk.write _ t).1 = 0
    unfold Dk.write; rw [if_neg hsz]
    unfold Dk.apply; rw [if_pos (show stepE (Dk.run ⟨n, k, wt, l, false⟩ t 0).l (Dk.run ⟨n, k, wt, l, false⟩ t 0).d = 0 from hE l hl)]
  have h1 : Dk.err ⟨n, k, wt, l, false⟩ t 1 = 0 := by
    show (Dk.sync _).1 = 0
    rw [run_1 h0]
    unfold Dk.sync; rw [if_pos (by show stepE (stepN l false) false = 0; rw [hN l hl]; exact hE l hl)]
  have h2 : Dk.err ⟨n, k, wt, l, false⟩ t 2 = 0 := by
    show (Dk.apply _ _).1 = 0
    rw [run_2 h0 h1]
    unfold Dk.apply; rw [if_pos (by show stepE (stepN (stepN l false) false) false = 0; rw [hN l hl, hN l hl]; exact hE l hl)]
  have h3 : Dk.err ⟨n, k, wt, l, false⟩ t 3 = 0 := by
    show (Dk.sync _).1 = 0
    rw [run_3 h0 h1 h2]
    unfold Dk.sync; rw [if_pos (by show stepE (stepN (stepN (stepN l false) false) false) false = 0; rw [hN l hl, hN l hl, hN l hl]; exact hE l hl)]
  rw [Dk.from_yes (by decide) h0, Dk.from_yes (by decide) h1, Dk.from_yes (by decide) h2, Dk.from_yes (by decide) h3, Dk.from_end]
end Go.Proofs.YtlljniaobbbjgaaGreatDoor

