/- What slices.Index, slices.Contains, hints.with and better answer: contracts. -/
import Derived.Test.YtlpogejkmigimaaMEnv
import Derived.Deep.AppendLies
namespace Go.Proofs.Ytlpogejkmigimaa
open Go.RowKit
open Ost (Hi Wi wi0 Low withL bet pop8)
abbrev vH (h : Hi) : Value := .agg #[.int .u8 (h.1 : Nat), .bool h.2]
def Found (l : List Hi) (h : Hi) (e : Ending) : Prop := (h ∈ l ∧ ∃ r : Nat, e = .returned (.int .i64 r)) ∨ (h ∉ l ∧ e = .returned (.int .i64 (-1)))
set_option maxRecDepth 100000 in
set_option maxHeartbeats 1000000 in
theorem indexH_any (v : Value) (l : List Hi) (h : Hi) (w : World) (hv : HintsAt w v l) (hl : l.length ≤ 4000000) :
    Calls Try.prog 62 #[v, vH h] w fun e w' => Found l h e ∧ Below w.heap.size w w' := by
  obtain ⟨ao, c, rfl, hc⟩ := hv.form
  have HC := hideIt hc
  clear hc hv
  unfold vH
  obtain ⟨p, g⟩ := h
  have hX : Hid (Below w.heap.size w (w.alloc (.cells #[.int .u8 (p : Nat), .bool g] 60))) := (Below.refl _ _).alloc (Nat.le_refl _) _
  have hY := hideIt (show (w.alloc (.cells #[.int .u8 (p : Nat), .bool g] 60)).cell? ⟨w.heap.size, 0, none⟩ = some (.int .u8 (p : Nat)) ∧ (w.alloc (.cells #[.int .u8 (p : Nat), .bool g] 60)).cell? ⟨w.heap.size, 1, none⟩ = some (.bool g) by simp)
  go_enter Try.func62, Try.ntmps62
  go_wp2_with fail
  go_loopw [8] (fun i wr => ∃ k : Nat, k ≤ l.length ∧ i = .int .i64 k ∧ Hid (∀ j, j < k → l.getD j (0, false) ≠ (p, g)) ∧ Hid (Below (w.heap.size + 1) (w.alloc (.cells #[.int .u8 (p : Nat), .bool g] 60)) wr)) (fun i _ => l.length - (intOf i).toNat)
  case atStart => exact ⟨0, by omega, rfl, fun j hj => by omega, Below.refl _ _⟩
  case round =>
    obtain ⟨k, hk, rfl, HN, HB⟩ := hrel
    by_cases hlt : k < l.length
    · obtain ⟨b, o, rfl, hb, hcs⟩ := HC.out (by omega)
      have hB := HB.out
      have hx := hideIt (Ost.getD_mem l (0, false) k hlt)
      have hN : Hid (∀ x, l.getD k (0, false) = x → x ≠ (p, g) → ∀ j, j < k + 1 → l.getD j (0, false) ≠ (p, g)) := by
        intro x hx hne j hj
        by_cases e : j = k
        · subst e; rw [hx]; exact hne
        · exact HN.out j (by omega)
      have c0 := ((hB.cell (p := ⟨b, o + k * 2, none⟩) (by show b < w.heap.size + 1; omega)).trans (hX.out.cell (p := ⟨b, o + k * 2, none⟩) hb)).trans (hcs k hlt).1
      have c1 := ((hB.cell (p := ⟨b, o + k * 2 + 1, none⟩) (by show b < w.heap.size + 1; omega)).trans (hX.out.cell (p := ⟨b, o + k * 2 + 1, none⟩) hb)).trans (hcs k hlt).2
      have d0 := (hB.cell (p := ⟨w.heap.size, 0, none⟩) (by show w.heap.size < w.heap.size + 1; omega)).trans hY.out.1
      have d1 := (hB.cell (p := ⟨w.heap.size, 1, none⟩) (by show w.heap.size < w.heap.size + 1; omega)).trans hY.out.2
      clear hB hcs HN
      generalize hz : l.getD k (0, false) = x at *
      have hN := hideIt (hN.out x rfl)
      obtain ⟨q, f⟩ := x
      simp only at c0 c1
      have hz := hideIt hz
      by_cases hq : p = q
      · rcases two (g == f) with hf | hf
        · have : g = f := by simpa using hf
          subst this
          subst hq
          clear hf
          go_wp2_with fail
          go_quiet (fail)
          go_wp2_with fail
          go_ret
          exact ⟨.inl ⟨hx.out, k, rfl⟩, hX.out.trans (below_drewN (HB.out.mono (by omega)) _)⟩
        · subst hq
          go_wp2_with fail
          go_quiet (fail)
          go_wp2_with fail
          go_roundw
          case rel => exact ⟨k + 1, by omega, by go_num, hN.out (by intro h; simp at h; rw [h] at hf; simp at hf), below_drewN HB.out _⟩
          case measure => simp [intOf]; omega
      · have hf : ((p : Int) == (q : Int)) = false := by rw [beq_eq_false_iff_ne]; omega
        go_wp2_with fail
        go_quiet (fail)
        go_wp2_with fail
        go_roundw
        case rel => exact ⟨k + 1, by omega, by go_num, hN.out (by intro h; simp at h; exact hq h.1.symm), below_drewN HB.out _⟩
        case measure => simp [intOf]; omega
    · have hkl : k = l.length := by omega
      subst hkl
      have hno : Hid ((p, g) ∉ l) := by
        intro hm
        obtain ⟨j, hj, he⟩ := Ost.mem_getD (0, false) hm
        exact HN.out j hj he
      go_wp2_with fail
      go_ret
      exact ⟨.inr ⟨hno.out, rfl⟩, hX.out.trans (HB.out.mono (by omega))⟩
set_option maxRecDepth 100000 in
set_option maxHeartbeats 1000000 in
theorem containsH_any (v : Value) (l : List Hi) (h : Hi) (w : World) (hv : HintsAt w v l) (hl : l.length ≤ 4000000) :
    Calls Try.prog 61 #[v, vH h] w fun e w' => e = .returned (.bool (decide (h ∈ l))) ∧ Below w.heap.size w w' := by
  obtain ⟨p, g⟩ := h
  have hX : Hid (Below w.heap.size w (w.alloc (.cells #[.int .u8 (p : Nat), .bool g] 60))) := (Below.refl _ _).alloc (Nat.le_refl _) _
  have HI := hideIt (indexH_any v l (p, g) (w.alloc (.cells #[.int .u8 (p : Nat), .bool g] 60)) (hv.below hX.out) hl)
  obtain ⟨ao, c, rfl, _⟩ := hv.form
  clear hv
  unfold vH at *
  go_enter Try.func61, Try.ntmps61
  go_wp2_with fail
  refine HI.out.mono ?_
  rintro e w1 ⟨hf, hb⟩
  have hB := hideIt (hX.out.trans (hb.mono (by simp)))
  clear hb
  rcases hf with ⟨hm, r, rfl⟩ | ⟨hm, rfl⟩
  · have hm := hideIt hm
    go_wp2_with fail
    go_ret
    exact ⟨congrArg (fun b => Ending.returned (.bool b)) (decide_eq_true hm.out).symm, hB.out⟩
  · have hm := hideIt hm
    go_wp2_with fail
    go_ret
    exact ⟨congrArg (fun b => Ending.returned (.bool b)) (decide_eq_false hm.out).symm, hB.out⟩
/-- A list and a hint, once: what 'with' leaves. -/
def Withed (base : Nat) (w : World) (l : List Hi) (e : Ending) (w' : World) : Prop := ∃ v, e = .returned v ∧ w'.ownsRow base 60 2 v l.length (hintCells l) ∧ Below base w w'
/-- And all blocks but the row's own are as they were. -/
def WithedF (base : Nat) (v0 : Value) (w : World) (l : List Hi) (e : Ending) (w' : World) : Prop := ∃ v, e = .returned v ∧ w'.ownsRow base 60 2 v l.length (hintCells l) ∧ Below base w w' ∧ ∀ b, b < w.heap.size → some b ≠ v0.ownBlock → w'.heap[b]? = w.heap[b]? ∧ some b ≠ v.ownBlock
theorem row_over {w w' : World} {base K : Nat} {e : TypeId} {size : Nat} {v : Value} {n : Nat} {xs : List Value} (h : w.ownsRow base e size v n xs) (hb : Below K w w') (hK : w.heap.size ≤ K) : w'.ownsRow base e size v n xs := row_below h (hb.mono hK)
set_option maxRecDepth 100000 in
set_option maxHeartbeats 1000000 in
theorem with_far (base : Nat) (v : Value) (l : List Hi) (h : Hi) (w : World) (hv : w.ownsRow base 60 2 v l.length (hintCells l)) (hl : l.length ≤ 4000000) (hbase : base ≤ w.heap.size) :
    Calls Try.prog 60 #[v, vH h] w fun e w' => WithedF base v w (withL l h) e w' := by
  obtain ⟨p, g⟩ := h
  have hX : Hid (Below w.heap.size w (w.alloc (.cells #[.int .u8 (p : Nat), .bool g] 60))) := (Below.refl _ _).alloc (Nat.le_refl _) _
  have HI := hideIt (containsH_any v l (p, g) (w.alloc (.cells #[.int .u8 (p : Nat), .bool g] 60)) ((HintsAt.of_row hv).below hX.out) hl)
  have HV := hideIt (row_below hv hX.out)
  have HVl := hideIt hv.lt
  obtain ⟨ao, c, rfl⟩ := row_slice hv
  have hY := hideIt (show (w.alloc (.cells #[.int .u8 (p : Nat), .bool g] 60)).cell? ⟨w.heap.size, 0, none⟩ = some (.int .u8 (p : Nat)) ∧ (w.alloc (.cells #[.int .u8 (p : Nat), .bool g] 60)).cell? ⟨w.heap.size, 1, none⟩ = some (.bool g) by simp)
  clear hv
  unfold vH at *
  obtain ⟨i0, hi, hz0, hz1, hz2⟩ := info_parts infoHint
  go_enter Try.func60, Try.ntmps60
  go_wp2_with fail
  refine HI.out.mono ?_
  rintro e w1 ⟨rfl, hb⟩
  have hB := hideIt (hX.out.trans (hb.mono (by simp)))
  have HV1 := hideIt (row_below HV.out hb)
  have d0 := (hb.cell (p := ⟨w.heap.size, 0, none⟩) (by simp)).trans hY.out.1
  have d1 := (hb.cell (p := ⟨w.heap.size, 1, none⟩) (by simp)).trans hY.out.2
  have hsz : Hid (w.heap.size + 1 ≤ w1.heap.size) := Nat.le_trans (by simp) hb.size
  clear hb HI HV hX hY
  by_cases hm : (p, g) ∈ l
  · rw [decide_eq_true hm]
    have hw : Hid (withL l (p, g) = l) := by unfold Hid withL; rw [if_pos hm]
    clear hm
    go_wp2_with fail
    go_ret
    exact ⟨_, rfl, by rw [hw.out]; exact HV1.out, hB.out.mono hbase, fun b hb hne => ⟨hB.out.block b hb, hne⟩⟩
  · rw [decide_eq_false hm]
    have hw : Hid (withL l (p, g) = l ++ [(p, g)]) := by unfold Hid withL; rw [if_neg hm]
    clear hm
    have hs2 := hsz.out
    go_wp2_with (at_builtin; refine wpList_append_lies _ rfl _ _ 51 rfl base 60 i0 (.agg #[.int .u8 0, .bool false]) 2 2 Try.underlying51 hi hz0 hz1 hz2 rfl (by decide) _ _ _ rfl (HV1.out.alloc _) ⟨_, 0, none⟩ 1 1 [.int .u8 p, .bool g] rfl rfl (by intro j u hj; match j, hj with | 0, hj => (simp at hj; subst hj; simp [Addr.add]) | 1, hj => (simp at hj; subst hj; simp [Addr.add])) (by intro u hu; simp at hu; rcases hu with rfl | rfl <;> rfl) (by decide) (by unfold maxLen; omega) (by omega) (by simp; omega) _ rfl ?_; intro g' cap' w2 hown' hgrow' hat' hlt')
    go_ret
    refine ⟨_, rfl, by rw [hw.out, hintCells_snoc, List.length_append]; exact hown', ?_, fun b hb hne => ⟨?_, ?_⟩⟩
    · exact ((hB.out.mono hbase).alloc (by omega) _).grown hgrow' (by simp; omega) (fun j hj => (HV1.out.lt j hj).1)
    · rw [hgrow'.block b (by simp; omega) hne, heap_alloc_old _ _ (by omega)]
      exact hB.out.block b hb
    · intro he
      have he' : b = g' := by simpa [Value.ownBlock] using he
      subst he'
      rcases hat' with h | h
      · exact hne h.symm
      · simp at h; omega
theorem with_any (base : Nat) (v : Value) (l : List Hi) (h : Hi) (w : World) (hv : w.ownsRow base 60 2 v l.length (hintCells l)) (hl : l.length ≤ 4000000) (hbase : base ≤ w.heap.size) :
    Calls Try.prog 60 #[v, vH h] w fun e w' => Withed base w (withL l h) e w' :=
  (with_far base v l h w hv hl hbase).mono fun _ _ ⟨v', he, hr, hb, _⟩ => ⟨v', he, hr, hb⟩
end Go.Proofs.Ytlpogejkmigimaa
