/- Hints and wishes in memory, and among what comes in. -/
import Derived.Test.YtlpogejkmigimaaHFor2
import Derived.Test.YtlpogejkmigimaaMMath
import Derived.Test.YtlpogejkmigimaaTEnv
import Derived.Deep.SlicePairs
import Derived.Laws.IdiomArrays
namespace Go.Proofs.Ytlpogejkmigimaa
open Go.ChangeShapes Go.WideShapes Go.ChangeAt Go.RowKit
open Ost (N4 Hi Wi wi0 Low)
/-- A slice of hints, in one form. -/
theorem HintsAt.form {w : World} {v : Value} {l : List Hi} (h : HintsAt w v l) : ∃ ao c, v = .slice ao l.length c ∧ (0 < l.length → ∃ b o, ao = some ⟨b, o, none⟩ ∧ b < w.heap.size ∧ ∀ k, k < l.length → w.cell? ⟨b, o + k * 2, none⟩ = some (.int .u8 ((l.getD k (0, false)).1 : Nat)) ∧ w.cell? ⟨b, o + k * 2 + 1, none⟩ = some (.bool (l.getD k (0, false)).2)) := by
  rcases h with ⟨rfl, ao, c, rfl⟩ | ⟨b, o, c, rfl, hlt, hc⟩
  · exact ⟨ao, c, rfl, fun h => by simp at h⟩
  · exact ⟨_, c, rfl, fun _ => ⟨b, o, rfl, hlt, hc⟩⟩
/-- A slice of wishes that is read. -/
def WishesAt (w : World) (v : Value) (ws : List Wi) : Prop :=
  (ws = [] ∧ ∃ ao c, v = .slice ao 0 c) ∨ ∃ b o c, v = .slice (some ⟨b, o, none⟩) ws.length c ∧ b < w.heap.size ∧ ∀ k, k < ws.length → w.cell? ⟨b, o + k * 2, none⟩ = some (.bool (ws.getD k wi0).any) ∧ ∃ u, w.cell? ⟨b, o + k * 2 + 1, none⟩ = some u ∧ HintsAt w u (ws.getD k wi0).hs
theorem WishesAt.below {w w' : World} {v : Value} {ws : List Wi} (h : WishesAt w v ws) (hb : Below w.heap.size w w') : WishesAt w' v ws := by
  rcases h with h | ⟨b, o, c, hv, hlt, hc⟩
  · exact .inl h
  · refine .inr ⟨b, o, c, hv, Nat.lt_of_lt_of_le hlt hb.size, fun k hk => ?_⟩
    obtain ⟨h1, u, h2, h3⟩ := hc k hk
    exact ⟨(hb.cell (p := ⟨b, o + k * 2, none⟩) hlt).trans h1, u, (hb.cell (p := ⟨b, o + k * 2 + 1, none⟩) hlt).trans h2, h3.below hb⟩
theorem WishesAt.form {w : World} {v : Value} {ws : List Wi} (h : WishesAt w v ws) : ∃ ao c, v = .slice ao ws.length c ∧ (0 < ws.length → ∃ b o, ao = some ⟨b, o, none⟩ ∧ b < w.heap.size ∧ ∀ k, k < ws.length → w.cell? ⟨b, o + k * 2, none⟩ = some (.bool (ws.getD k wi0).any) ∧ ∃ u, w.cell? ⟨b, o + k * 2 + 1, none⟩ = some u ∧ HintsAt w u (ws.getD k wi0).hs) := by
  rcases h with ⟨rfl, ao, c, rfl⟩ | ⟨b, o, c, rfl, hlt, hc⟩
  · exact ⟨ao, c, rfl, fun h => by simp at h⟩
  · exact ⟨_, c, rfl, fun _ => ⟨b, o, rfl, hlt, hc⟩⟩
theorem cells_Hint : Try.prog.cellsOf 60 = 2 := by kernel_rfl
theorem cells_Wish : Try.prog.cellsOf 53 = 2 := by kernel_rfl
theorem cells_four : Try.prog.cellsOf 45 = 4 := by kernel_rfl
instance : Inhabited Wi := ⟨wi0⟩
theorem u8_wf {n : Int} (h : (Lit.int .u8 n).wf = true) : 0 ≤ n ∧ n < 256 := by
  have := bounds_u8 h
  omega
theorem hints_of_trod {H : Type} {enc : TypeId × Value → H} {W : World} {fuel : Nat} {v : Value} {x : DataW H × List MemPlace}
    (h : DataW.trod enc Try.prog W 0 (fun _ => true) true fuel 51 [v] = some x) : ∃ l : List Hi, HintsAt W v l ∧ Low l := by
  rcases Deep.open_slice_pairs Try.underlying51 Try.underlying60 cells_Hint rfl rfl (by kernel_rfl) (by kernel_rfl) h with ⟨hcs, _⟩ | ⟨a, len, cap, m, n, V0, V1, D0, D1, P0, P1, hcs, _, hl, hm, hmm, _, hx⟩
  · simp at hcs
    subst hcs
    exact ⟨[], .inl ⟨rfl, none, 0, rfl⟩, fun x hx => by simp at hx⟩
  · simp at hcs
    subst hcs
    rw [if_pos rfl] at hmm
    subst hmm
    obtain ⟨f, hfx⟩ := Deep.choose_lt (α := Hi) (n := len) (p := fun i y => y.1 < 256 ∧ W.cell? (a.add (i * 2)) = some (.int .u8 (y.1 : Nat)) ∧ W.cell? (a.add (i * 2 + 1)) = some (.bool y.2)) (fun i hi => by
      obtain ⟨h1, h2, h3, h4⟩ := hx i (by omega)
      obtain ⟨p, e0, _, hwf⟩ := DataW.trod_int Try.underlying23 h3
      obtain ⟨q, e1, _⟩ := DataW.trod_bool Try.underlying4 h4
      simp at e0 e1
      have hr := u8_wf hwf
      rw [e0] at h1
      rw [e1] at h2
      refine ⟨(p.toNat, q), ?_, ?_, h2⟩
      · show p.toNat < 256; omega
      · rw [h1]
        show some (Value.int .u8 p) = some (.int .u8 ((p.toNat : Nat) : Int))
        rw [Int.toNat_of_nonneg hr.1])
    refine ⟨(List.range len).map f, ?_, ?_⟩
    · by_cases hn0 : len = 0
      · subst hn0
        exact .inl ⟨rfl, _, _, rfl⟩
      · obtain ⟨b, off, spot⟩ := a
        have hc := (hfx 0 (by omega)).2.1
        have hspot : spot = none := by simpa [Addr.add] using World.cell?_spot hc
        subst hspot
        refine .inr ⟨b, off, m, by simp only [List.length_map, List.length_range], ?_, fun k hk => ?_⟩
        · rw [Addr.add_lit] at hc
          exact World.block_lt_of_cell? W _ hc
        · have hk' : k < len := by simpa using hk
          obtain ⟨_, h0, h1⟩ := hfx k hk'
          rw [Addr.add_lit] at h0 h1
          have e : ((List.range len).map f).getD k (0, false) = f k := by simp [hk']
          rw [e]
          exact ⟨h0, by rw [Nat.add_assoc]; exact h1⟩
    · intro x hx
      rw [List.mem_map] at hx
      obtain ⟨i, hi, rfl⟩ := hx
      exact (hfx i (List.mem_range.1 hi)).1
theorem wishes_of_trod {H : Type} {enc : TypeId × Value → H} {W : World} {fuel : Nat} {v : Value} {x : DataW H × List MemPlace}
    (h : DataW.trod enc Try.prog W 0 (fun _ => true) true fuel 57 [v] = some x) : ∃ ws : List Wi, WishesAt W v ws ∧ ∀ y, y ∈ ws → Low y.hs := by
  rcases Deep.open_slice_pairs Try.underlying57 Try.underlying53 cells_Wish rfl rfl (by kernel_rfl) (by kernel_rfl) h with ⟨hcs, _⟩ | ⟨a, len, cap, m, n, V0, V1, D0, D1, P0, P1, hcs, _, hl, hm, hmm, _, hx⟩
  · simp at hcs
    subst hcs
    exact ⟨[], .inl ⟨rfl, none, 0, rfl⟩, fun x hx => by simp at hx⟩
  · simp at hcs
    subst hcs
    rw [if_pos rfl] at hmm
    subst hmm
    obtain ⟨f, hfx⟩ := Deep.choose_lt (α := Wi) (n := len) (p := fun i y => Low y.hs ∧ W.cell? (a.add (i * 2)) = some (.bool y.any) ∧ ∃ u, W.cell? (a.add (i * 2 + 1)) = some u ∧ HintsAt W u y.hs) (fun i hi => by
      obtain ⟨h1, h2, h3, h4⟩ := hx i (by omega)
      obtain ⟨q, e1, _⟩ := DataW.trod_bool Try.underlying4 h3
      obtain ⟨l, hl, hlow⟩ := hints_of_trod h4
      simp at e1
      rw [e1] at h1
      exact ⟨⟨q, l⟩, hlow, h1, _, h2, hl⟩)
    refine ⟨(List.range len).map f, ?_, ?_⟩
    · by_cases hn0 : len = 0
      · subst hn0
        exact .inl ⟨rfl, _, _, rfl⟩
      · obtain ⟨b, off, spot⟩ := a
        have hc := (hfx 0 (by omega)).2.1
        have hspot : spot = none := by simpa [Addr.add] using World.cell?_spot hc
        subst hspot
        refine .inr ⟨b, off, m, by simp only [List.length_map, List.length_range], ?_, fun k hk => ?_⟩
        · rw [Addr.add_lit] at hc
          exact World.block_lt_of_cell? W _ hc
        · have hk' : k < len := by simpa using hk
          obtain ⟨_, h0, u, h1, h2⟩ := hfx k hk'
          rw [Addr.add_lit] at h0 h1
          have e : ((List.range len).map f).getD k wi0 = f k := by simp [hk']
          rw [e]
          exact ⟨h0, u, by rw [Nat.add_assoc]; exact h1, h2⟩
    · intro x hx
      rw [List.mem_map] at hx
      obtain ⟨i, hi, rfl⟩ := hx
      exact (hfx i (List.mem_range.1 hi)).1
theorem list4 {α : Type} (l : List α) (h : (⟨l⟩ : Array α).size = 4) : ∃ a b c d, l = [a, b, c, d] := by
  match l, h with
  | [a, b, c, d], _ => exact ⟨a, b, c, d, rfl⟩
/-- Four numbers by value. -/
theorem four_of_trod {H : Type} {enc : TypeId × Value → H} {W : World} {base : Nat} {v : Value} {d : DataW H} {p : List MemPlace}
    (hv : Value.okWide Try.prog W .any base 45 v) (h : DataW.Trod enc Try.prog W 0 (fun _ => true) true 45 v d p) : ∃ q : N4, v = v4 q := by
  obtain ⟨cs, rfl, hsz, _⟩ : ∃ cs, v = .agg cs ∧ cs.size = Try.prog.cellsOf 45 ∧ Row.okWide Try.prog W .any base 45 cs := by
    simpa [Value.okWide, Try.underlying45] using hv
  rw [cells_four] at hsz
  obtain ⟨l⟩ := cs
  obtain ⟨c0, c1, c2, c3, rfl⟩ := list4 l hsz
  obtain ⟨fuel, hf⟩ := h
  obtain ⟨y0, y1, y2, y3, m, hx, hy0, hy1, hy2, hy3⟩ := trod_array4 Try.underlying45 cells_int hf
  obtain ⟨x0, e0, rfl, w0⟩ := DataW.trod_int Try.underlying3 hy0
  obtain ⟨x1, e1, rfl, w1⟩ := DataW.trod_int Try.underlying3 hy1
  obtain ⟨x2, e2, rfl, w2⟩ := DataW.trod_int Try.underlying3 hy2
  obtain ⟨x3, e3, rfl, w3⟩ := DataW.trod_int Try.underlying3 hy3
  simp at e0 e1 e2 e3
  subst e0 e1 e2 e3
  exact ⟨⟨x0, x1, x2, x3⟩, rfl⟩
end Go.Proofs.Ytlpogejkmigimaa
