/- What slices.SortFunc leaves with package pick's comparison: the contract. -/
import Derived.Test.YthekalhceamcoaaPCmp
namespace Go.Proofs.Ythekalhceamcoaa
open Go.RowKit
open Go.Sort
open Ost (Cpu cpu0 less order)
theorem cf_lt (cl : Nat → Nat) (x y : Nat) : ltOf (cfOf cl) x y = less cl x y := by
  unfold ltOf cfOf Lib.compareInt less
  rw [Bool.eq_iff_iff]
  by_cases h1 : (cl x : Int) < cl y
  · have h3 : cl x < cl y := by omega
    simp [h3]
  · by_cases h2 : (cl y : Int) < cl x
    · have h3 : ¬ cl x < cl y := by omega
      have h4 : ¬ cl x = cl y := by omega
      have h5 : cl y < cl x := by omega
      simp [h3, h4, h5]
    · have h3 : cl x = cl y := by omega
      by_cases h4 : x < y
      · simp [h3, h4]
      · by_cases h5 : y < x
        · simp [h3, h4, h5]
        · simp [h3, h4, h5]
theorem swoCf (cl : Nat → Nat) : SWO (ltOf (cfOf cl)) where
  irrefl x := by rw [cf_lt]; simp [less]
  trans x y z h1 h2 := by rw [cf_lt] at *; simp [less] at *; omega
  ntrans x y z h1 h2 := by rw [cf_lt] at *; simp [less] at *; omega
theorem totCf (cl : Nat → Nat) (x y : Nat) (h1 : ltOf (cfOf cl) x y = false) (h2 : ltOf (cfOf cl) y x = false) : x = y := by
  rw [cf_lt] at h1 h2; exact Ost.less_total h1 h2
/-- A row of numbers that is read. -/
def RowIs (w : World) (v : Value) (L : List Nat) : Prop :=
  (L = [] ∧ v = .slice none 0 0) ∨ ∃ g c, v = .slice (some ⟨g, 0, none⟩) L.length c ∧ L.length ≤ c ∧ ∀ k, k < L.length → w.cell? ⟨g, k, none⟩ = some (.int .i64 ((L.getD k 0 : Nat) : Int))
def encN (n : Nat) : Value := Value.int .i64 (n : Int)
theorem below_sortN (w : World) (K blk off m : Nat) (dk : Array Nat) (os : Array Obj) (hK : K ≤ blk) (hw : K ≤ w.heap.size) : Below K w (sortWorld encN w blk off m dk os) := below_sort w K blk off m dk os hK hw
theorem holds_row {w : World} {g : Nat} {cur : Array Value} {e : TypeId} {L : List Nat} (hg : w.heap[g]? = some (.cells cur e (0, 0))) (ht : cur.toList.take (L.length * 1) = nums L) : Holds encN w g 0 L.toArray := by
  intro j hj
  have hj2 : j < L.length := by simpa using hj
  have hc : cur[j]? = some (.int .i64 ((L.getD j 0 : Nat) : Int)) := by
    have h1 : (cur.toList.take (L.length * 1))[j]? = some (.int .i64 ((L.getD j 0 : Nat) : Int)) := by
      rw [ht]; simp [nums, hj2]
    rw [List.getElem?_take] at h1
    rw [if_pos (by omega)] at h1
    simpa using h1
  have hd : L.toArray[j]! = L.getD j 0 := by simp [hj2]
  refine ⟨?_, ?_⟩
  · rw [hd]; unfold World.cell?; rw [hg]; simp [hc, encN]
  · unfold World.frozen?; rw [hg]; simp
theorem sort_any (v : Value) (A K : Nat) (tc lc fc tb b o c mb n : Nat) (l : List Cpu) (f : Int → Int) (cl : Nat → Nat) (w : World) (hrow : w.ownsRow K 3 1 v (Ost.listTo A 64).length (nums (Ost.listTo A 64))) (hw : K ≤ w.heap.size)
    (h : Stand w tc lc fc tb b o c mb n l f) (hK : tc < K ∧ lc < K ∧ fc < K ∧ tb < K ∧ b < K ∧ mb < K) (hg : Good l) (hf : ∀ k, f (l.getD k cpu0).core = (cl k : Nat)) :
    Calls Try.prog 160 #[v, .func (.func 161) #[] #[.pointer (some ⟨fc, 0, none⟩)]] w fun e w' => e = .returned (.tuple #[]) ∧ RowIs w' v (order cl A) ∧ Below K w w' := by
  rcases hrow.2 with ⟨rfl, hn0⟩ | ⟨g, cap, cur, rfl, hbg, hgg, hcap, _, _, htk⟩
  · have hL : order cl A = [] := by
      have := Ost.order_length cl A
      unfold Ost.cnt at this
      exact List.length_eq_zero_iff.1 (by omega)
    have hS := AnyF.slices_SortFunc_none (P := Try.prog) (ρ := Try.sortL_ren) { Try.sortL with } none 0 (.func (.func 161) #[] #[.pointer (some ⟨fc, 0, none⟩)]) w
    change Calls Try.prog 160 _ _ _ at hS
    exact hS.mono fun e w' ⟨he, hw'⟩ => ⟨he, .inl ⟨hL, rfl⟩, by rw [hw']; exact Below.refl _ _⟩
  · have hH : Holds encN w g 0 (Ost.listTo A 64).toArray := holds_row hgg htk
    have hblk : g < w.heap.size := by
      rcases Nat.lt_or_ge g w.heap.size with hlt | hge
      · exact hlt
      · rw [Array.getElem?_eq_none hge] at hgg; cases hgg
    have eg : ∀ args w, (callFunc 161 args).run Try.prog w = .ok (.enter 161 args) w := enters_of Try.func161 (by kernel_rfl) rfl
    have hcmp : CmpLays1 Try.prog 161 #[.pointer (some ⟨fc, 0, none⟩)] encN (cfOf cl) g 0 (Ost.listTo A 64).toArray.size w := fun m os dk _ x y =>
      cmp_any x y tc lc fc tb b o c mb n l f cl _ (h.below (below_sortN w K g 0 m dk os hbg hw) hK) hg hf
    have h64 := listTo_le A 64
    have hS := Any.slices_SortFunc_total Try.sortL encN (fun _ => rfl) (cfOf cl) (swoCf cl) 161 #[.pointer (some ⟨fc, 0, none⟩)] g 0 cap (Ost.listTo A 64).toArray w eg hcmp hH hblk (by simp; omega) (totCf cl)
    change Calls Try.prog 160 _ _ _ at hS
    have hord : (fun x y : Nat => !ltOf (cfOf cl) y x) = fun x y => !less cl y x := by funext x y; rw [cf_lt]
    rw [hord] at hS
    have hz : (Ost.listTo A 64).toArray.size = (Ost.listTo A 64).length := by simp
    rw [hz] at hS
    refine hS.mono fun e w' ⟨he, q, os, hw'⟩ => ⟨he, ?_, ?_⟩
    · have hlen : (order cl A).length = (Ost.listTo A 64).length := Ost.order_length cl A
      have hh := holds_sortWorld encN w g 0 q (Ost.listTo A 64).toArray (order cl A).toArray os hblk hH (by simp [hlen])
      have e2 : ((Ost.listTo A 64).toArray.toList.mergeSort fun x y => !less cl y x).toArray = (order cl A).toArray := rfl
      rw [e2] at hw'
      refine .inr ⟨g, cap, by rw [hlen], by omega, fun k hk => ?_⟩
      have := (hh k (by simpa using hk)).1
      rw [hw', ← Nat.zero_add k, this]
      simp [encN, hk]
    · rw [hw']; exact below_sortN w K g 0 q _ os hbg hw
end Go.Proofs.Ythekalhceamcoaa
