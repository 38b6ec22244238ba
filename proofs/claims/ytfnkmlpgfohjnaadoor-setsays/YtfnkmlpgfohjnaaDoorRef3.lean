/- What the document's own answers to B2 and the writers are: contracts of the plain functions that tell them. -/
import Derived.Test.YtfnkmlpgfohjnaaDoorRef2
import Derived.Test.YtfnkmlpgfohjnaaDoorTxt
import Derived.Deep.DeepFit
namespace Go.Proofs.YtfnkmlpgfohjnaaDoor
open Go.RowKit
def txtNum (p : List UInt8 × Int) : Value := .tuple #[.string ⟨p.1.toArray⟩, .int .i64 p.2]
theorem dec_small (n : Int) (h0 : 0 ≤ n) (h : n < 10) : dec n = [UInt8.ofNat (48 + n).toNat] := by
  unfold dec
  rw [Lib.decDigits_one (by omega), show 48 + n.toNat = (48 + n).toNat by omega]
theorem run_conv0 (w : World) (b : Nat) (x : Int) (h : w.cell? ⟨b, 0, none⟩ = some (.int .u8 x)) : (convert 73 9 (.slice (some ⟨b, 0, none⟩) 1 1)).run Tryd.prog w = .ok (.string ⟨#[UInt8.ofNat x.toNat]⟩) w := by
  rw [run_convert_bytes_string _ 73 9 5 _ 1 1 Tryd.underlying73 Tryd.underlying5 Tryd.underlying9]
  rw [run_bytesToString _ _ 1 1 [x] (run_loadCells_list w _ [.int .u8 x] (fun j v hj => by
    cases j with
    | zero => simp at hj; subst hj; exact h
    | succ j => simp at hj))]
  rfl
/-- A text of one byte, by what its cell holds. -/
def conv1 (w : World) (r : Result Value) : Option Value → Result Value
  | some (.int .u8 x) => .ok (.string ⟨#[UInt8.ofNat x.toNat]⟩) w
  | _ => r
theorem run_conv1 : ∃ r : World → Nat → Result Value, ∀ (w : World) (b : Nat), (convert 73 9 (.slice (some ⟨b, 0, none⟩) 1 1)).run Tryd.prog w = conv1 w (r w b) (w.cell? ⟨b, 0, none⟩) := by
  refine ⟨fun w b => (convert 73 9 (.slice (some ⟨b, 0, none⟩) 1 1)).run Tryd.prog w, fun w b => ?_⟩
  by_cases h : ∃ x, w.cell? ⟨b, 0, none⟩ = some (.int .u8 x)
  · obtain ⟨x, h⟩ := h
    rw [run_conv0 w b x h, h]; rfl
  · generalize w.cell? ⟨b, 0, none⟩ = c at h ⊢
    unfold conv1
    split
    · rename_i x; exact absurd ⟨x, rfl⟩ h
    · rfl
theorem conv1_byte (w : World) (r : Result Value) (x : Int) : conv1 w r (some (.int .u8 x)) = .ok (.string ⟨#[UInt8.ofNat x.toNat]⟩) w := rfl
set_option maxRecDepth 100000 in
set_option maxHeartbeats 400000 in
theorem decimal_small (n : Int) (w : World) (h0 : 0 ≤ n) (h : n < 10) :
    Calls Tryd.prog 38 #[.int .i64 n] w fun e w' => e = .returned (.string ⟨(dec n).toArray⟩) ∧ Below w.heap.size w w' := by
  obtain ⟨rr, hcv⟩ := run_conv1
  have hcb := conv1_byte
  go_enter Tryd.func38, Tryd.ntmps38
  go_wp2_with fail
  go_ret
  refine ⟨?_, (Below.refl _ w).alloc (Nat.le_refl _) _⟩
  rw [dec_small n h0 h]
  rfl
theorem dec_big (n : Int) (h : 10 ≤ n) : dec n = dec (n / 10) ++ [UInt8.ofNat (48 + n % 10).toNat] := by
  unfold dec
  rw [Lib.decDigits, dif_neg (by omega)]
  rw [show n.toNat / 10 = (n / 10).toNat by omega, show 48 + n.toNat % 10 = (48 + n % 10).toNat by omega]
theorem new_cell {w w1 : World} {v : Value} {t : TypeId} (hbl : Below (w.alloc (.cells #[v] t)).drew.heap.size (w.alloc (.cells #[v] t)).drew w1) : w1.cell? ⟨w.heap.size, 0, none⟩ = some v :=
  (hbl.cell (p := ⟨w.heap.size, 0, none⟩) (by simp)).trans (by simp [go_sem])
set_option maxRecDepth 100000 in
set_option maxHeartbeats 1000000 in
theorem decimal_step (n : Int) (h : 10 ≤ n) (h1 : n ≤ 9223372036854775807) (ih : Hid (∀ w : World, Calls Tryd.prog 38 #[.int .i64 (n / 10)] w fun e w' => e = .returned (.string ⟨(dec (n / 10)).toArray⟩) ∧ Below w.heap.size w w')) (w : World) :
    Calls Tryd.prog 38 #[.int .i64 n] w fun e w' => e = .returned (.string ⟨(dec n).toArray⟩) ∧ Below w.heap.size w w' := by
  obtain ⟨rr, hcv⟩ := run_conv1
  have hcb := conv1_byte
  have hl := dec_len (n / 10) (by omega)
  have HE := hideIt (dec_big n h)
  have ew : IntKind.i64.wrap (n.tdiv 10) = n / 10 := by
    rw [Int.tdiv_eq_ediv_of_nonneg (by omega)]
    exact IntWalk.i64_in _ (by omega)
  have HI : Hid (∀ w : World, Calls Tryd.prog 38 #[.int .i64 (IntKind.i64.wrap (n.tdiv 10))] w fun e w' => e = .returned (.string ⟨(dec (n / 10)).toArray⟩) ∧ Below w.heap.size w w') := by
    rw [ew]; exact ih
  have HX : Hid (IntKind.u8.wrap (IntKind.i64.wrap (48 + n.tmod 10)) = 48 + n % 10) := by
    unfold Hid
    rw [Int.tmod_eq_emod_of_nonneg (by omega), IntWalk.i64_in _ (by omega), IntWalk.u8_in _ (by omega)]
  clear ew ih
  go_enter Tryd.func38, Tryd.ntmps38
  go_wp2_with fail
  go_region_with (go_at_call 38; refine (HI.out _).mono ?_; rintro e w1 ⟨rfl, hbl⟩; try have hq := new_cell hbl)
  all_goals
    go_wp2_with fail
    go_ret
    refine ⟨?_, ?_⟩
    · rw [HE.out, ← HX.out]
      exact congrArg (fun x => Ending.returned (.string x)) (str_append _ _)
    · first
        | exact ((Below.refl _ w).drew.trans hbl).alloc hbl.size _
        | exact (((Below.refl _ w).alloc (Nat.le_refl _) _).drew).trans (hbl.mono (Nat.le_of_lt (by simp)))
/-- The digits of every number that is not below 0. -/
theorem decimal_any : ∀ (f : Nat) (n : Int) (w : World), n.toNat ≤ f → 0 ≤ n → n ≤ 9223372036854775807 →
    Calls Tryd.prog 38 #[.int .i64 n] w fun e w' => e = .returned (.string ⟨(dec n).toArray⟩) ∧ Below w.heap.size w w' := by
  intro f
  induction f with
  | zero => intro n w h h0 _; exact decimal_small n w h0 (by omega)
  | succ f ih =>
    intro n w h h0 h1
    by_cases hs : n < 10
    · exact decimal_small n w h0 hs
    · exact decimal_step n (by omega) h1 (fun w => ih (n / 10) w (by omega) (by omega) (by omega)) w
theorem decimal (n : Int) (w : World) (h0 : 0 ≤ n) (h1 : n ≤ 9223372036854775807) :
    Calls Tryd.prog 38 #[.int .i64 n] w fun e w' => e = .returned (.string ⟨(dec n).toArray⟩) ∧ Below w.heap.size w w' := decimal_any n.toNat n w (Nat.le_refl _) h0 h1
end Go.Proofs.YtfnkmlpgfohjnaaDoor
