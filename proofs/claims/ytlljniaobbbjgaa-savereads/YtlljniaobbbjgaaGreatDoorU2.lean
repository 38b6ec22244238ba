/- Amt, VS1, Math4, Same, VI1, DEnv, VI4, DW1, VD1, DPool, QMath2, Amt2 -/
import Derived.Test.YtlljniaobbbjgaaGreatDoorU1
import Derived.Lib.ItoaNum
import Derived.RangeFuncNested
import Derived.RangeFuncBound
import Derived.RangeFuncCalls
import Derived.RangeFuncLeaves
import Derived.RangeFuncBox
import Derived.RangeFuncWrites
import Derived.Shelf.Abstract
import Derived.Shelf.RegionOpen
import Derived.WalkKit
import Derived.OwnWalkIn
import Derived.TacticsInMore
import Derived.LoopNIn
import Derived.LoopIn
import Derived.ProofKit
import Derived.OpenShut
import Derived.ChangeOld
import Derived.Deep.Strs
import Derived.Deep.Slices
import Derived.Carry
import Derived.JoinedOf
import Derived.JoinedAt
import Derived.OrdersHeld
import Derived.OrdersIn
import Derived.Deep.AppendLies
namespace Go.Proofs.YtlljniaobbbjgaaGreatDoor.S1
open Go.RowKit
/-- An error's number as Go's value. -/
def errV (n : Int) : Value := if n = 0 then .nilIface else .iface 80 (.int .i64 n)
theorem read_yes (s : ByteArray) (m : Int) (w : World) (hs : s.size ≤ maxLen) (h : Ost.good m s.data.toList = true) :
    Calls Tryz.prog 119 #[.string s, .int .i64 m] w fun e w' => e = .returned (.tuple #[.int .i64 (Ost.val s.data.toList), .bool true]) ∧ w' = w := by
  have := read_any s m w hs
  rw [readOut_yes h] at this; exact this
theorem read_no (s : ByteArray) (m : Int) (w : World) (hs : s.size ≤ maxLen) (h : Ost.good m s.data.toList = false) :
    Calls Tryz.prog 119 #[.string s, .int .i64 m] w fun e w' => e = .returned (.tuple #[.int .i64 0, .bool false]) ∧ w' = w := by
  have := read_any s m w hs
  rw [readOut_no h] at this; exact this

theorem trim_le (s p : List UInt8) : (Lib.trimSuffix s p).length ≤ s.length := by
  unfold Lib.trimSuffix; split
  · simp
  · exact Nat.le_refl _
theorem cut1_le (c : UInt8) (l : List UInt8) : (Ost.cut1 c l).1.length ≤ l.length ∧ (Ost.cut1 c l).2.1.length ≤ l.length := by
  rcases Ost.cut1_index c l with ⟨_, h⟩ | ⟨i, _, h⟩ <;> rw [h] <;> simp <;> omega

/-- The library's variable that strings.Cut may look at holds some number. -/
def Mx (w : World) : Prop := ∃ m : Int, w.cell? ⟨0, 0, none⟩ = some (.int .i64 m)
theorem Mx.below {w w' : World} (h : Mx w) (hb : Below w.heap.size w w') : Mx w' := by
  obtain ⟨m, hm⟩ := h
  exact ⟨m, (hb.cell (p := ⟨0, 0, none⟩) (World.block_lt_of_cell? w _ hm)).trans hm⟩
theorem cut_any (s : ByteArray) (c : UInt8) (w : World) (hs : s.size < 4294967281) (hm : Mx w) :
    Calls Tryz.prog 121 #[.string s, .string ⟨#[c]⟩] w fun e w' => e = .returned (.tuple #[.string ⟨(Ost.cut1 c s.data.toList).1.toArray⟩, .string ⟨(Ost.cut1 c s.data.toList).2.1.toArray⟩, .bool (Ost.cut1 c s.data.toList).2.2]) ∧ ∃ n, w' = w.drewN n := by
  obtain ⟨m, hm⟩ := hm
  have := Tryz.strings_Cut s ⟨#[c]⟩ m w hs hm
  rw [show Lib.cut s.data.toList (ByteArray.mk #[c]).data.toList = Ost.cut1 c s.data.toList from Ost.cut_one c _] at this
  exact this
theorem cut_yes (s : ByteArray) (c : UInt8) (w : World) (hs : s.size < 4294967281) (hm : Mx w) (h : (Ost.cut1 c s.data.toList).2.2 = true) :
    Calls Tryz.prog 121 #[.string s, .string ⟨#[c]⟩] w fun e w' => e = .returned (.tuple #[.string ⟨(Ost.cut1 c s.data.toList).1.toArray⟩, .string ⟨(Ost.cut1 c s.data.toList).2.1.toArray⟩, .bool true]) ∧ ∃ n, w' = w.drewN n := by
  have := cut_any s c w hs hm
  rw [h] at this; exact this
theorem cut_no (s : ByteArray) (c : UInt8) (w : World) (hs : s.size < 4294967281) (hm : Mx w) (h : (Ost.cut1 c s.data.toList).2.2 = false) :
    Calls Tryz.prog 121 #[.string s, .string ⟨#[c]⟩] w fun e w' => e = .returned (.tuple #[.string ⟨(Ost.cut1 c s.data.toList).1.toArray⟩, .string ⟨(Ost.cut1 c s.data.toList).2.1.toArray⟩, .bool false]) ∧ ∃ n, w' = w.drewN n := by
  have := cut_any s c w hs hm
  rw [h] at this; exact this

end Go.Proofs.YtlljniaobbbjgaaGreatDoor.S1

namespace Go.Proofs.YtlljniaobbbjgaaGreatDoor
open Go.RowKit
theorem byte_at (s : ByteArray) (k : Nat) (h2 : k < s.data.toList.length) : s.data.toList[k] = s[k]'(by simpa using h2) := by simp [ByteArray.getElem_eq_getElem_data]
set_option maxHeartbeats 400000 in
theorem sum_any (s : ByteArray) (w : World) (hs : s.size ≤ maxLen) :
    Calls Tryz.prog 20 #[.string s] w fun e w' => e = .returned (.int .u32 (Sv.fnv s.data.toList : Nat)) ∧ w' = w := by
  unfold maxLen at hs
  have HL : Hid (s.data.toList.length = s.size) := by unfold Hid; simp
  go_enter Tryz.func20, Tryz.ntmps20
  go_wp2_with fail
  go_loop [3, 7] (fun h i => ∃ k : Nat, k ≤ s.size ∧ i = .int .i64 k ∧ h = .int .u32 (Sv.fnv (s.data.toList.take k) : Nat)) (fun _ i => s.size - (intOf i).toNat)
  case atStart => exact ⟨0, by omega, rfl, by simp [Sv.fnv]⟩
  case round =>
    obtain ⟨k, hk, rfl, rfl⟩ := hrel
    by_cases hlt : k < s.size
    · have hlt2 : k < s.data.toList.length := by rw [HL.out]; exact hlt
      have HN := hideIt (Sv.fnv_take hlt2)
      rw [byte_at s k hlt2] at HN
      have hh := Sv.fnv_lt (s.data.toList.take k)
      generalize Sv.fnv (s.data.toList.take k) = H at *
      have hb : s[k].toNat < 4294967296 := by have := s[k].toNat_lt; omega
      have hx := Sv.xor_u32 hh hb
      have hm := Sv.step_u32 H s[k]
      go_wp2_with fail
      go_round
      case rel => exact ⟨k + 1, by omega, rfl, by rw [HN.out]⟩
      case measure => simp [intOf]; omega
    · have hke : k = s.size := by omega
      subst hke
      have HE : Hid (s.data.toList.take s.size = s.data.toList) := by unfold Hid; rw [← HL.out, List.take_length]
      go_wp2_with fail
      go_ret
      exact ⟨congrArg (fun l => Ending.returned (.int .u32 (Sv.fnv l : Nat))) HE.out, rfl⟩
set_option maxHeartbeats 400000 in
theorem refSum_any (s : ByteArray) (w : World) (hs : s.size ≤ maxLen) :
    Calls Tryz.prog 21 #[.string s] w fun e w' => e = .returned (.int .i64 (Sv.fnv s.data.toList : Nat)) ∧ w' = w := by
  unfold maxLen at hs
  have HL : Hid (s.data.toList.length = s.size) := by unfold Hid; simp
  go_enter Tryz.func21, Tryz.ntmps21
  go_wp2_with fail
  go_loop [3, 4] (fun h i => ∃ k : Nat, k ≤ s.size ∧ i = .int .i64 k ∧ h = .int .i64 (Sv.fnv (s.data.toList.take k) : Nat)) (fun _ i => s.size - (intOf i).toNat)
  case atStart => exact ⟨0, by omega, rfl, by simp [Sv.fnv]⟩
  case round =>
    obtain ⟨k, hk, rfl, rfl⟩ := hrel
    by_cases hlt : k < s.size
    · have hlt2 : k < s.data.toList.length := by rw [HL.out]; exact hlt
      have HN := hideIt (Sv.fnv_take hlt2)
      rw [byte_at s k hlt2] at HN
      have hh := Sv.fnv_lt (s.data.toList.take k)
      generalize Sv.fnv (s.data.toList.take k) = H at *
      have hb : s[k].toNat < 4294967296 := by have := s[k].toNat_lt; omega
      have hx := Sv.xor_i64 hh hb
      obtain ⟨hm, hm2⟩ := Sv.step_i64 hh s[k]
      have hm3 : (0 : Int) ≤ ((H ^^^ s[k].toNat : Nat) : Int) * 16777619 := by omega
      go_wp2_with fail
      go_round
      case rel => exact ⟨k + 1, by omega, rfl, by rw [HN.out]⟩
      case measure => simp [intOf]; omega
    · have hke : k = s.size := by omega
      subst hke
      have HE : Hid (s.data.toList.take s.size = s.data.toList) := by unfold Hid; rw [← HL.out, List.take_length]
      go_wp2_with fail
      go_ret
      exact ⟨congrArg (fun l => Ending.returned (.int .i64 (Sv.fnv l : Nat))) HE.out, rfl⟩
end Go.Proofs.YtlljniaobbbjgaaGreatDoor

namespace Go.Proofs.YtlljniaobbbjgaaGreatDoor
namespace Ost
def decN (n : Nat) : List UInt8 := Lib.decDigits n
theorem decN_small (n : Nat) (h : n < 10) : decN n = [UInt8.ofNat (48 + n)] := Lib.decDigits_one h
theorem decN_big (n : Nat) (h : ¬ n < 10) : decN n = decN (n / 10) ++ [UInt8.ofNat (48 + n % 10)] := by
  unfold decN; rw [Lib.decDigits, dif_neg h]
theorem dig_ofNat (d : Nat) (h : d < 10) : isDig (UInt8.ofNat (48 + d)) = true ∧ ((UInt8.ofNat (48 + d)).toNat : Int) - 48 = d := by
  have e : (UInt8.ofNat (48 + d)).toNat = 48 + d := by simp; omega
  exact ⟨by rw [isDig_iff, e]; omega, by rw [e]; omega⟩
theorem decN_ne (n : Nat) : decN n ≠ [] := by
  by_cases h : n < 10
  · rw [decN_small n h]; simp
  · rw [decN_big n h]; simp
theorem decN_all (n : Nat) : allDig (decN n) = true ∧ val (decN n) = n := by
  induction n using Nat.strongRecOn with
  | ind n ih =>
    by_cases h : n < 10
    · obtain ⟨h1, h2⟩ := dig_ofNat n h
      rw [decN_small n h]
      exact ⟨by show (isDig _ && true) = true; rw [h1]; rfl, by show step 0 _ = _; unfold step; omega⟩
    · obtain ⟨h1, h2⟩ := dig_ofNat (n % 10) (by omega)
      obtain ⟨i1, i2⟩ := ih (n / 10) (by omega)
      rw [decN_big n h]
      exact ⟨by rw [allDig_snoc, i1, h1]; rfl, by rw [val_snoc, i2]; unfold step; omega⟩
theorem decN_head (n : Nat) : ¬ (1 < (decN n).length ∧ (decN n).headD 0 = 48) := by
  have key : 0 < n → (decN n).headD 0 ≠ 48 := by
    induction n using Nat.strongRecOn with
    | ind n ih =>
      intro h0
      by_cases h : n < 10
      · rw [decN_small n h]
        simp only [List.headD_cons]
        intro e
        have e2 := congrArg UInt8.toNat e
        have e3 : (UInt8.ofNat (48 + n)).toNat = 48 + n := by simp; omega
        rw [e3] at e2
        simp at e2; omega
      · rw [decN_big n h]
        have := ih (n / 10) (by omega) (by omega)
        cases hd : decN (n / 10) with
        | nil => exact absurd hd (decN_ne _)
        | cons a r => rw [hd] at this; simpa using this
  by_cases h0 : 0 < n
  · exact fun h => key h0 h.2
  · have : n = 0 := by omega
    subst this
    rw [decN_small 0 (by omega)]; simp
theorem decN_num (n : Nat) : isNum (decN n) = true := (isNum_iff _).2 ⟨decN_ne n, decN_head n, (decN_all n).1⟩
theorem decN_len (k n : Nat) (h : n < 10 ^ (k + 1)) : (decN n).length ≤ k + 1 := by
  induction k generalizing n with
  | zero => rw [decN_small n (by simpa using h)]; simp
  | succ k ih =>
    by_cases hs : n < 10
    · rw [decN_small n hs]; simp
    · rw [decN_big n hs, List.length_append]
      have := ih (n / 10) (by rw [Nat.pow_succ] at h; omega)
      simp; omega
theorem decN_good (n : Nat) (k : Nat) (hk : k + 1 ≤ 18) (h : n < 10 ^ (k + 1)) : good ((k + 1 : Nat) : Int) (decN n) = true := by
  rw [good_of_num _ _ (by omega), decN_num n]
  have := decN_len k n h
  simp; omega
end Ost
end Go.Proofs.YtlljniaobbbjgaaGreatDoor

namespace Go.Proofs.YtlljniaobbbjgaaGreatDoor.S1
open Go.RowKit
end Go.Proofs.YtlljniaobbbjgaaGreatDoor.S1

namespace Go.Proofs.YtlljniaobbbjgaaGreatDoor
open Go.RowKit
/-- All lies as it lay, but what K names; there may be more. -/
structure Apart (K : Nat → Prop) (W W' : World) : Prop where
  os : W'.os = W.os
  tape : W'.tape = W.tape
  output : W'.output = W.output
  size : W.heap.size ≤ W'.heap.size
  block : ∀ j, j < W.heap.size → ¬ K j → W'.heap[j]? = W.heap[j]?
theorem Apart.refl (K : Nat → Prop) (W : World) : Apart K W W := ⟨rfl, rfl, rfl, Nat.le_refl _, fun _ _ _ => rfl⟩
theorem Apart.trans {K : Nat → Prop} {A B C : World} (h : Apart K A B) (k : Apart K B C) : Apart K A C :=
  ⟨k.os.trans h.os, k.tape.trans h.tape, k.output.trans h.output, Nat.le_trans h.size k.size, fun j hj hk => (k.block j (Nat.lt_of_lt_of_le hj h.size) hk).trans (h.block j hj hk)⟩
theorem Apart.wide {K K' : Nat → Prop} {A B : World} (h : Apart K A B) (hk : ∀ j, K j → K' j) : Apart K' A B :=
  ⟨h.os, h.tape, h.output, h.size, fun j hj hn => h.block j hj fun e => hn (hk j e)⟩
theorem Apart.of_below {K : Nat → Prop} {W W' : World} (h : Below W.heap.size W W') : Apart K W W' := ⟨h.os, h.tape, h.output, h.size, fun j hj _ => h.block j hj⟩
theorem Apart.alloc (K : Nat → Prop) (W : World) (o : Obj) : Apart K W (W.alloc o) := .of_below ((Below.refl _ W).alloc (Nat.le_refl _) o)
theorem Apart.drewN (K : Nat → Prop) (W : World) (n : Nat) : Apart K W (W.drewN n) := ⟨rfl, rfl, rfl, Nat.le_refl _, fun _ _ _ => rfl⟩
theorem Apart.putObj {K : Nat → Prop} {l : Nat} (hl : K l) (W : World) (o : Obj) : Apart K W (W.putObj l o) :=
  have hg := grownBy_putObj' W l o
  ⟨hg.os, hg.tape, hg.output, hg.size, fun j hj hn => hg.block j hj fun e => hn (by cases e; exact hl)⟩
theorem Apart.setCell {K : Nat → Prop} {b : Nat} (hb : K b) (W : World) (j : Nat) (v : Value) : Apart K W (W.setCell ⟨b, j, none⟩ v) :=
  ⟨rfl, rfl, rfl, (KeepsWalks.setCell W _ v).size, fun k _ hn => Below.heap_setCell _ _ _ k fun e => hn (by rw [e]; exact hb)⟩
section
variable {F : Fence} {n : Nat} {P : Program}
/-- An iterator that hands out just these, one behind the other, and writes what K names alone. -/
def IterW (F : Fence) (n : Nat) (P : Program) (gf : Nat) (lb : Array Value) (K : Nat → Prop) (ts : List (Array Value)) (w : World) : Prop :=
  ∀ (l : Nat) (J : Nat → World → Prop) (Jx : World → Prop) (W : World), (∀ j, K j → W.heap[j]? = w.heap[j]?) → (∀ k A B, J k A → Apart K A B → J k B) →
    (∀ k A, (hk : k < ts.length) → J k A → YieldAt F (n - 1) P l ts[k] A fun e B => (e = .returned (.bool true) ∧ J (k + 1) B ∧ ∀ j, K j → B.heap[j]? = A.heap[j]?) ∨ (e = .returned (.bool false) ∧ Jx B)) →
    J 0 W → CallsIn F n P gf (#[.func (.yield l) #[] #[]] ++ lb) W fun e B => (∃ v, e = .returned v) ∧ (J ts.length B ∨ Jx B)
/-- What a round's body keeps, and how it may be left. -/
def RoundEnds (K : Nat → Prop) (L : Nat) (R : World → Prop) (X : Code → World → Prop) (W : World) : Exit → Act → World → Prop
  | .normal, _, W' => (∀ j, (K j ∨ j = L ∨ j = L + 1) → W'.heap[j]? = W.heap[j]?) ∧ R W'
  | .ret, _, W' => (∀ j, (K j ∨ j = L ∨ j = L + 1) → W'.heap[j]? = W.heap[j]?) ∧ X .ret W'
  | .exit id, _, W' => (∀ j, (K j ∨ j = L ∨ j = L + 1) → W'.heap[j]? = W.heap[j]?) ∧ X (.exit id) W'
  | _, _, _ => False
theorem wpIn_rangeW {g : Operand} {ps : Array Tmp} {assign body : Code} {Q : Exit → Act → World → Prop} {a : Act} {w : World} (hro : F.round = none) (h1 : 1 ≤ n) {gf : Nat} {lb : Array Value}
    (hg : a.eval g = .func (.func gf) #[] lb) (hFg : F.fn gf) (eg : ∀ args w, (callFunc gf args).run P w = .ok (.enter gf args) w)
    {K : Nat → Prop} {ts : List (Array Value)} (hK : ∀ j, K j → j < w.heap.size) (hseq : IterW F (n - 1) P gf lb K ts w) (hps : ∀ x ∈ ts, x.size = ps.size)
    (I : Nat → World → Prop) (Ix : Code → World → Prop) (hI : ∀ k A B, I k A → Apart (fun j => K j ∨ j = w.heap.size + 1) A B → I k B) (hIx : ∀ c A B, Ix c A → Apart (fun j => K j ∨ j = w.heap.size + 1) A B → Ix c B) (h0 : I 0 w) (a₁ : Nat → Act)
    (hassign : ∀ (l k : Nat) (hk : k < ts.length) (W : World) (R : Act → World → Prop), R (a₁ k) W → assign.wpIn (F.inRound l) (n - 1 - 1) P (Exit.then R (fun _ _ _ => False)) { tmps := (ps.zip ts[k]).foldl (fun t (p, v) => t.setIfInBounds p v) a.tmps, defers := [] } W)
    (hbody : ∀ (l k : Nat) (W : World), k < ts.length → w.heap.size + 1 < W.heap.size → I k W → body.wpIn (F.inRound l) (n - 1 - 1) P (RoundEnds K w.heap.size (I (k + 1)) Ix W) (a₁ k) W)
    (hdone : ∀ (W : World), I ts.length W → W.heap[w.heap.size]? = some (.deferred (some [])) → Q .normal { a with defers := { target := .collected w.heap.size, args := #[] } :: a.defers } W)
    (hstop : ∀ (c : Code) (W : World), Ix c W → W.heap[w.heap.size]? = some (.deferred (some [])) → c.wpIn F n P Q { a with defers := { target := .collected w.heap.size, args := #[] } :: a.defers } W) :
    (Code.rangeFunc g ps assign body).wpIn F n P Q a w := by
  refine wpIn_rangeFunc fun fn hfn => ?_
  rw [hro]
  generalize hrc : (fun (st : LoopState) (pe : Option Code) => ({ state := st, pending := pe, fn := fn, tmps := a.tmps, params := ps, assign := assign, body := body, defers := w.heap.size } : Loop)) = rc
  have hst : ∀ st pe, (rc st pe).state = st := fun _ _ => by rw [← hrc]
  have hup : ∀ st pe st' pe', ({ rc st pe with state := st', pending := pe' } : Loop) = rc st' pe' := fun _ _ _ _ => by rw [← hrc]
  have hup1 : ∀ st pe st', ({ rc st pe with state := st' } : Loop) = rc st' pe := fun _ _ _ => by rw [← hrc]
  let L := w.heap.size + 1
  let U := (w.alloc (.deferred (some []))).alloc (.loop (rc .ready none))
  have hUl : U.heap[L]? = some (.loop (rc .ready none)) := by
    have := World.alloc_heap_new (w.alloc (.deferred (some []))) (.loop (rc .ready none))
    rwa [World.size_alloc] at this
  have hUd : U.heap[w.heap.size]? = some (.deferred (some [])) := (Below.heap_alloc _ _ _ (by simp)).trans (World.alloc_heap_new w _)
  have hAU : Apart (fun j => K j ∨ j = L) w U := (Apart.alloc _ _ _).trans (Apart.alloc _ _ _)
  have hKU : ∀ j, K j → U.heap[j]? = w.heap[j]? := fun j hj => by
    have := hK j hj
    exact (Below.heap_alloc _ _ _ (by simp; omega)).trans (Below.heap_alloc _ _ _ this)
  have hKL : ∀ j, K j → j ≠ L ∧ j ≠ w.heap.size := fun j hj => by
    have := hK j hj
    exact ⟨by show j ≠ w.heap.size + 1; omega, by omega⟩
  let J : Nat → World → Prop := fun k W => I k W ∧ W.heap[L]? = some (.loop (rc .ready none)) ∧ W.heap[w.heap.size]? = some (.deferred (some []))
  let Jx : World → Prop := fun W => ∃ c, Ix c W ∧ W.heap[L]? = some (.loop (rc .done (some c))) ∧ W.heap[w.heap.size]? = some (.deferred (some []))
  have keep : ∀ {A B : World} {o : Obj} {j : Nat}, Apart K A B → ¬ K j → A.heap[j]? = some o → B.heap[j]? = some o := fun h hj ho => (h.block _ (Array.getElem?_eq_some_iff.1 ho).1 hj).trans ho
  have hnL : ¬ K L := fun e => (hKL L e).1 rfl
  have hnD : ¬ K w.heap.size := fun e => (hKL _ e).2 rfl
  refine ⟨L, [{ target := .collected w.heap.size, args := #[] }], U, { target := .fn (.func gf) lb, args := #[.func (.yield L) #[] #[]] }, U, gf, #[.func (.yield L) #[] #[]] ++ lb, U, ?_, ?_, ?_, ?_, fun _ => h1, ?_⟩
  · show _ = Result.ok _ ((w.alloc (.deferred (some []))).alloc (.loop (rc .ready none)))
    rw [← hrc]; exact run_enterLoop_outer _ _ _ _ _
  · simp only [resolve, hg]; simp [go_sem]
  · intro f' hf'; simp [Target.leads] at hf'; subst hf'; exact hFg
  · simp [invoke, go_sem, eg]
  · refine (hseq L J Jx U hKU (fun k A B ⟨hi, hl, hd⟩ hab => ⟨hI k A B hi (hab.wide fun _ => .inl), keep hab hnL hl, keep hab hnD hd⟩) ?_ ⟨hI 0 w U h0 hAU, hUl, hUd⟩).mono ?_
    · rintro k A hk ⟨hi, hl, hd⟩
      have hlt : L < A.heap.size := (Array.getElem?_eq_some_iff.1 hl).1
      have hy := run_yield (P := P) (args := ts[k]) hl (by rw [← hrc]; exact hps _ (List.getElem_mem hk))
      rw [← hrc] at hy
      refine ⟨fn, _, assign, body, hy, roundIn_of_wpIn hfn (hassign L k hk A _ ⟨_, run_beginRound hl (hst _ _), ?_⟩)⟩
      rw [hup1]
      let A2 := A.putObj L (.loop (rc .busy none))
      have hl2 : A2.heap[L]? = some (.loop (rc .busy none)) := World.putObj_heap_same hlt
      have hd2 : A2.heap[w.heap.size]? = some (.deferred (some [])) := (World.putObj_heap_other (by show w.heap.size ≠ w.heap.size + 1; omega)).trans hd
      have hK2 : ∀ j, K j → A2.heap[j]? = A.heap[j]? := fun j hj => World.putObj_heap_other (hKL j hj).1
      have hi2 : I k A2 := hI k A A2 hi (Apart.putObj (.inr rfl) _ _)
      refine wpIn_mono (hbody L k A2 hk (Nat.lt_of_lt_of_le hlt (grownBy_putObj' A L _).size) hi2) ?_
      have fin : ∀ (jump : Option Code) (B : World), (∀ j, (K j ∨ j = w.heap.size ∨ j = w.heap.size + 1) → B.heap[j]? = A2.heap[j]?) →
          (Instr.endRound L jump).run P B = .ok (.bool jump.isNone) (B.putObj L (.loop (rc (if jump.isNone then .ready else .done) jump))) ∧
          (B.putObj L (.loop (rc (if jump.isNone then .ready else .done) jump))).heap[L]? = some (.loop (rc (if jump.isNone then .ready else .done) jump)) ∧
          (B.putObj L (.loop (rc (if jump.isNone then .ready else .done) jump))).heap[w.heap.size]? = some (.deferred (some [])) ∧
          ∀ j, K j → (B.putObj L (.loop (rc (if jump.isNone then .ready else .done) jump))).heap[j]? = A.heap[j]? := fun jump B hb => by
        have hl3 : B.heap[L]? = some (.loop (rc .busy none)) := (hb L (.inr (.inr rfl))).trans hl2
        have hr := run_endRound (P := P) jump hl3
        rw [hup] at hr
        exact ⟨hr, World.putObj_heap_same (Array.getElem?_eq_some_iff.1 hl3).1, (World.putObj_heap_other (by show w.heap.size ≠ w.heap.size + 1; omega)).trans ((hb _ (.inr (.inl rfl))).trans hd2),
          fun j hj => (World.putObj_heap_other (hKL j hj).1).trans ((hb j (.inl hj)).trans (hK2 j hj))⟩
      rintro e a3 B hp
      cases e with
      | normal =>
        obtain ⟨hb, hi3⟩ := hp
        obtain ⟨hr, f1, f2, f3⟩ := fin none B hb
        exact ⟨_, _, hr, .inl ⟨rfl, ⟨hI _ _ _ hi3 (Apart.putObj (.inr rfl) _ _), f1, f2⟩, f3⟩⟩
      | ret =>
        obtain ⟨hb, hx⟩ := hp
        obtain ⟨hr, f1, f2, _⟩ := fin (some .ret) B hb
        exact ⟨_, _, hr, .inr ⟨rfl, .ret, hIx _ _ _ hx (Apart.putObj (.inr rfl) _ _), f1, f2⟩⟩
      | exit id =>
        obtain ⟨hb, hx⟩ := hp
        obtain ⟨hr, f1, f2, _⟩ := fin (some (.exit id)) B hb
        exact ⟨_, _, hr, .inr ⟨rfl, .exit id, hIx _ _ _ hx (Apart.putObj (.inr rfl) _ _), f1, f2⟩⟩
      | goto t => exact hp.elim
      | panic ch => exact hp.elim
      | outgrown => exact hp.elim
    · rintro e B ⟨⟨v, rfl⟩, (⟨hi, hl, hd⟩ | ⟨c, hx, hl, hd⟩)⟩
      · have hr := run_endLoop (P := P) hl (by rw [hst]; simp)
        rw [hup1] at hr
        refine ⟨_, _, hr, ?_⟩
        have hp : (rc .ready none).pending = none := by rw [← hrc]
        rw [hp]
        exact hdone _ (hI _ _ _ hi (Apart.putObj (.inr rfl) _ _)) ((World.putObj_heap_other (by show w.heap.size ≠ w.heap.size + 1; omega)).trans hd)
      · have hr := run_endLoop (P := P) hl (by rw [hst]; simp)
        rw [hup1] at hr
        refine ⟨_, _, hr, ?_⟩
        have hp : (rc .done (some c)).pending = some c := by rw [← hrc]
        rw [hp]
        exact hstop c _ (hIx _ _ _ hx (Apart.putObj (.inr rfl) _ _)) ((World.putObj_heap_other (by show w.heap.size ≠ w.heap.size + 1; omega)).trans hd)
end
end Go.Proofs.YtlljniaobbbjgaaGreatDoor

namespace Go.Proofs.YtlljniaobbbjgaaGreatDoor
open Go.ChangeShapes Go.WideShapes Go.ChangeAt Go.RowKit
open Dvs (Dv dv0 dv nth)
/-- A slice of values of so many cells each, each such as is told. -/
def RowsOf (W : World) (v : Value) (N : Nat) (p : List Value → Prop) : Prop :=
  ∃ ao len c, v = .slice ao len c ∧ len ≤ maxLen ∧ (0 < len → ∃ b o, ao = some ⟨b, o, none⟩ ∧ b < W.heap.size ∧ ∀ k, k < len → ∃ cs : List Value, cs.length = N ∧ (∀ j, j < N → W.cell? ⟨b, o + k * N + j, none⟩ = cs[j]?) ∧ p cs)
theorem RowsOf.below {W W' : World} {v : Value} {N : Nat} {p q : List Value → Prop} (h : RowsOf W v N p) (hb : Below W.heap.size W W') (hp : ∀ cs, p cs → q cs) : RowsOf W' v N q := by
  obtain ⟨ao, len, c, hv, hm, hr⟩ := h
  refine ⟨ao, len, c, hv, hm, fun h0 => ?_⟩
  obtain ⟨b, o, ha, hlt, hc⟩ := hr h0
  refine ⟨b, o, ha, Nat.lt_of_lt_of_le hlt hb.size, fun k hk => ?_⟩
  obtain ⟨cs, hl, hcs, hpc⟩ := hc k hk
  exact ⟨cs, hl, fun j hj => (hb.cell (p := ⟨b, o + k * N + j, none⟩) hlt).trans (hcs j hj), hp cs hpc⟩
section
variable {H : Type} {enc : TypeId × Value → H} {P : Program} {W : World}
end
def intP (cs : List Value) : Prop := ∃ x : Int, cs = [.int .i64 x]
def pairP (cs : List Value) : Prop := ∃ (s : ByteArray) (x : Int), cs = [.string s, .int .i64 x]
def contP (W : World) (cs : List Value) : Prop := ∃ (nm : ByteArray) (a b c d : Int) (v : Value), cs = [.string nm, .int .i64 a, .int .i64 b, .int .i64 c, .int .i64 d, v] ∧ RowsOf W v 2 pairP
def actP (W : World) (cs : List Value) : Prop := ∃ (kind s : ByteArray) (a b : Int) (m : Nat) (lv : Value) (nm : ByteArray) (pr : Int) (cv uv : Value),
  cs = [.string kind, .string s, .int .i64 a, .int .i64 b, .int .u8 m, lv, .string nm, .int .i64 pr, cv, uv] ∧ m < 256 ∧ RowsOf W lv 1 intP ∧ RowsOf W cv 6 (contP W) ∧ RowsOf W uv 2 pairP
theorem contP.below {W W' : World} {cs : List Value} (h : contP W cs) (hb : Below W.heap.size W W') : contP W' cs := by
  obtain ⟨nm, a, b, c, d, v, rfl, hv⟩ := h
  exact ⟨nm, a, b, c, d, v, rfl, hv.below hb fun _ h => h⟩
theorem actP.below {W W' : World} {cs : List Value} (h : actP W cs) (hb : Below W.heap.size W W') : actP W' cs := by
  obtain ⟨kind, s, a, b, m, lv, nm, pr, cv, uv, rfl, hm, h1, h2, h3⟩ := h
  exact ⟨kind, s, a, b, m, lv, nm, pr, cv, uv, rfl, hm, h1.below hb fun _ h => h, h2.below hb fun _ h => h.below hb, h3.below hb fun _ h => h⟩
section
variable {H : Type} {enc : TypeId × Value → H} {W : World}
end
/-- A slice of devices that is read. -/
def DevsAt (w : World) (v : Value) (g o : Nat) (ds : List Dv) : Prop :=
  ∃ ao c, v = .slice ao ds.length c ∧ (0 < ds.length → ao = some ⟨g, o, none⟩ ∧ g < w.heap.size ∧ ∀ k, k < ds.length → w.cell? ⟨g, o + k * 3, none⟩ = some (.string (dv ds k).kind) ∧ w.cell? ⟨g, o + k * 3 + 1, none⟩ = some (.int .i64 (dv ds k).node) ∧ w.cell? ⟨g, o + k * 3 + 2, none⟩ = some (.bool (dv ds k).sick))
/-- A slice of numbers that is read. -/
def NumsAt (w : World) (v : Value) (g o : Nat) (l : List Int) : Prop :=
  ∃ ao c, v = .slice ao l.length c ∧ (0 < l.length → ao = some ⟨g, o, none⟩ ∧ g < w.heap.size ∧ ∀ k, k < l.length → w.cell? ⟨g, o + k, none⟩ = some (.int .i64 (nth l k)))
end Go.Proofs.YtlljniaobbbjgaaGreatDoor

namespace Go.Proofs.YtlljniaobbbjgaaGreatDoor
open Go.RowKit
/-- A piece of code that is left at its end alone. -/
def NormalAtW (R : Act → World → Prop) : Exit → Act → World → Prop
  | .normal, a, w => R a w
  | _, _, _ => False
theorem NormalAtW.mk {R : Act → World → Prop} {a : Act} {w : World} (h : R a w) : NormalAtW R .normal a w := h
theorem noneOut (R : Act → World → Prop) : ¬ LetsOut (NormalAtW R) := by
  rintro ⟨a, w, h⟩
  exact h
section
variable {P : Program} {ops : Array Oper} {Q : Exit → Act → World → Prop} {l n : Nat}
theorem ops_in (hnd : ∀ (i : Nat) (o : Oper) c, ops[i]? = some o → o.op ≠ Op.defer c) (hLO : ¬ LetsOut Q) : ∀ (is : List Nat) (a : Act) (w : World), wpOps P ops Q is a w → wpOpsIn (Fence.wide.inRound l) n P ops Q is a w := by
  intro is
  induction is with
  | nil => intro a w h; exact h
  | cons i r ih =>
    intro a w h
    unfold wpOps at h
    unfold wpOpsIn
    cases ho : ops[i]? with
    | none => rw [ho] at h; exact ih a w h
    | some o =>
      rw [ho] at h
      dsimp only at h ⊢
      split at h
      · rename_i hw
        rw [if_pos hw]
        rcases h with h | h
        · refine ⟨fun _ _ => trivial, ?_⟩
          rw [Oper.semAt_eq _ _ _ (fun c => hnd i o c ho)]
          unfold Oper.wp at h
          generalize (execOp a.eval o).run P w = res at h ⊢
          cases res with
          | ok nx w' =>
            cases nx with
            | value v => exact ih _ _ h
            | skip => exact ih _ _ h
            | defer d => exact ih _ _ h
            | enter f args =>
              refine ⟨(fun e => by cases e), CallsIn.inRound l (callsIn_wide.2 (Calls.mono h ?_))⟩
              rintro e w'' hq
              cases e with
              | returned v => exact ih _ _ hq
              | panicked ch => exact hq
              | outgrown => exact hq
            | row rn args =>
              exact ⟨(fun e => by cases e), fun c cs _ => by
                obtain ⟨v, w'', hr, hs⟩ := h c cs
                exact ⟨v, w'', ih _ _ hr, stepsIn_wide.2 hs⟩⟩
            | _ => exact h.elim
          | halt ht w' =>
            cases ht with
            | panic v => exact h
            | _ => exact h.elim
        · exact absurd h.2 hLO
      · rename_i hw
        rw [if_neg hw]
        exact ⟨fun _ _ => trivial, ih _ _ h⟩
theorem wpIn_round_held {S : World → Prop} {id : Nat} {a : Act} {w : World} (hm : P.follows .mixedOrders = true) (hnd : ∀ (i : Nat) (o : Oper) c, ops[i]? = some o → o.op ≠ Op.defer c) (hLO : ¬ LetsOut Q)
    (h : wpAnyH P .any ops Q S ops.size (Array.replicate ops.size false) a w.drew) : (Code.region id ops true).wpIn (Fence.wide.inRound l) n P Q a w :=
  wpIn_region_draw fun t => by
    simp only [Region.schedule, hm, Bool.true_or, if_true]
    exact ops_in hnd hLO _ _ _ (wpAny_sound ops.size t _ a _ (wpAny_of_held _ _ _ _ h))
theorem wpIn_normalAtV {F : Fence} {c : Code} {R : Act → World → Prop} {a : Act} {w : World} (h : Code.wpIn F n P c (NormalAtW R) a w) (hq : ∀ a w, R a w → Q .normal a w) : Code.wpIn F n P c Q a w :=
  wpIn_mono h fun e a w h => by
    cases e with
    | normal => exact hq _ _ h
    | _ => exact h.elim
end
end Go.Proofs.YtlljniaobbbjgaaGreatDoor

namespace Go.Proofs.YtlljniaobbbjgaaGreatDoor
open Go.RowKit
open Dvs (Dv dv0 dv nth isLet isNum okB allTo nameMay)
set_option maxHeartbeats 400000 in
theorem letter_any (x : UInt8) (w : World) : Calls Tryz.prog 107 #[.int .u8 x.toNat] w fun e w' => e = .returned (.bool (isLet x)) ∧ w' = w := by
  unfold isLet
  by_cases h1 : 97 ≤ x.toNat
  all_goals by_cases h2 : x.toNat ≤ 122
  · go_enter Tryz.func107, Tryz.ntmps107
    go_wp2_with fail
    go_ret
    refine ⟨?_, rfl⟩
    simp [h1, h2]
    try omega
  · go_enter Tryz.func107, Tryz.ntmps107
    go_wp2_with fail
    go_ret
    refine ⟨?_, rfl⟩
    simp [h1, h2]
    try omega
  · go_enter Tryz.func107, Tryz.ntmps107
    go_wp2_with fail
    go_ret
    refine ⟨?_, rfl⟩
    simp
    try omega
  · omega
theorem digit_bool (x : UInt8) (w : World) : Calls Tryz.prog 106 #[.int .u8 x.toNat] w fun e w' => (∃ n, e = .returned (.tuple #[.int .i64 n, .bool (isNum x)])) ∧ w' = w := by
  cases h : isNum x
  · exact (digit_no x w h).mono fun e w' ⟨he, hw⟩ => ⟨⟨_, he⟩, hw⟩
  · exact (digit_yes x w h).mono fun e w' ⟨he, hw⟩ => ⟨⟨_, he⟩, hw⟩
set_option maxHeartbeats 1000000 in
theorem name_any (s : ByteArray) (w : World) : Calls Tryz.prog 83 #[.string s] w fun e w' => e = .returned (.bool (nameMay s)) ∧ w' = w := by
  by_cases he : s.size = 0
  · have hem : s.toList.isEmpty = true := by rw [Ost.toList_isEmpty]; simp [he]
    rw [Dvs.nameMay_none he]
    clear he
    go_enter Tryz.func83, Tryz.ntmps83
    go_wp2_with fail
    go_ret
    exact ⟨rfl, rfl⟩
  have hem : s.toList.isEmpty = false := by rw [Ost.toList_isEmpty]; simp [he]
  by_cases h8 : 8 < s.size
  · rw [Dvs.nameMay_long h8]
    go_enter Tryz.func83, Tryz.ntmps83
    go_wp2_with fail
    go_ret
    exact ⟨rfl, rfl⟩
  have h8' : s.size ≤ 8 := by omega
  rw [Dvs.nameMay_all (by omega) h8']
  clear h8 he
  go_enter Tryz.func83, Tryz.ntmps83
  go_wp2_with fail
  go_loop [15] (fun i => ∃ k : Nat, k ≤ s.size ∧ i = .int .i64 k ∧ Hid (allTo (okB s) k = true)) (fun i => s.size - (intOf i).toNat)
  case atStart => exact ⟨0, Nat.zero_le _, rfl, rfl⟩
  case round =>
    obtain ⟨k, hk, rfl, HA⟩ := hrel
    by_cases hlt : k < s.size
    · have HO := hideIt (Dvs.okB_at s k hlt)
      rcases two (isLet s[k]) with hl | hl
      · have HN : Hid (allTo (okB s) (k + 1) = true) := Dvs.allTo_yes HA.out (by rw [HO.out, hl]; rfl)
        go_wp2_with fail
        refine (digit_bool _ _).mono ?_
        rintro e w1 ⟨⟨n, rfl⟩, rfl⟩
        go_wp2_with fail
        refine (letter_any _ _).mono ?_
        rintro e w1 ⟨rfl, rfl⟩
        rw [hl]
        go_wp2_with fail
        go_round
        case rel => exact ⟨k + 1, by omega, by go_num, HN⟩
        case measure => simp [intOf]; omega
      · rcases two (isNum s[k]) with hn | hn
        · by_cases h0 : 0 < k
          · have HN : Hid (allTo (okB s) (k + 1) = true) := Dvs.allTo_yes HA.out (by rw [HO.out, hl, hn, decide_eq_true h0]; rfl)
            go_wp2_with fail
            refine (digit_bool _ _).mono ?_
            rintro e w1 ⟨⟨n, rfl⟩, rfl⟩
            rw [hn]
            go_wp2_with fail
            refine (letter_any _ _).mono ?_
            rintro e w1 ⟨rfl, rfl⟩
            rw [hl]
            go_wp2_with fail
            go_round
            case rel => exact ⟨k + 1, by omega, by go_num, HN⟩
            case measure => simp [intOf]; omega
          · have HN : Hid (allTo (okB s) s.size = false) := Dvs.allTo_no (k := k) (by rw [HO.out, hl, hn, decide_eq_false h0]; rfl) hlt
            have hk0 : k = 0 := by omega
            subst hk0
            go_wp2_with fail
            refine (digit_bool _ _).mono ?_
            rintro e w1 ⟨⟨n, rfl⟩, rfl⟩
            rw [hn]
            go_wp2_with fail
            refine (letter_any _ _).mono ?_
            rintro e w1 ⟨rfl, rfl⟩
            rw [hl]
            go_wp2_with fail
            go_ret
            exact ⟨congrArg (fun b => Ending.returned (.bool b)) HN.out.symm, rfl⟩
        · have HN : Hid (allTo (okB s) s.size = false) := Dvs.allTo_no (k := k) (by rw [HO.out, hl, hn]; rfl) hlt
          go_wp2_with fail
          refine (digit_bool _ _).mono ?_
          rintro e w1 ⟨⟨n, rfl⟩, rfl⟩
          rw [hn]
          go_wp2_with fail
          refine (letter_any _ _).mono ?_
          rintro e w1 ⟨rfl, rfl⟩
          rw [hl]
          go_wp2_with fail
          go_ret
          exact ⟨congrArg (fun b => Ending.returned (.bool b)) HN.out.symm, rfl⟩
    · have hke : k = s.size := by omega
      have HN : Hid (allTo (okB s) s.size = true) := by rw [← hke]; exact HA
      clear hke HA
      go_wp2_with fail
      go_ret
      exact ⟨congrArg (fun b => Ending.returned (.bool b)) HN.out.symm, rfl⟩
set_option maxHeartbeats 1000000 in
theorem may_any (s : ByteArray) (w : World) : Calls Tryz.prog 52 #[.string s] w fun e w' => e = .returned (.bool (nameMay s)) ∧ w' = w := by
  by_cases he : s.size = 0
  · rw [Dvs.nameMay_none he]
    go_enter Tryz.func52, Tryz.ntmps52
    go_wp2_with fail
    all_goals
      go_ret
      exact ⟨rfl, rfl⟩
  have he' : 1 ≤ s.size := by omega
  by_cases h8 : 8 < s.size
  · rw [Dvs.nameMay_long h8]
    clear he
    go_enter Tryz.func52, Tryz.ntmps52
    go_wp2_with fail
    all_goals
      go_ret
      exact ⟨rfl, rfl⟩
  have h8' : s.size ≤ 8 := by omega
  rw [Dvs.nameMay_all (by omega) h8']
  clear h8 he
  have HB := hideIt (Dvs.okB_at s 0 (by omega))
  by_cases hf : 97 ≤ s[0].toNat ∧ s[0].toNat ≤ 122
  · obtain ⟨f1, f2⟩ := hf
    have HF := hideIt f1
    go_enter Tryz.func52, Tryz.ntmps52
    go_wp2_with fail
    go_loop [3] (fun i => ∃ k : Nat, k ≤ s.size ∧ i = .int .i64 k ∧ Hid (allTo (okB s) k = true)) (fun i => s.size - (intOf i).toNat)
    case atStart => exact ⟨0, Nat.zero_le _, rfl, rfl⟩
    case round =>
      obtain ⟨k, hk, rfl, HA⟩ := hrel
      by_cases hlt : k < s.size
      · have HO := hideIt (Dvs.okB_at s k hlt)
        have HD : Hid (s[k].toNat ≤ 57 → 0 < k) := fun h => by
          rcases Nat.eq_zero_or_pos k with e | e
          · subst e; have := HF.out; omega
          · exact e
        clear f1 f2
        unfold isLet isNum at HO
        have key : (97 ≤ s[k].toNat ∧ s[k].toNat ≤ 122) ∨ (97 ≤ s[k].toNat ∧ 122 < s[k].toNat) ∨ (s[k].toNat < 97 ∧ 48 ≤ s[k].toNat ∧ s[k].toNat ≤ 57) ∨ (s[k].toNat < 97 ∧ 48 ≤ s[k].toNat ∧ 57 < s[k].toNat) ∨ (s[k].toNat < 97 ∧ s[k].toNat < 48) := by omega
        rcases key with ⟨g1, g2⟩ | ⟨g1, g2⟩ | ⟨g1, g2, g3⟩ | ⟨g1, g2, g3⟩ | ⟨g1, g2⟩
        · have b0 : decide ((s[k].toNat : Int) ≤ 122) = true := by simp; omega
          have HN : Hid (allTo (okB s) (k + 1) = true) := Dvs.allTo_yes HA.out (by rw [HO.out]; simp; omega)
          clear HO HD
          go_wp2_with fail
          go_round
          case rel => exact ⟨k + 1, by omega, by go_num, HN⟩
          case measure => simp [intOf]; omega
        · have b0 : decide ((s[k].toNat : Int) ≤ 122) = false := by simp; omega
          have b1 : decide ((s[k].toNat : Int) ≤ 57) = false := by simp; omega
          have HN : Hid (allTo (okB s) s.size = false) := Dvs.allTo_no (k := k) (by rw [HO.out]; simp; omega) hlt
          clear HO HD
          go_wp2_with fail
          go_ret
          exact ⟨congrArg (fun b => Ending.returned (.bool b)) HN.out.symm, rfl⟩
        · have b0 : decide ((s[k].toNat : Int) ≤ 57) = true := by simp; omega
          have HN : Hid (allTo (okB s) (k + 1) = true) := Dvs.allTo_yes HA.out (by rw [HO.out]; have := HD.out g3; simp; omega)
          clear HO HD
          go_wp2_with fail
          go_round
          case rel => exact ⟨k + 1, by omega, by go_num, HN⟩
          case measure => simp [intOf]; omega
        · have b0 : decide ((s[k].toNat : Int) ≤ 57) = false := by simp; omega
          have HN : Hid (allTo (okB s) s.size = false) := Dvs.allTo_no (k := k) (by rw [HO.out]; simp; omega) hlt
          clear HO HD
          go_wp2_with fail
          go_ret
          exact ⟨congrArg (fun b => Ending.returned (.bool b)) HN.out.symm, rfl⟩
        · have HN : Hid (allTo (okB s) s.size = false) := Dvs.allTo_no (k := k) (by rw [HO.out]; simp; omega) hlt
          clear HO HD
          go_wp2_with fail
          go_ret
          exact ⟨congrArg (fun b => Ending.returned (.bool b)) HN.out.symm, rfl⟩
      · have hke : k = s.size := by omega
        have HN : Hid (allTo (okB s) s.size = true) := by rw [← hke]; exact HA
        clear hke HA
        go_wp2_with fail
        go_ret
        exact ⟨congrArg (fun b => Ending.returned (.bool b)) HN.out.symm, rfl⟩
  · have HN : Hid (allTo (okB s) s.size = false) := Dvs.allTo_no (k := 0) (by rw [HB.out]; unfold isLet; simp; omega) (by omega)
    have key : s[0].toNat < 97 ∨ (97 ≤ s[0].toNat ∧ 122 < s[0].toNat) := by omega
    clear hf HB
    rcases key with g1 | ⟨g1, g2⟩
    all_goals
      go_enter Tryz.func52, Tryz.ntmps52
      go_wp2_with fail
      all_goals
        go_ret
        exact ⟨congrArg (fun b => Ending.returned (.bool b)) HN.out.symm, rfl⟩
end Go.Proofs.YtlljniaobbbjgaaGreatDoor

namespace Go.Proofs.YtlljniaobbbjgaaGreatDoor
open Go.RowKit
theorem results_cellV {fn : Func} {p : Tmp} {ty : TypeId} (h : fn.results = #[.cell p ty]) (tmps : Array Value) (P : Program) (w : World) :
    (results fn tmps).run P w = ((asAddr (tmps.getD p undef)).run P w).andThen fun a w₁ => (loadVar ty a).run P w₁ := by
  simp only [results, h]
  simp [Sem.run_bind, Result.andThen]
/-- A file, and its draft. -/
structure Sd where
  ft : Bool
  fb : ByteArray
  dt : Bool
  db : ByteArray
def Sd.agg (s : Sd) : Value := .agg #[.bool s.ft, .string s.fb, .bool s.dt, .string s.db]
/-- A Write of these bytes, or a Move. -/
structure Chg where
  wr : Bool
  bs : ByteArray
def Chg.agg (c : Chg) : Value := .agg #[.bool c.wr, .string c.bs]
/-- What a change makes of it. -/
def Chg.on (c : Chg) (s : Sd) : Sd := if c.wr = true then ⟨s.ft, s.fb, true, c.bs⟩ else ⟨s.dt, s.db, false, ⟨#[]⟩⟩
set_option maxRecDepth 100000 in
set_option maxHeartbeats 1000000 in
theorem on_any (c : Chg) (s : Sd) (w : World) : Calls Tryz.prog 50 #[c.agg, s.agg] w fun e w' => e = .returned (c.on s).agg ∧ Below w.heap.size w w' := by
  obtain ⟨wr, bs⟩ := c
  obtain ⟨ft, fb, dt, db⟩ := s
  unfold Chg.agg Sd.agg
  dsimp only
  have hb := (((Below.refl w.heap.size w).alloc (Nat.le_refl _) (.cells #[.bool wr, .string bs] 111)).alloc (by simp) (.cells #[.bool ft, .string fb, .bool dt, .string db] 90))
  cases wr with
  | true =>
    have HB := hideIt (hb.alloc hb.size (.cells #[.bool ft, .string fb, .bool true, .string bs] 90))
    clear hb
    go_enter Tryz.func50, Tryz.ntmps50
    go_wp2_with fail
    refine bodyPost_ret (v := .agg #[.bool ft, .string fb, .bool true, .string bs]) ?_ rfl ⟨rfl, HB.out⟩
    rw [results_cellV rfl]
    go_simp
  | false =>
    have HB := hideIt (hb.alloc hb.size (.cells #[.bool dt, .string db, .bool false, .string ⟨#[]⟩] 90))
    clear hb
    go_enter Tryz.func50, Tryz.ntmps50
    go_wp2_with fail
    refine bodyPost_ret (v := .agg #[.bool dt, .string db, .bool false, .string ⟨#[]⟩]) ?_ rfl ⟨rfl, HB.out⟩
    rw [results_cellV rfl]
    go_simp
end Go.Proofs.YtlljniaobbbjgaaGreatDoor

namespace Go.Proofs.YtlljniaobbbjgaaGreatDoor
open Go.RowKit
open Dvs (Dv dv0 dv nth)
/-- A pool: its devices, and which of them are used. -/
structure PoolAt (w : World) (pb db : Nat) (ao : Option Addr) (c : Nat) (ds : List Dv) (us : Nat → Bool) : Prop where
  row : w.cell? ⟨pb, 0, none⟩ = some (.slice ao ds.length c)
  at0 : 0 < ds.length → ao = some ⟨db, 0, none⟩ ∧ db ≠ pb ∧ db < w.heap.size
  cells : ∀ k, k < ds.length → w.cell? ⟨db, k * 3, none⟩ = some (.string (dv ds k).kind) ∧ w.cell? ⟨db, k * 3 + 1, none⟩ = some (.int .i64 (dv ds k).node) ∧ w.cell? ⟨db, k * 3 + 2, none⟩ = some (.bool (dv ds k).sick) ∧ w.frozen? ⟨db, k * 3 + 2, none⟩ = false
  used : ∀ j, j < 16 → w.cell? ⟨pb, 1 + j, none⟩ = some (.bool (us j)) ∧ w.frozen? ⟨pb, 1 + j, none⟩ = false
theorem PoolAt.lt {w : World} {pb db : Nat} {ao : Option Addr} {c : Nat} {ds : List Dv} {us : Nat → Bool} (h : PoolAt w pb db ao c ds us) : pb < w.heap.size := World.block_lt_of_cell? w _ h.row
theorem PoolAt.kept {w w' : World} {pb db : Nat} {ao : Option Addr} {c : Nat} {ds : List Dv} {us : Nat → Bool} {g : Option Nat} (h : PoolAt w pb db ao c ds us) (hg : w.grownBy w' g) (h1 : some pb ≠ g) (h2 : 0 < ds.length → some db ≠ g) : PoolAt w' pb db ao c ds us := by
  refine ⟨(hg.cell_far _ h.lt h1).trans h.row, fun h0 => ⟨(h.at0 h0).1, (h.at0 h0).2.1, Nat.lt_of_lt_of_le (h.at0 h0).2.2 hg.size⟩, fun k hk => ?_, fun j hj => ?_⟩
  · obtain ⟨c1, c2, c3, c4⟩ := h.cells k hk
    have h0 : 0 < ds.length := by omega
    have hlt := (h.at0 h0).2.2
    exact ⟨(hg.cell_far _ hlt (h2 h0)).trans c1, (hg.cell_far _ hlt (h2 h0)).trans c2, (hg.cell_far _ hlt (h2 h0)).trans c3, (hg.frozen_far _ hlt (h2 h0)).trans c4⟩
  · obtain ⟨c1, c2⟩ := h.used j hj
    exact ⟨(hg.cell_far _ h.lt h1).trans c1, (hg.frozen_far _ h.lt h1).trans c2⟩
theorem grown_setCell (w : World) (a : Addr) (u : Value) : w.grownBy (w.setCell a u) (some a.block) :=
  ⟨rfl, rfl, rfl, by simp, fun k _ hne => Below.heap_setCell _ _ _ _ (fun e => hne (by rw [e]))⟩
theorem grown_below {w w' : World} (h : Below w.heap.size w w') (g : Option Nat) : w.grownBy w' g := ⟨h.os, h.tape, h.output, h.size, fun k hk _ => h.block k hk⟩
theorem PoolAt.below {w w' : World} {pb db : Nat} {ao : Option Addr} {c : Nat} {ds : List Dv} {us : Nat → Bool} (h : PoolAt w pb db ao c ds us) (hb : Below w.heap.size w w') : PoolAt w' pb db ao c ds us := h.kept (grown_below hb none) (by simp) (by simp)
theorem PoolAt.drewN {w : World} {pb db : Nat} {ao : Option Addr} {c : Nat} {ds : List Dv} {us : Nat → Bool} (h : PoolAt w pb db ao c ds us) (n : Nat) : PoolAt (w.drewN n) pb db ao c ds us := h.below (below_drewN (Below.refl _ w) n)
theorem PoolAt.alloc {w : World} {pb db : Nat} {ao : Option Addr} {c : Nat} {ds : List Dv} {us : Nat → Bool} (h : PoolAt w pb db ao c ds us) (o : Obj) : PoolAt (w.alloc o) pb db ao c ds us := h.below ((Below.refl _ w).alloc (Nat.le_refl _) o)
/-- One is used, or is not any more. -/
theorem PoolAt.set {w : World} {pb db : Nat} {ao : Option Addr} {c : Nat} {ds : List Dv} {us vs : Nat → Bool} (h : PoolAt w pb db ao c ds us) {m : Nat} (hm : m < 16) (b : Bool) (hv : ∀ j, j < 16 → vs j = if j = m then b else us j) : PoolAt (w.setCell ⟨pb, 1 + m, none⟩ (.bool b)) pb db ao c ds vs := by
  have hne : ∀ x, x ≠ 1 + m → (⟨pb, 1 + m, none⟩ : Addr) ≠ ⟨pb, x, none⟩ := fun x hx e => by cases e; exact hx rfl
  refine ⟨?_, fun h0 => ⟨(h.at0 h0).1, (h.at0 h0).2.1, by simpa using (h.at0 h0).2.2⟩, fun k hk => ?_, fun j hj => ?_⟩
  · rw [World.cell?_setCell_other (h := hne 0 (by omega))]
    exact h.row
  · obtain ⟨c1, c2, c3, c4⟩ := h.cells k hk
    have h0 : 0 < ds.length := by omega
    have hd := (h.at0 h0).2.1
    have hlt := (h.at0 h0).2.2
    have hg := grown_setCell w ⟨pb, 1 + m, none⟩ (.bool b)
    have hn : some db ≠ some pb := by simpa using hd
    exact ⟨(hg.cell_far _ hlt hn).trans c1, (hg.cell_far _ hlt hn).trans c2, (hg.cell_far _ hlt hn).trans c3, (hg.frozen_far _ hlt hn).trans c4⟩
  · obtain ⟨cj, z⟩ := h.used j hj
    obtain ⟨cm, _⟩ := h.used m hm
    refine ⟨?_, (World.frozen?_setCell ..).trans z⟩
    rw [hv j hj]
    by_cases e : j = m
    · subst e
      simp
      clear cj hv hne
      go_simp
    · rw [if_neg e, World.cell?_setCell_other (h := hne (1 + j) (by omega))]
      exact cj
theorem NumsAt.kept {w w' : World} {v : Value} {g o : Nat} {l : List Int} {r : Option Nat} (h : NumsAt w v g o l) (hg : w.grownBy w' r) (hr : 0 < l.length → some g ≠ r) : NumsAt w' v g o l := by
  obtain ⟨ao, c, hv, hc⟩ := h
  refine ⟨ao, c, hv, fun h0 => ?_⟩
  obtain ⟨h1, h2, h3⟩ := hc h0
  exact ⟨h1, Nat.lt_of_lt_of_le h2 hg.size, fun k hk => (hg.cell_far _ h2 (hr h0)).trans (h3 k hk)⟩
theorem NumsAt.below {w w' : World} {v : Value} {g o : Nat} {l : List Int} (h : NumsAt w v g o l) (hb : Below w.heap.size w w') : NumsAt w' v g o l := h.kept (grown_below hb none) (by simp)
theorem DevsAt.below {w w' : World} {v : Value} {g o : Nat} {ds : List Dv} (h : DevsAt w v g o ds) (hb : Below w.heap.size w w') : DevsAt w' v g o ds := by
  obtain ⟨ao, c, hv, hc⟩ := h
  refine ⟨ao, c, hv, fun h0 => ?_⟩
  obtain ⟨h1, h2, h3⟩ := hc h0
  refine ⟨h1, Nat.lt_of_lt_of_le h2 hb.size, fun k hk => ?_⟩
  obtain ⟨c1, c2, c3⟩ := h3 k hk
  exact ⟨(hb.cell (p := ⟨g, o + k * 3, none⟩) h2).trans c1, (hb.cell (p := ⟨g, o + k * 3 + 1, none⟩) h2).trans c2, (hb.cell (p := ⟨g, o + k * 3 + 2, none⟩) h2).trans c3⟩
end Go.Proofs.YtlljniaobbbjgaaGreatDoor

namespace Go.Proofs.YtlljniaobbbjgaaGreatDoor
namespace Qos
open Dvs (first nameMay allTo)
def shares (m : Int) : Int := min (max (m * 1024 / 1000) 2) 262144
def quota (m : Int) : Int := if m = 0 then -1 else max (m * 100) 1000
/-- A group. -/
structure Gp where
  path : ByteArray
  sh : Int
  qu : Int
  by' : Int
def gp0 : Gp := ⟨ByteArray.empty, 0, 0, 0⟩
instance : Inhabited Gp := ⟨gp0⟩
def lim (f : Ct → Int) (cs : List Ct) : Int := if allTo (fun k => decide (f (ct cs k) ≠ 0)) cs.length = true then sumTo (fun k => f (ct cs k)) cs.length else 0
/-- The words that open a path. -/
structure Words where
  low : ByteArray
  mid : ByteArray
  sep : ByteArray
  lowAll : ByteArray
  midAll : ByteArray
def pathOf (W : Words) (p : Pd) : ByteArray := if classOf p.cs = 1 then W.low ++ p.nm else if classOf p.cs = 2 then W.mid ++ p.nm else W.sep ++ p.nm
def podG (W : Words) (p : Pd) : Gp := ⟨pathOf W p, shares (sumM p.cs p.cs.length), quota (lim Ct.cm p.cs), lim Ct.cb p.cs⟩
def contG (W : Words) (p : Pd) (c : Ct) : Gp := ⟨pathOf W p ++ W.sep ++ c.nm, shares c.am, quota c.cm, c.cb⟩
def podGs (W : Words) (p : Pd) : List Gp := podG W p :: p.cs.map (contG W p)
def midOf (p : Pd) : Int := if classOf p.cs = 2 then sumM p.cs p.cs.length else 0
def middle (ps : List Pd) (n : Nat) : Int := sumTo (fun k => midOf (pd ps k)) n
def heads (W : Words) (ps : List Pd) : List Gp := [⟨W.midAll, shares (middle ps ps.length), -1, 0⟩, ⟨W.lowAll, 2, -1, 0⟩]
def upTo (W : Words) (ps : List Pd) (k : Nat) : List Gp := heads W ps ++ (ps.take k).flatMap (podGs W)
theorem take_ct {cs : List Ct} {k : Nat} (h : k < cs.length) : cs.take (k + 1) = cs.take k ++ [ct cs k] := by
  rw [List.take_add_one, ct, List.getD_eq_getElem?_getD, List.getElem?_eq_getElem h]; rfl
end Qos
end Go.Proofs.YtlljniaobbbjgaaGreatDoor

namespace Go.Proofs.YtlljniaobbbjgaaGreatDoor.S1
open Go.RowKit
theorem two (b : Bool) : b = true ∨ b = false := by cases b <;> simp
theorem hideIt {p : Prop} (h : p) : Hid p := h
end Go.Proofs.YtlljniaobbbjgaaGreatDoor.S1

