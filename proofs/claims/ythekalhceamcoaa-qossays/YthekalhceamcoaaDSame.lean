/- Answers held against each other; one's own devices: contracts. -/
import Derived.Test.YthekalhceamcoaaDTake
import Derived.Deep.QuietTactic
import Derived.BigQuiet
namespace Go.Proofs.Ythekalhceamcoaa
open Go.RowKit
open Dvs (Dv dv0 dv nth Nodes fault)
set_option maxHeartbeats 400000 in
theorem same_zeroD (w : World) : Calls Try.prog 19 #[.nilIface, .int .i64 0] w fun e w' => e = .returned (.bool true) ∧ w' = w := by
  go_enter Try.func19, Try.ntmps19
  go_wp2_with fail
  go_ret
  exact ⟨rfl, rfl⟩
theorem run_assertD (f : Int) (w : World) : (Instr.typeAssert (.iface 133 (.int .i64 f)) 30 133 true).run Try.prog w = .ok (.tuple #[.int .i64 f, .bool true]) w := by kernel_rfl
set_option maxRecDepth 100000 in
set_option maxHeartbeats 400000 in
theorem same_posD (f : Int) (w : World) (h : 0 < f) : Calls Try.prog 19 #[.iface 133 (.int .i64 f), .int .i64 f] w fun e w' => e = .returned (.bool true) ∧ w' = w := by
  have hta := run_assertD f
  go_enter Try.func19, Try.ntmps19
  go_wp2_with fail
  go_ret
  exact ⟨rfl, rfl⟩
theorem same_err (f : Nat) (w : World) : Calls Try.prog 19 #[errV f, .int .i64 f] w fun e w' => e = .returned (.bool true) ∧ w' = w := by
  by_cases h : f = 0
  · subst h
    exact same_zeroD w
  · rw [errV_pos h]
    exact same_posD f w (by omega)
set_option maxRecDepth 100000 in
set_option maxHeartbeats 1000000 in
theorem sameNums_any (v1 v2 : Value) (g1 o1 g2 o2 : Nat) (l : List Int) (w : World) (h1 : NumsAt w v1 g1 o1 l) (h2 : NumsAt w v2 g2 o2 l) (hl : l.length ≤ 1000) :
    Calls Try.prog 31 #[v1, v2] w fun e w' => e = .returned (.bool true) ∧ ∃ n, w' = w.drewN n := by
  obtain ⟨a1, c1, rfl, h1⟩ := h1
  obtain ⟨a2, c2, rfl, h2⟩ := h2
  have H1 := hideIt h1
  have H2 := hideIt h2
  clear h1 h2
  go_enter Try.func31, Try.ntmps31
  go_wp2_with fail
  go_loopw [5] (fun i wr => ∃ k m : Nat, k ≤ l.length ∧ i = .int .i64 k ∧ wr = w.drewN m) (fun i _ => l.length - (intOf i).toNat)
  case atStart => exact ⟨0, 0, by omega, rfl, rfl⟩
  case round =>
    obtain ⟨k, m, hk, rfl, rfl⟩ := hrel
    by_cases hlt : k < l.length
    · obtain ⟨rfl, _, hc1⟩ := H1.out (by omega)
      obtain ⟨rfl, _, hc2⟩ := H2.out (by omega)
      have d1 := hc1 k hlt
      have d2 := hc2 k hlt
      clear hc1 hc2
      generalize nth l k = x at *
      go_wp2_with fail
      go_quiet (fail)
      go_wp2_with fail
      go_roundw
      case rel => exact ⟨k + 1, _, by omega, by go_num, rfl⟩
      case measure => simp [intOf]; omega
    · have hke : k = l.length := by omega
      subst hke
      go_wp2_with fail
      go_ret
      exact ⟨rfl, m, rfl⟩
theorem PoolAt.devsAt {w : World} {pb db : Nat} {ao : Option Addr} {c : Nat} {ds : List Dv} {us : Nat → Bool} (h : PoolAt w pb db ao c ds us) : DevsAt w (.slice ao ds.length c) db 0 ds :=
  ⟨ao, c, rfl, fun h0 => ⟨(h.at0 h0).1, (h.at0 h0).2.2, fun k hk => by obtain ⟨c0, c1, c2, _⟩ := h.cells k hk; rw [Nat.zero_add]; exact ⟨c0, c1, c2⟩⟩⟩
set_option maxHeartbeats 400000 in
theorem devices_any (w : World) (pb db : Nat) (ao : Option Addr) (c : Nat) (ds : List Dv) (us : Nat → Bool) (h : PoolAt w pb db ao c ds us) (hN : Nodes ds) :
    Calls Try.prog 41 #[.pointer (some ⟨pb, 0, none⟩)] w fun e w' => ∃ v, e = .returned v ∧ DevRow w.heap.size w' v ds ∧ Below w.heap.size w w' := by
  have HC := hideIt (clone_anyD _ db 0 ds w h.devsAt hN.1)
  have hrow := h.row
  clear h hN
  go_enter Try.func41, Try.ntmps41
  go_wp2_with fail
  refine HC.out.mono ?_
  rintro e w1 ⟨v, rfl, hv, hb⟩
  have HV := hideIt hv
  have HB := hideIt hb
  clear hv hb
  go_wp2_with fail
  go_ret
  exact ⟨_, rfl, HV.out, HB.out⟩
theorem takeD_any (kind : ByteArray) (many : Int) (m : Nat) (w : World) (pb db : Nat) (ao : Option Addr) (c : Nat) (ds : List Dv) (us : Nat → Bool) (h : PoolAt w pb db ao c ds us) (hN : Nodes ds) (hm : m < 256) :
    Calls Try.prog 29 #[.pointer (some ⟨pb, 0, none⟩), .string kind, .int .i64 many, .int .u8 m] w fun e w' => Took (fun n => errV n) w pb db ao c ds us kind m many e w' := by
  by_cases h0 : many < 0
  · refine (take_neg kind many m w pb h0).mono ?_
    rintro e w' ⟨rfl, rfl⟩
    exact Took.wrong (n := 1) (by rw [Dvs.takeF, if_pos h0]) (by decide) rfl (Below.refl _ _)
  · obtain ⟨n, rfl⟩ := Int.eq_ofNat_of_zero_le (show 0 ≤ many by omega)
    exact take_pos kind n m w pb db ao c ds us h hN hm
/-- Two devices. -/
def gpus : List Dv := [⟨⟨#[103, 112, 117]⟩, 0, false⟩, ⟨⟨#[103, 112, 117]⟩, 1, false⟩]
theorem gpus_fault : fault gpus = 0 := by decide +kernel
theorem gpus_takeF : Dvs.takeF gpus (fun _ => false) ⟨#[103, 112, 117]⟩ 1 = 0 := by decide +kernel
theorem gpus_took : ints (Dvs.srt (Dvs.took gpus (fun _ => false) ⟨#[103, 112, 117]⟩ 2 (1 : Int).toNat)) = [1] := by decide +kernel
theorem gpus_at (w : World) (t : TypeId) : DevsAt (w.alloc (.cells #[.string ⟨#[103, 112, 117]⟩, .int .i64 0, .bool false, .string ⟨#[103, 112, 117]⟩, .int .i64 1, .bool false] t)) (.slice (some ⟨w.heap.size, 0, none⟩) 2 2) w.heap.size 0 gpus := by
  refine ⟨_, 2, rfl, fun _ => ⟨rfl, by simp, fun k hk => ?_⟩⟩
  have : k = 0 ∨ k = 1 := by simp [gpus] at hk; omega
  rcases this with rfl | rfl
  · exact ⟨by simp [gpus, dv], by simp [gpus, dv], by simp [gpus, dv]⟩
  · exact ⟨by simp [gpus, dv], by simp [gpus, dv], by simp [gpus, dv]⟩
set_option maxRecDepth 100000 in
set_option maxHeartbeats 1000000 in
theorem pools_gen (gpus : List Dv) (w : World) (gpus_at : DevsAt (w.alloc (.cells #[.string ⟨#[103, 112, 117]⟩, .int .i64 0, .bool false, .string ⟨#[103, 112, 117]⟩, .int .i64 1, .bool false] 50)) (.slice (some ⟨w.heap.size, 0, none⟩) 2 2) w.heap.size 0 gpus) (gpus_fault : fault gpus = 0) (gpus_takeF : Dvs.takeF gpus (fun _ => false) ⟨#[103, 112, 117]⟩ 1 = 0) (gpus_took : ints (Dvs.srt (Dvs.took gpus (fun _ => false) ⟨#[103, 112, 117]⟩ 2 (1 : Int).toNat)) = [1]) : Calls Try.prog 25 #[] w fun e w' => e = .returned (.bool true) ∧ Below w.heap.size w w' := by
  have HN := hideIt (new_anyD _ _ _ gpus _ gpus_at)
  have HB0 := hideIt ((Below.refl w.heap.size w).alloc (Nat.le_refl _) (.cells #[.string ⟨#[103, 112, 117]⟩, .int .i64 0, .bool false, .string ⟨#[103, 112, 117]⟩, .int .i64 1, .bool false] 50))
  have HX := hideIt (And.intro gpus_fault (And.intro gpus_takeF gpus_took))
  clear gpus_at gpus_fault gpus_takeF gpus_took
  go_enter Try.func25, Try.ntmps25
  go_wp2_with fail
  refine HN.out.mono ?_
  rintro e w1 ⟨h1, _, hb1⟩
  obtain ⟨p, rfl, pb, db, ao, c, rfl, hP, _, _⟩ := h1 HX.out.1
  have HB1 := hideIt (HB0.out.trans (hb1.mono HB0.out.size))
  have HT := hideIt (takeD_any ⟨#[103, 112, 117]⟩ 1 2 w1 pb db ao c gpus (fun _ => false) hP (Dvs.fault_nodes HX.out.1) (by decide))
  have hpl := hP.lt
  have HP1 := hideIt hP
  have hpb : Hid (w.heap.size ≤ pb) := by
    rename_i q1 q2
    exact Nat.le_trans HB0.out.size q1
  clear hP h1 hb1 HN
  rw [show ((fun n : Nat => errV n) 0) = Value.nilIface from rfl]
  go_wp2_with fail
  refine HT.out.mono ?_
  rintro e w2 ⟨_, h2, hg2⟩
  obtain ⟨v, g, rfl, hn, hge, _⟩ := h2 HX.out.2.1
  rw [HX.out.2.2] at hn
  have HB2 := hideIt (HB1.out.trans (below_grown hg2 (K := w.heap.size) HB1.out.size (fun j hj => by cases hj; exact hpb.out)))
  have hbA := (Below.refl w2.heap.size w2).alloc (Nat.le_refl _) (.cells #[.int .i64 1] 3)
  have HB3 := hideIt (HB2.out.trans (hbA.mono HB2.out.size))
  have HN1 := hideIt (hn.below hbA)
  have HN2 : Hid (NumsAt (w2.alloc (.cells #[.int .i64 1] 3)) (.slice (some ⟨w2.heap.size, 0, none⟩) 1 1) w2.heap.size 0 [1]) :=
    ⟨_, 1, rfl, fun _ => ⟨rfl, by simp, fun k hk => by
      have : k = 0 := by simpa using hk
      subst this; simp [nth]⟩⟩
  obtain ⟨a5, c5, rfl, hn5⟩ := hn
  obtain ⟨rfl, _, _⟩ := hn5 (by decide)
  clear h2 hg2 HT hge hbA hn5
  rw [show ((fun n : Nat => errV n) 0) = Value.nilIface from rfl]
  go_wp2_with fail
  refine (same_zeroD _).mono ?_
  rintro e w3 ⟨rfl, rfl⟩
  go_wp2_with fail
  refine (sameNums_any _ _ _ _ _ _ [1] _ HN1.out HN2.out (by decide)).mono ?_
  rintro e w4 ⟨rfl, n, rfl⟩
  go_wp2_with fail
  go_ret
  exact ⟨rfl, below_drewN HB3.out n⟩
theorem pools_true (w : World) : Calls Try.prog 25 #[] w fun e w' => e = .returned (.bool true) ∧ Below w.heap.size w w' := pools_gen gpus w (gpus_at w _) gpus_fault gpus_takeF gpus_took
end Go.Proofs.Ythekalhceamcoaa
