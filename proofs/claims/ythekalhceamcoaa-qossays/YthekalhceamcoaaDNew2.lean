/- What New of packages devices and ostleryref answers: contracts. -/
import Derived.Test.YthekalhceamcoaaDNew
namespace Go.Proofs.Ythekalhceamcoaa
open Go.RowKit
open Dvs (Dv dv0 dv nth fault newF first nameMay)
/-- A pool that is new. -/
def NewPool (w : World) (ds : List Dv) (p : Value) (w' : World) : Prop :=
  ∃ pb db ao c, p = .pointer (some ⟨pb, 0, none⟩) ∧ PoolAt w' pb db ao c ds (fun _ => false) ∧ w.heap.size ≤ pb ∧ (0 < ds.length → w.heap.size ≤ db)
theorem errV_pos {n : Nat} (h : n ≠ 0) : errV n = .iface 133 (.int .i64 n) := by rw [errV, if_neg (by omega)]
theorem errV_zero : errV 0 = .nilIface := rfl
theorem fault_first {ds : List Dv} (h : ds.length ≤ 16) : fault ds = first (newF ds) ds.length := by rw [fault, if_neg (by omega)]
theorem newF_name {ds : List Dv} {k : Nat} (h : nameMay (dv ds k).kind = false) : newF ds k = 3 := by rw [newF, if_pos h]
theorem newF_node {ds : List Dv} {k : Nat} (h : nameMay (dv ds k).kind = true) (h2 : (dv ds k).node < 0 ∨ 3 < (dv ds k).node) : newF ds k = 1 := by rw [newF, if_neg (by rw [h]; simp), if_pos h2]
theorem newF_good {ds : List Dv} {k : Nat} (h : nameMay (dv ds k).kind = true) (h2 : 0 ≤ (dv ds k).node) (h3 : (dv ds k).node ≤ 3) : newF ds k = 0 := by rw [newF, if_neg (by rw [h]; simp), if_neg (by omega)]
theorem PoolAt.made {B : Nat} {w : World} {v : Value} {ds : List Dv} (h : DevRow B w v ds) (t : TypeId) : ∃ db ao c, PoolAt (w.alloc (.cells #[v, .bool false, .bool false, .bool false, .bool false, .bool false, .bool false, .bool false, .bool false, .bool false, .bool false, .bool false, .bool false, .bool false, .bool false, .bool false, .bool false] t)) w.heap.size db ao c ds (fun _ => false) ∧ (0 < ds.length → B ≤ db) := by
  obtain ⟨ao, c, g, rfl, h0, hc⟩ := h
  refine ⟨g, ao, c, ⟨by simp, fun hp => ⟨(h0 hp).1, Nat.ne_of_lt (h0 hp).2.2, by have := (h0 hp).2.2; simp; omega⟩, fun k hk => ?_, fun j hj => ?_⟩, fun hp => (h0 hp).2.1⟩
  · have hlt := (h0 (by omega)).2.2
    obtain ⟨c0, c1, c2, c3⟩ := hc k hk
    have hb := (Below.refl w.heap.size w).alloc (Nat.le_refl _) (.cells #[.slice ao ds.length c, .bool false, .bool false, .bool false, .bool false, .bool false, .bool false, .bool false, .bool false, .bool false, .bool false, .bool false, .bool false, .bool false, .bool false, .bool false, .bool false] t)
    exact ⟨(hb.cell (p := ⟨g, k * 3, none⟩) hlt).trans c0, (hb.cell (p := ⟨g, k * 3 + 1, none⟩) hlt).trans c1, (hb.cell (p := ⟨g, k * 3 + 2, none⟩) hlt).trans c2, (hb.frozen (p := ⟨g, k * 3 + 2, none⟩) hlt).trans c3⟩
  · have : j = 0 ∨ j = 1 ∨ j = 2 ∨ j = 3 ∨ j = 4 ∨ j = 5 ∨ j = 6 ∨ j = 7 ∨ j = 8 ∨ j = 9 ∨ j = 10 ∨ j = 11 ∨ j = 12 ∨ j = 13 ∨ j = 14 ∨ j = 15 := by omega
    rcases this with rfl | rfl | rfl | rfl | rfl | rfl | rfl | rfl | rfl | rfl | rfl | rfl | rfl | rfl | rfl | rfl <;> exact ⟨by simp, by simp⟩
theorem NewPool.of {w w1 : World} {v : Value} {ds : List Dv} {B : Nat} (h : DevRow B w1 v ds) (hB : w.heap.size ≤ B) (hs : w.heap.size ≤ w1.heap.size) (t : TypeId) : NewPool w ds (.pointer (some ⟨w1.heap.size, 0, none⟩)) (w1.alloc (.cells #[v, .bool false, .bool false, .bool false, .bool false, .bool false, .bool false, .bool false, .bool false, .bool false, .bool false, .bool false, .bool false, .bool false, .bool false, .bool false, .bool false] t)) := by
  obtain ⟨db, ao, c, hp, hdb⟩ := PoolAt.made h t
  exact ⟨_, db, ao, c, rfl, hp, hs, fun h0 => Nat.le_trans hB (hdb h0)⟩
set_option maxHeartbeats 400000 in
theorem new_manyD (ao : Option Addr) (n c : Nat) (w : World) (h : 16 < n) : Calls Try.prog 27 #[.slice ao n c] w fun e w' => e = .returned (.tuple #[.pointer none, .iface 133 (.int .i64 2)]) ∧ w' = w := by
  go_enter Try.func27, Try.ntmps27
  go_wp2_with fail
  go_ret2
  exact ⟨rfl, rfl⟩
set_option maxHeartbeats 400000 in
theorem newPool_many (ao : Option Addr) (n c : Nat) (w : World) (h : 16 < n) : Calls Try.prog 28 #[.slice ao n c] w fun e w' => e = .returned (.tuple #[.pointer none, .int .i64 2]) ∧ w' = w := by
  go_enter Try.func28, Try.ntmps28
  go_wp2_with fail
  go_ret2
  exact ⟨rfl, rfl⟩
/-- What New leaves. -/
def NewedD (w : World) (ds : List Dv) (bad : Nat → Value) (e : Ending) (w' : World) : Prop :=
  (fault ds = 0 → ∃ p, e = .returned (.tuple #[p, bad 0]) ∧ NewPool w ds p w') ∧ (fault ds ≠ 0 → e = .returned (.tuple #[.pointer none, bad (fault ds)])) ∧ Below w.heap.size w w'
theorem NewedD.wrong {w w' : World} {ds : List Dv} {bad : Nat → Value} {n : Nat} {e : Ending} (hf : fault ds = n) (hn : n ≠ 0) (he : e = .returned (.tuple #[.pointer none, bad n])) (hb : Below w.heap.size w w') : NewedD w ds bad e w' :=
  ⟨fun h => by omega, fun _ => by rw [hf, he], hb⟩
set_option maxRecDepth 100000 in
set_option maxHeartbeats 1000000 in
theorem new_few (ao : Option Addr) (c b o : Nat) (ds : List Dv) (w : World) (hd : DevsAt w (.slice ao ds.length c) b o ds) (h : ds.length ≤ 16) : Calls Try.prog 27 #[.slice ao ds.length c] w fun e w' => NewedD w ds (fun n => errV n) e w' := by
  have HD := hideIt hd
  have HF := hideIt (fault_first h)
  clear hd
  go_enter Try.func27, Try.ntmps27
  go_wp2_with fail
  go_loopw [12] (fun i wr => ∃ k : Nat, k ≤ ds.length ∧ i = .int .i64 k ∧ Hid (first (newF ds) k = 0) ∧ Below w.heap.size w wr) (fun i _ => ds.length - (intOf i).toNat)
  case atStart => exact ⟨0, by omega, rfl, rfl, Below.refl _ _⟩
  case round =>
    obtain ⟨k, hk, rfl, HK, hB⟩ := hrel
    by_cases hlt : k < ds.length
    · obtain ⟨ao', c', hv, hcs⟩ := HD.out.below hB
      obtain ⟨rfl, hlb, hcs⟩ := hcs (by omega)
      cases hv
      obtain ⟨c0, c1, c2⟩ := hcs k hlt
      have HN1 := hideIt (fun hh => newF_name (ds := ds) (k := k) hh)
      have HN2 := hideIt (fun hh h2 => newF_node (ds := ds) (k := k) hh h2)
      have HN3 := hideIt (fun hh h2 h3 => newF_good (ds := ds) (k := k) hh h2 h3)
      have HW := hideIt (fun n hn => (HF.out.trans (Dvs.first_hit (n := ds.length) HK.out (by rw [hn]; simp) hlt)).trans (hn : newF ds k = n + 1))
      clear hcs
      generalize dv ds k = x at *
      have hB1 := hB.alloc hB.size (.cells #[.string x.kind, .int .i64 x.node, .bool x.sick] 50)
      rcases two (nameMay x.kind) with hn | hn
      · have key : (x.node < 0 ∨ (0 ≤ x.node ∧ 4 ≤ x.node)) ∨ (0 ≤ x.node ∧ x.node < 4) := by omega
        rcases key with hx | ⟨h1, h2⟩
        · have HE := hideIt (HW.out 0 (HN2.out hn (by omega)))
          clear HN1 HN2 HN3 HW
          rcases hx with h1 | ⟨h1, h2⟩
          all_goals
            go_wp2_with fail
            refine (name_any _ _).mono ?_
            rintro e w1 ⟨rfl, rfl⟩
            rw [hn]
            go_wp2_with fail
            go_ret2
            exact NewedD.wrong HE.out (by decide) rfl hB1
        · have HE : Hid (first (newF ds) (k + 1) = 0) := Dvs.first_zero HK.out (HN3.out hn (by omega) (by omega))
          clear HN1 HN2 HN3 HW
          go_wp2_with fail
          refine (name_any _ _).mono ?_
          rintro e w1 ⟨rfl, rfl⟩
          rw [hn]
          go_wp2_with fail
          go_roundw
          case rel => exact ⟨k + 1, by omega, by go_num, HE, hB1⟩
          case measure => simp [intOf]; omega
      · have HE := hideIt (HW.out 2 (HN1.out hn))
        clear HN1 HN2 HN3 HW
        go_wp2_with fail
        refine (name_any _ _).mono ?_
        rintro e w1 ⟨rfl, rfl⟩
        rw [hn]
        go_wp2_with fail
        go_ret2
        exact NewedD.wrong HE.out (by decide) rfl hB1
    · have hke : k = ds.length := by omega
      have HE : Hid (fault ds = 0) := by rw [← hke] at HF; exact HF.out.trans HK.out
      have HD2 := hideIt (HD.out.below hB)
      clear hke HK
      go_wp2_with fail
      refine (clone_anyD _ b o ds _ HD2.out h).mono ?_
      rintro e w1 ⟨v, rfl, hv, hb⟩
      have hB1 := hB.trans (hb.mono hB.size)
      have HNP := hideIt (NewPool.of (w := w) hv hB.size hB1.size 148)
      have hB2 := hideIt (hB1.alloc hB1.size (.cells #[v, .bool false, .bool false, .bool false, .bool false, .bool false, .bool false, .bool false, .bool false, .bool false, .bool false, .bool false, .bool false, .bool false, .bool false, .bool false, .bool false] 148))
      obtain ⟨ao2, c2, g2, rfl, _, _⟩ := hv
      clear hb hB1
      go_wp2_with fail
      go_ret2
      exact ⟨fun _ => ⟨_, rfl, HNP.out⟩, fun hh => absurd HE.out hh, hB2.out⟩
theorem new_anyD (v : Value) (b o : Nat) (ds : List Dv) (w : World) (hd : DevsAt w v b o ds) : Calls Try.prog 27 #[v] w fun e w' => NewedD w ds (fun n => errV n) e w' := by
  have hd' := hd
  obtain ⟨ao, c, rfl, _⟩ := hd
  by_cases h : ds.length ≤ 16
  · exact new_few ao c b o ds w hd' h
  · refine (new_manyD ao ds.length c w (by omega)).mono ?_
    rintro e w' ⟨rfl, rfl⟩
    exact NewedD.wrong (n := 2) (by rw [fault, if_pos (by omega)]) (by decide) rfl (Below.refl _ _)
set_option maxRecDepth 100000 in
set_option maxHeartbeats 1000000 in
theorem newPool_few (ao : Option Addr) (c b o : Nat) (ds : List Dv) (w : World) (hd : DevsAt w (.slice ao ds.length c) b o ds) (h : ds.length ≤ 16) : Calls Try.prog 28 #[.slice ao ds.length c] w fun e w' => NewedD w ds (fun n => .int .i64 n) e w' := by
  have HD := hideIt hd
  have HF := hideIt (fault_first h)
  clear hd
  go_enter Try.func28, Try.ntmps28
  go_wp2_with fail
  go_loop [4] (fun i => ∃ k : Nat, k ≤ ds.length ∧ i = .int .i64 k ∧ Hid (first (newF ds) k = 0)) (fun i => ds.length - (intOf i).toNat)
  case atStart => exact ⟨0, by omega, rfl, rfl⟩
  case round =>
    obtain ⟨k, hk, rfl, HK⟩ := hrel
    by_cases hlt : k < ds.length
    · obtain ⟨ao', c', hv, hcs⟩ := HD.out
      obtain ⟨rfl, hlb, hcs⟩ := hcs (by omega)
      cases hv
      obtain ⟨c0, c1, c2⟩ := hcs k hlt
      have HN1 := hideIt (fun hh => newF_name (ds := ds) (k := k) hh)
      have HN2 := hideIt (fun hh h2 => newF_node (ds := ds) (k := k) hh h2)
      have HN3 := hideIt (fun hh h2 h3 => newF_good (ds := ds) (k := k) hh h2 h3)
      have HW := hideIt (fun n hn => (HF.out.trans (Dvs.first_hit (n := ds.length) HK.out (by rw [hn]; simp) hlt)).trans (hn : newF ds k = n + 1))
      clear hcs
      generalize dv ds k = x at *
      rcases two (nameMay x.kind) with hn | hn
      · have key : (x.node < 0 ∨ (0 ≤ x.node ∧ 3 < x.node)) ∨ (0 ≤ x.node ∧ x.node ≤ 3) := by omega
        rcases key with hx | ⟨h1, h2⟩
        · have HE := hideIt (HW.out 0 (HN2.out hn (by omega)))
          clear HN1 HN2 HN3 HW
          rcases hx with h1 | ⟨h1, h2⟩
          all_goals
            go_wp2_with fail
            refine (may_any _ _).mono ?_
            rintro e w1 ⟨rfl, rfl⟩
            rw [hn]
            go_wp2_with fail
            go_ret2
            exact NewedD.wrong HE.out (by decide) rfl (Below.refl _ _)
        · have HE : Hid (first (newF ds) (k + 1) = 0) := Dvs.first_zero HK.out (HN3.out hn (by omega) (by omega))
          clear HN1 HN2 HN3 HW
          go_wp2_with fail
          refine (may_any _ _).mono ?_
          rintro e w1 ⟨rfl, rfl⟩
          rw [hn]
          go_wp2_with fail
          go_round
          case rel => exact ⟨k + 1, by omega, by go_num, HE⟩
          case measure => simp [intOf]; omega
      · have HE := hideIt (HW.out 2 (HN1.out hn))
        clear HN1 HN2 HN3 HW
        go_wp2_with fail
        refine (may_any _ _).mono ?_
        rintro e w1 ⟨rfl, rfl⟩
        rw [hn]
        go_wp2_with fail
        go_ret2
        exact NewedD.wrong HE.out (by decide) rfl (Below.refl _ _)
    · have hke : k = ds.length := by omega
      have HE : Hid (fault ds = 0) := by rw [← hke] at HF; exact HF.out.trans HK.out
      clear hke HK
      by_cases h0 : 0 < ds.length
      · obtain ⟨ao', c', hv, hcs⟩ := HD.out
        obtain ⟨rfl, hlb, hcs⟩ := hcs h0
        cases hv
        have HC := hideIt (devCells_from hcs)
        obtain ⟨i0, hi, hz0, hz1, hz2⟩ := info_parts infoDev
        clear hcs HD
        go_wp2_with (at_builtin; (refine wpList_append_own _ rfl _ _ 46 rfl w.heap.size 50 i0 (.agg #[.string ByteArray.empty, .int .i64 0, .bool false]) 3 32 Try.underlying46 hi hz0 hz1 hz2 rfl (by decide) _ _ _ rfl (World.ownsRow_nil w w.heap.size 50 3) ⟨b, o, none⟩ ds.length c (devCells ds) rfl (devCells_length ds) HC.out (devCells_one ds) (by unfold maxLen; omega) (by omega) (by simp) ?_); intro v' w1 hown' hgrow' _; rw [Nat.zero_add] at hown'; have hv0 : DevRow w.heap.size w1 v' ds := DevRow.of_own (by simpa using hown'); obtain ⟨ao2, c2, g2, rfl, q1, q2⟩ := hv0; have HQ1 := hideIt q1; have HQ2 := hideIt q2; clear hown' q1 q2)
        have hB1 := (Below.refl w.heap.size w).grown hgrow' (by simp) (fun j hj => by cases hj)
        have hv : DevRow w.heap.size w1 (.slice ao2 ds.length c2) ds := ⟨ao2, c2, g2, rfl, HQ1.out, HQ2.out⟩
        have HNP := hideIt (NewPool.of (w := w) hv (Nat.le_refl _) hB1.size 75)
        have hB2 := hideIt (hB1.alloc hB1.size (.cells #[.slice ao2 ds.length c2, .bool false, .bool false, .bool false, .bool false, .bool false, .bool false, .bool false, .bool false, .bool false, .bool false, .bool false, .bool false, .bool false, .bool false, .bool false, .bool false] 75))
        clear hgrow' hB1
        (try simp only [Exit.inBlock, Exit.then])
        go_ret2
        exact ⟨fun _ => ⟨_, rfl, HNP.out⟩, fun hh => absurd HE.out hh, hB2.out⟩
      · have hl0 : ds = [] := List.eq_nil_of_length_eq_zero (by omega)
        subst hl0
        have hv : DevRow w.heap.size w (.slice none 0 0) [] := ⟨none, 0, 0, rfl, fun h => by simp at h, fun k hk => by simp at hk⟩
        have HNP := hideIt (NewPool.of (w := w) hv (Nat.le_refl _) (Nat.le_refl _) 75)
        have hB2 := hideIt ((Below.refl w.heap.size w).alloc (Nat.le_refl _) (.cells #[.slice none 0 0, .bool false, .bool false, .bool false, .bool false, .bool false, .bool false, .bool false, .bool false, .bool false, .bool false, .bool false, .bool false, .bool false, .bool false, .bool false, .bool false] 75))
        clear hv h0
        have hk0 : k = 0 := by simpa using hk
        subst hk0
        rcases ao with _ | a
        all_goals
          go_wp2_with fail
          go_ret2
          exact ⟨fun _ => ⟨_, rfl, HNP.out⟩, fun hh => absurd HE.out hh, hB2.out⟩
theorem newPool_any (v : Value) (b o : Nat) (ds : List Dv) (w : World) (hd : DevsAt w v b o ds) : Calls Try.prog 28 #[v] w fun e w' => NewedD w ds (fun n => .int .i64 n) e w' := by
  have hd' := hd
  obtain ⟨ao, c, rfl, _⟩ := hd
  by_cases h : ds.length ≤ 16
  · exact newPool_few ao c b o ds w hd' h
  · refine (newPool_many ao ds.length c w (by omega)).mono ?_
    rintro e w' ⟨rfl, rfl⟩
    exact NewedD.wrong (n := 2) (by rw [fault, if_pos (by omega)]) (by decide) rfl (Below.refl _ _)
end Go.Proofs.Ythekalhceamcoaa
