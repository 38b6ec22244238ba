/- What the document's Count answers: a contract. -/
import Derived.Test.YthekalhceamcoaaDCnt2
namespace Go.Proofs.Ythekalhceamcoaa
open Go.RowKit
open Dvs (Dv dv0 dv nth cn fits kindP Nodes)
set_option maxRecDepth 100000 in
set_option maxHeartbeats 2000000 in
theorem refCount_anyD (kind : ByteArray) (w : World) (pb db : Nat) (ao : Option Addr) (c : Nat) (ds : List Dv) (us : Nat → Bool) (h : PoolAt w pb db ao c ds us) (hN : Nodes ds) :
    Calls Try.prog 38 #[.pointer (some ⟨pb, 0, none⟩), .string kind] w fun e w' => e = .returned (.tuple #[fourV (fun x => cn (fits ds us kind) ds x ds.length), fourV (fun x => cn (kindP ds kind) ds x ds.length)]) ∧ Below w.heap.size w w' := by
  have hp := h.lt
  have hd : 0 < ds.length → db < w.heap.size := fun h0 => (h.at0 h0).2.2
  obtain ⟨w1, hw1⟩ : ∃ x, x = (w.alloc (.cells #[.int .i64 0, .int .i64 0, .int .i64 0, .int .i64 0] 76)).alloc (.cells #[.int .i64 0, .int .i64 0, .int .i64 0, .int .i64 0] 76) := ⟨_, rfl⟩
  have hz : w1.heap.size = w.heap.size + 1 + 1 := by rw [hw1]; simp
  have hB1 : Below w.heap.size w w1 := by rw [hw1]; exact ((Below.refl w.heap.size w).alloc (Nat.le_refl _) _).alloc (by simp) _
  have HR0 : Hid (FourAt ((w1.alloc (.cells #[.int .i64 0, .int .i64 0, .int .i64 0, .int .i64 0] 76)).alloc (.cells #[.int .i64 0, .int .i64 0, .int .i64 0, .int .i64 0] 76)) w.heap.size (fun _ => 0) ∧ FourAt ((w1.alloc (.cells #[.int .i64 0, .int .i64 0, .int .i64 0, .int .i64 0] 76)).alloc (.cells #[.int .i64 0, .int .i64 0, .int .i64 0, .int .i64 0] 76)) (w.heap.size + 1) (fun _ => 0)) := by
    rw [hw1]
    exact ⟨(((FourAt.made w _ _ (fun _ => rfl)).alloc _).alloc _).alloc _, by have := ((FourAt.made (w.alloc (.cells #[.int .i64 0, .int .i64 0, .int .i64 0, .int .i64 0] 76)) 76 (fun _ => 0) (fun _ => rfl)).alloc (.cells #[.int .i64 0, .int .i64 0, .int .i64 0, .int .i64 0] 76)).alloc (.cells #[.int .i64 0, .int .i64 0, .int .i64 0, .int .i64 0] 76); simpa using this⟩
  have HC0 : Hid (CntAt w ((w1.alloc (.cells #[.int .i64 0, .int .i64 0, .int .i64 0, .int .i64 0] 76)).alloc (.cells #[.int .i64 0, .int .i64 0, .int .i64 0, .int .i64 0] 76)) pb db ao c ds us kind (w.heap.size + 1 + 1) (w.heap.size + 1 + 1 + 1) 0) := by
    refine ⟨((h.below hB1).alloc _).alloc _, ?_, ?_, (hB1.alloc hB1.size _).alloc (by simp; omega) _⟩
    · have := (FourAt.made w1 76 (fun x => cn (fits ds us kind) ds x 0) (fun j => cn_zero _ _ _)).alloc (.cells #[.int .i64 0, .int .i64 0, .int .i64 0, .int .i64 0] 76)
      rwa [hz] at this
    · have := FourAt.made (w1.alloc (.cells #[.int .i64 0, .int .i64 0, .int .i64 0, .int .i64 0] 76)) 76 (fun x => cn (kindP ds kind) ds x 0) (fun j => cn_zero _ _ _)
      rwa [show (w1.alloc (.cells #[.int .i64 0, .int .i64 0, .int .i64 0, .int .i64 0] 76)).heap.size = w1.heap.size + 1 by simp, hz] at this
  rw [hw1] at HR0 HC0
  clear hz hB1 hw1
  have HN := hideIt hN
  have HP := hideIt (And.intro hp hd)
  clear h hp hd
  go_enter Try.func38, Try.ntmps38
  go_wp2_with fail
  go_loopw [8] (fun i wr => ∃ k : Nat, k ≤ ds.length ∧ i = .int .i64 k ∧ CntAt w wr pb db ao c ds us kind (w.heap.size + 1 + 1) (w.heap.size + 1 + 1 + 1) k ∧ FourAt wr w.heap.size (fun _ => 0) ∧ FourAt wr (w.heap.size + 1) (fun _ => 0)) (fun i _ => ds.length - (intOf i).toNat)
  case atStart => exact ⟨0, by omega, rfl, HC0.out, HR0.out⟩
  case round =>
    obtain ⟨k, hk, rfl, hC, hR⟩ := hrel
    have hrow := hC.pool.row
    by_cases hlt : k < ds.length
    · have hk16 : k < 16 := by have := HN.out.1; omega
      obtain ⟨rfl, hdp, _⟩ := hC.pool.at0 (by omega)
      obtain ⟨c0, c1, c2, _⟩ := hC.pool.cells k hlt
      obtain ⟨n0, n3⟩ := HN.out.2 k hlt
      obtain ⟨m, hm⟩ := Int.eq_ofNat_of_zero_le n0
      have hm4 : m < 4 := by omega
      have hC1 := hideIt (hC.alloc (.cells #[.string (dv ds k).kind, .int .i64 (dv ds k).node, .bool (dv ds k).sick] 50))
      have hR1 := hideIt (And.intro (hR.1.alloc (.cells #[.string (dv ds k).kind, .int .i64 (dv ds k).node, .bool (dv ds k).sick] 50)) (hR.2.alloc (.cells #[.string (dv ds k).kind, .int .i64 (dv ds k).node, .bool (dv ds k).sick] 50)))
      have HNo := hideIt (fun hh => hC1.out.no hh)
      have HOne := hideIt (fun hh hu n hn => hC1.out.one (m := m) (n := n) hh hu hm4 hm (by omega) (by omega) HP.out.1 HP.out.2 hn)
      have HBoth := hideIt (fun hh hu n n2 hn hn2 => hC1.out.both (m := m) (n := n) (n2 := n2) hh hu hm4 hm (by omega) (by omega) (by omega) HP.out.1 HP.out.2 hn hn2)
      have hKP : kindP ds kind k = (decide ((dv ds k).kind = kind) && !(dv ds k).sick) := rfl
      have hu := (hC1.out.pool.used k hk16).1
      have hf : _ = some (Value.int .i64 (cn (fits ds us kind) ds m k : Nat)) := (hC1.out.free m hm4).1
      have ha : _ = some (Value.int .i64 (cn (kindP ds kind) ds m k : Nat)) := (hC1.out.all m hm4).1
      have haz := (hC1.out.all m hm4).2
      have hM := hideIt (hC1.out.mid (m := m) (D := wr.heap.size) (z := (dv ds k).node) (n := (cn (kindP ds kind) ds m k : Nat) + 1) hk16 hm4 (by simp) (by omega) (by have := HP.out.1; omega) (show wr.heap.size ≠ w.heap.size + 1 + 1 + 1 by have := hC.all.lt; omega))
      have qf := Dvs.cn_le (fits ds us kind) ds m k
      have qa := Dvs.cn_le (kindP ds kind) ds m k
      have hrow1 := hC1.out.pool.row
      clear hC hR
      rw [hm] at c1 hC1 hR1 hrow1 HNo HOne HBoth hu hf ha haz hM
      generalize cn (fits ds us kind) ds m k = nf at *
      generalize cn (kindP ds kind) ds m k = na at *
      generalize (dv ds k).kind = xk at *
      generalize (dv ds k).sick = xs at *
      by_cases hkk : xk = kind
      · subst hkk
        rcases two xs with hs | hs
        · subst hs
          have HE := HNo.out (by rw [hKP]; simp)
          clear HNo HOne HBoth hKP
          go_wp2_with fail
          go_roundw
          case rel => exact ⟨k + 1, by omega, by go_num, HE, hR1.out⟩
          case measure => simp [intOf]; omega
        · subst hs
          have hkp : kindP ds xk k = true := by rw [hKP]; simp
          rcases two (us k) with hus | hus
          · have HE := hideIt (fun n hn => HOne.out hkp hus n hn)
            obtain ⟨e1, e2, e3, e4⟩ := hM.out
            rw [hus] at e1
            clear HNo HOne HBoth hKP hkp hus hu hM
            go_wp2_with fail
            go_roundw
            case rel => exact ⟨k + 1, by omega, by go_num, HE.out _ (by go_num), hR1.out.1.kept (grown_setCell _ _ _) (by simp <;> omega), hR1.out.2.kept (grown_setCell _ _ _) (by simp <;> omega)⟩
            case measure => simp [intOf]; omega
          · have HE := hideIt (fun n n2 hn hn2 => HBoth.out hkp hus n n2 hn hn2)
            obtain ⟨e1, e2, e3, e4⟩ := hM.out
            rw [hus] at e1
            clear HNo HOne HBoth hKP hkp hus hu hM
            go_wp2_with fail
            go_roundw
            case rel => exact ⟨k + 1, by omega, by go_num, HE.out _ _ (by go_num) (by go_num), (hR1.out.1.kept (grown_setCell _ _ _) (by simp <;> omega)).kept (grown_setCell _ _ _) (by simp <;> omega), (hR1.out.2.kept (grown_setCell _ _ _) (by simp <;> omega)).kept (grown_setCell _ _ _) (by simp <;> omega)⟩
            case measure => simp [intOf]; omega
      · have HE := HNo.out (by rw [hKP, decide_eq_false hkk]; rfl)
        have hkk2 := toList_ne hkk
        clear hkk HNo HOne HBoth hKP
        go_wp2_with fail
        go_roundw
        case rel => exact ⟨k + 1, by omega, by go_num, HE, hR1.out⟩
        case measure => simp [intOf]; omega
    · have hke : k = ds.length := by omega
      subst hke
      have f0 : _ = some (Value.int .i64 (cn (fits ds us kind) ds 0 ds.length : Nat)) := (hC.free 0 (by decide)).1
      have f1 : _ = some (Value.int .i64 (cn (fits ds us kind) ds 1 ds.length : Nat)) := (hC.free 1 (by decide)).1
      have f2 : _ = some (Value.int .i64 (cn (fits ds us kind) ds 2 ds.length : Nat)) := (hC.free 2 (by decide)).1
      have f3 : _ = some (Value.int .i64 (cn (fits ds us kind) ds 3 ds.length : Nat)) := (hC.free 3 (by decide)).1
      have a0 : _ = some (Value.int .i64 (cn (kindP ds kind) ds 0 ds.length : Nat)) := (hC.all 0 (by decide)).1
      have a1 : _ = some (Value.int .i64 (cn (kindP ds kind) ds 1 ds.length : Nat)) := (hC.all 1 (by decide)).1
      have a2 : _ = some (Value.int .i64 (cn (kindP ds kind) ds 2 ds.length : Nat)) := (hC.all 2 (by decide)).1
      have a3 : _ = some (Value.int .i64 (cn (kindP ds kind) ds 3 ds.length : Nat)) := (hC.all 3 (by decide)).1
      obtain ⟨g0, z0⟩ := hR.1 0 (by decide)
      obtain ⟨b0, y0⟩ := hR.2 0 (by decide)
      obtain ⟨g1, z1⟩ := hR.1 1 (by decide)
      obtain ⟨b1, y1⟩ := hR.2 1 (by decide)
      obtain ⟨g2, z2⟩ := hR.1 2 (by decide)
      obtain ⟨b2, y2⟩ := hR.2 2 (by decide)
      obtain ⟨g3, z3⟩ := hR.1 3 (by decide)
      obtain ⟨b3, y3⟩ := hR.2 3 (by decide)
      have hB := hideIt hC.below
      clear hC HC0 HR0 hR HN HP hN
      obtain ⟨n0, en0⟩ : ∃ x, cn (fits ds us kind) ds 0 ds.length = x := ⟨_, rfl⟩
      rw [en0] at f0
      obtain ⟨n1, en1⟩ : ∃ x, cn (fits ds us kind) ds 1 ds.length = x := ⟨_, rfl⟩
      rw [en1] at f1
      obtain ⟨n2, en2⟩ : ∃ x, cn (fits ds us kind) ds 2 ds.length = x := ⟨_, rfl⟩
      rw [en2] at f2
      obtain ⟨n3, en3⟩ : ∃ x, cn (fits ds us kind) ds 3 ds.length = x := ⟨_, rfl⟩
      rw [en3] at f3
      obtain ⟨m0, em0⟩ : ∃ x, cn (kindP ds kind) ds 0 ds.length = x := ⟨_, rfl⟩
      rw [em0] at a0
      obtain ⟨m1, em1⟩ : ∃ x, cn (kindP ds kind) ds 1 ds.length = x := ⟨_, rfl⟩
      rw [em1] at a1
      obtain ⟨m2, em2⟩ : ∃ x, cn (kindP ds kind) ds 2 ds.length = x := ⟨_, rfl⟩
      rw [em2] at a2
      obtain ⟨m3, em3⟩ : ∃ x, cn (kindP ds kind) ds 3 ds.length = x := ⟨_, rfl⟩
      rw [em3] at a3
      have HE := hideIt (And.intro (And.intro en0 (And.intro en1 (And.intro en2 en3))) (And.intro em0 (And.intro em1 (And.intro em2 em3))))
      clear en0 en1 en2 en3 em0 em1 em2 em3
      go_wp2_with fail
      go_region
      go_wp2_with fail
      refine bodyPost_ret (v := .tuple #[.agg #[.int .i64 n0, .int .i64 n1, .int .i64 n2, .int .i64 n3], .agg #[.int .i64 m0, .int .i64 m1, .int .i64 m2, .int .i64 m3]]) ?_ rfl ⟨?_, ?_⟩
      · rw [results_cell2 rfl]
        go_simp
      · obtain ⟨⟨q0, q1, q2, q3⟩, r0, r1, r2, r3⟩ := HE.out
        subst q0 q1 q2 q3 r0 r1 r2 r3
        rfl
      · exact below_drew (((((((((hB.out.setCell (Nat.le_refl _) _).setCell (Nat.le_refl _) _).setCell (Nat.le_refl _) _).setCell (Nat.le_refl _) _).setCell (Nat.le_succ _) _).setCell (Nat.le_succ _) _).setCell (Nat.le_succ _) _).setCell (Nat.le_succ _) _))
end Go.Proofs.Ythekalhceamcoaa
