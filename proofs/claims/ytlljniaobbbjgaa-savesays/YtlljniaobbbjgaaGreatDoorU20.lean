/- VD5, VD9, VD6, VD7 -/
import Derived.Test.YtlljniaobbbjgaaGreatDoorU19
namespace Go.Proofs.YtlljniaobbbjgaaGreatDoor
open Go.RowKit
set_option maxRecDepth 100000 in
set_option maxHeartbeats 1000000 in
theorem apply_no (B : Nat) (n k : Sd) (v : Value) (l : Int) (d : Bool) (wr : Bool) (bs : ByteArray) (w : World) (h : DiskW w B n k v l d) (hl : -9223372036854775808 ≤ l ∧ l ≤ 9223372036854775807) (h0 : stepE l d = 11) :
    Calls Tryz.prog 65 #[.pointer (some ⟨B, 0, none⟩), .agg #[.bool wr, .string bs]] w fun e w' => e = .returned (.iface 80 (.int .i64 11)) ∧ DiskW w' B n k v (stepN l d) true ∧ w.grownBy w' (some B) := by
  have hlt := h.lt
  have hba := (Below.refl w.heap.size w).alloc (Nat.le_refl _) (.cells #[.bool wr, .string bs] 111)
  have hD0 := h.block (w' := w.alloc (.cells #[.bool wr, .string bs] 111)) (hba.block B hlt)
  have HST := hideIt (stepW_any B n k _ l d _ hD0 hl)
  have hF : stepF l d = true := by
    rcases step_two l d with ⟨_, e2⟩ | ⟨e1, _⟩
    · exact e2
    · rw [h0] at e1; cases e1
  rw [h0, hF, errV_11] at HST
  have HBA := hideIt hba
  clear h hD0 hF h0 hba hlt
  go_enter Tryz.func65, Tryz.ntmps65
  go_wp2_with fail
  refine HST.out.mono ?_
  rintro e w1 ⟨rfl, h1, ho1⟩
  have HG1 := hideIt (grown_trans ⟨HBA.out.os, HBA.out.tape, HBA.out.output, HBA.out.size, fun j hj _ => HBA.out.block j hj⟩ ho1.1)
  have H1 := hideIt h1
  clear h1 ho1 HST HBA
  go_wp2_with fail
  go_ret
  exact ⟨rfl, H1.out, HG1.out⟩
theorem write_many (B : Nat) (s : ByteArray) (w : World) (hs : 6000 < s.size) (hs2 : s.size ≤ maxLen) :
    Calls Tryz.prog 40 #[.pointer (some ⟨B, 0, none⟩), .string s] w fun e w' => e = .returned (.iface 80 (.int .i64 2)) ∧ w' = w := by
  unfold maxLen at hs2
  go_enter Tryz.func40, Tryz.ntmps40
  go_wp2_with fail
  go_ret
  exact ⟨rfl, rfl⟩
theorem write_yes (B : Nat) (n k : Sd) (l : Int) (d : Bool) (s : ByteArray) (w : World) (h : DiskW w B n k (.slice none 0 0) l d) (hl : -9223372036854775808 ≤ l ∧ l ≤ 9223372036854775807) (h0 : stepE l d = 0) (hs : s.size ≤ 6000) :
    Calls Tryz.prog 40 #[.pointer (some ⟨B, 0, none⟩), .string s] w fun e w' => e = .returned .nilIface ∧ Waits w w' B (Chg.on ⟨true, s⟩ n) k (stepN l d) true s ∧ w.grownBy w' (some B) := by
  have HA := hideIt (apply_yes B n k l d true s w h hl h0)
  clear h h0
  go_enter Tryz.func40, Tryz.ntmps40
  go_wp2_with fail
  refine HA.out.mono ?_
  rintro e w1 ⟨rfl, h1, h2⟩
  have H1 := hideIt h1
  have H2 := hideIt h2
  clear h1 h2 HA
  go_wp2_with fail
  go_ret
  exact ⟨rfl, H1.out, H2.out⟩
theorem write_no (B : Nat) (n k : Sd) (v : Value) (l : Int) (d : Bool) (s : ByteArray) (w : World) (h : DiskW w B n k v l d) (hl : -9223372036854775808 ≤ l ∧ l ≤ 9223372036854775807) (h0 : stepE l d = 11) (hs : s.size ≤ 6000) :
    Calls Tryz.prog 40 #[.pointer (some ⟨B, 0, none⟩), .string s] w fun e w' => e = .returned (.iface 80 (.int .i64 11)) ∧ DiskW w' B n k v (stepN l d) true ∧ w.grownBy w' (some B) := by
  have HA := hideIt (apply_no B n k v l d true s w h hl h0)
  clear h h0
  go_enter Tryz.func40, Tryz.ntmps40
  go_wp2_with fail
  refine HA.out.mono ?_
  rintro e w1 ⟨rfl, h1, h2⟩
  have H1 := hideIt h1
  have H2 := hideIt h2
  clear h1 h2 HA
  go_wp2_with fail
  go_ret
  exact ⟨rfl, H1.out, H2.out⟩
theorem move_none (B : Nat) (n k : Sd) (v : Value) (l : Int) (d : Bool) (w : World) (h : DiskW w B n k v l d) (hn : n.dt = false) :
    Calls Tryz.prog 42 #[.pointer (some ⟨B, 0, none⟩)] w fun e w' => e = .returned (.iface 80 (.int .i64 6)) ∧ w' = w := by
  obtain ⟨_, _, c2, _⟩ := h.now
  rw [hn] at c2
  clear h hn
  go_enter Tryz.func42, Tryz.ntmps42
  go_wp2_with fail
  go_ret
  exact ⟨rfl, rfl⟩
theorem move_yes (B : Nat) (n k : Sd) (l : Int) (d : Bool) (w : World) (h : DiskW w B n k (.slice none 0 0) l d) (hl : -9223372036854775808 ≤ l ∧ l ≤ 9223372036854775807) (h0 : stepE l d = 0) (hn : n.dt = true) :
    Calls Tryz.prog 42 #[.pointer (some ⟨B, 0, none⟩)] w fun e w' => e = .returned .nilIface ∧ Waits w w' B (Chg.on ⟨false, ⟨#[]⟩⟩ n) k (stepN l d) false ⟨#[]⟩ ∧ w.grownBy w' (some B) := by
  have HA := hideIt (apply_yes B n k l d false ⟨#[]⟩ w h hl h0)
  obtain ⟨_, _, c2, _⟩ := h.now
  rw [hn] at c2
  clear h h0 hn
  go_enter Tryz.func42, Tryz.ntmps42
  go_wp2_with fail
  refine HA.out.mono ?_
  rintro e w1 ⟨rfl, h1, h2⟩
  have H1 := hideIt h1
  have H2 := hideIt h2
  clear h1 h2 HA
  go_wp2_with fail
  go_ret
  exact ⟨rfl, H1.out, H2.out⟩
theorem move_no (B : Nat) (n k : Sd) (v : Value) (l : Int) (d : Bool) (w : World) (h : DiskW w B n k v l d) (hl : -9223372036854775808 ≤ l ∧ l ≤ 9223372036854775807) (h0 : stepE l d = 11) (hn : n.dt = true) :
    Calls Tryz.prog 42 #[.pointer (some ⟨B, 0, none⟩)] w fun e w' => e = .returned (.iface 80 (.int .i64 11)) ∧ DiskW w' B n k v (stepN l d) true ∧ w.grownBy w' (some B) := by
  have HA := hideIt (apply_no B n k v l d false ⟨#[]⟩ w h hl h0)
  obtain ⟨_, _, c2, _⟩ := h.now
  rw [hn] at c2
  clear h h0 hn
  go_enter Tryz.func42, Tryz.ntmps42
  go_wp2_with fail
  refine HA.out.mono ?_
  rintro e w1 ⟨rfl, h1, h2⟩
  have H1 := hideIt h1
  have H2 := hideIt h2
  clear h1 h2 HA
  go_wp2_with fail
  go_ret
  exact ⟨rfl, H1.out, H2.out⟩
end Go.Proofs.YtlljniaobbbjgaaGreatDoor
namespace Go.Proofs.YtlljniaobbbjgaaGreatDoor
open Go.RowKit
set_option maxRecDepth 100000 in
set_option maxHeartbeats 1000000 in
theorem first_any (cw : Bool) (bs : ByteArray) (m : Int) (w : World) (hm : 0 < m) : Calls Tryz.prog 51 #[.agg #[.bool cw, .string bs], .int .i64 m] w fun e w' => e = .returned (.agg #[.bool cw, .string (bs.extract 0 (min m bs.size).toNat)]) ∧ Below w.heap.size w w' := by
  rcases Int.lt_trichotomy m bs.size with h | h | h
  · have hm1 : min m (bs.size : Int) = m := by omega
    have hm2 : decide (m < (bs.size : Int)) = true := decide_eq_true h
    have hm3 : decide ((bs.size : Int) < m) = false := decide_eq_false (by omega)
    rw [hm1]
    have HB := hideIt (((Below.refl w.heap.size w).alloc (Nat.le_refl _) (.cells #[.bool cw, .string (bs.extract 0 m.toNat)] 111)).alloc (by simp) (.cells #[.bool cw, .string (bs.extract 0 m.toNat)] 111))
    go_enter Tryz.func51, Tryz.ntmps51
    go_wp2_with fail
    refine bodyPost_ret (v := .agg #[.bool cw, .string (bs.extract 0 m.toNat)]) ?_ rfl ⟨rfl, HB.out⟩
    rw [results_cellV rfl]
    go_simp
  · subst h
    have hm1 : min (bs.size : Int) (bs.size : Int) = bs.size := by omega
    rw [hm1, show bs.extract 0 (bs.size : Int).toNat = bs from by simp]
    have HB := hideIt (((Below.refl w.heap.size w).alloc (Nat.le_refl _) (.cells #[.bool cw, .string bs] 111)).alloc (by simp) (.cells #[.bool cw, .string bs] 111))
    go_enter Tryz.func51, Tryz.ntmps51
    go_wp2_with fail
    refine bodyPost_ret (v := .agg #[.bool cw, .string bs]) ?_ rfl ⟨rfl, HB.out⟩
    rw [results_cellV rfl]
    go_simp
  · have hm1 : min m (bs.size : Int) = bs.size := by omega
    have hm2 : decide (m < (bs.size : Int)) = false := decide_eq_false (by omega)
    have hm4 : decide (m ≤ (bs.size : Int)) = false := decide_eq_false (by omega)
    have hm5 : ¬ m ≤ (bs.size : Int) := by omega
    rw [hm1, show bs.extract 0 (bs.size : Int).toNat = bs from by simp]
    have HB := hideIt (((Below.refl w.heap.size w).alloc (Nat.le_refl _) (.cells #[.bool cw, .string bs] 111)).alloc (by simp) (.cells #[.bool cw, .string bs] 111))
    go_enter Tryz.func51, Tryz.ntmps51
    go_wp2_with fail
    refine bodyPost_ret (v := .agg #[.bool cw, .string bs]) ?_ rfl ⟨rfl, HB.out⟩
    rw [results_cellV rfl]
    go_simp
end Go.Proofs.YtlljniaobbbjgaaGreatDoor
namespace Go.Proofs.YtlljniaobbbjgaaGreatDoor
open Go.RowKit
set_option maxRecDepth 100000 in
set_option maxHeartbeats 2000000 in
theorem restart_nil (B : Nat) (n k : Sd) (l : Int) (d : Bool) (keep torn : Int) (w : World) (h : DiskW w B n k (.slice none 0 0) l d) :
    Calls Tryz.prog 24 #[.pointer (some ⟨B, 0, none⟩), .int .i64 keep, .int .i64 torn] w fun e w' => e = .returned (.tuple #[]) ∧ DiskW w' B k k (.slice none 0 0) (-1) false ∧ OnlyB B w w' := by
  obtain ⟨a0, a1, a2, a3⟩ := h.now
  obtain ⟨a4, a5, a6, a7⟩ := h.kept
  obtain ⟨a8, a9, a10⟩ := h.rest
  have f0 := h.frozen 0
  have f1 := h.frozen 1
  have f2 := h.frozen 2
  have f3 := h.frozen 3
  have f8 := h.frozen 8
  have f9 := h.frozen 9
  have f10 := h.frozen 10
  have HZ := hideIt ((((h.setNow k).set8 (.slice none 0 0)).set9 (-1)).set10 false)
  have HO := hideIt (((((OnlyB.refl B w).putS 0 k).set 8 (.slice none 0 0)).set 9 (.int .i64 (-1))).set 10 (.bool false))
  clear h
  unfold putS at HZ HO
  simp only [Nat.zero_add] at HZ HO
  rcases Int.lt_trichotomy keep 0 with hk | hk | hk
  · have hm1 : max keep 0 = 0 := by omega
    have hm2 : decide (keep < 0) = true := decide_eq_true hk
    rcases Int.lt_or_le 0 torn with ht | ht
    · have ht2 : decide (0 < torn) = true := decide_eq_true ht
      go_enter Tryz.func24, Tryz.ntmps24
      go_wp2_with fail
      go_loop [23] (fun i => i = .int .i64 0) (fun _ => 0)
      case atStart => rfl
      case round =>
        subst hrel
        go_wp2_with fail
        go_end0
        exact ⟨rfl, HZ.out, HO.out⟩
    · have ht2 : decide (0 < torn) = false := decide_eq_false (by omega)
      go_enter Tryz.func24, Tryz.ntmps24
      go_wp2_with fail
      go_loop [23] (fun i => i = .int .i64 0) (fun _ => 0)
      case atStart => rfl
      case round =>
        subst hrel
        go_wp2_with fail
        go_end0
        exact ⟨rfl, HZ.out, HO.out⟩
  · subst hk
    rcases Int.lt_or_le 0 torn with ht | ht
    · have ht2 : decide (0 < torn) = true := decide_eq_true ht
      go_enter Tryz.func24, Tryz.ntmps24
      go_wp2_with fail
      go_loop [23] (fun i => i = .int .i64 0) (fun _ => 0)
      case atStart => rfl
      case round =>
        subst hrel
        go_wp2_with fail
        go_end0
        exact ⟨rfl, HZ.out, HO.out⟩
    · have ht2 : decide (0 < torn) = false := decide_eq_false (by omega)
      go_enter Tryz.func24, Tryz.ntmps24
      go_wp2_with fail
      go_loop [23] (fun i => i = .int .i64 0) (fun _ => 0)
      case atStart => rfl
      case round =>
        subst hrel
        go_wp2_with fail
        go_end0
        exact ⟨rfl, HZ.out, HO.out⟩
  · have hm1 : max keep 0 = keep := by omega
    have hm2 : decide (keep < 0) = false := decide_eq_false (by omega)
    have hm3 : min keep 0 = 0 := by omega
    have hm4 : decide (0 < keep) = true := decide_eq_true hk
    rcases Int.lt_or_le 0 torn with ht | ht
    · have ht2 : decide (0 < torn) = true := decide_eq_true ht
      go_enter Tryz.func24, Tryz.ntmps24
      go_wp2_with fail
      go_loop [23] (fun i => i = .int .i64 0) (fun _ => 0)
      case atStart => rfl
      case round =>
        subst hrel
        go_wp2_with fail
        go_end0
        exact ⟨rfl, HZ.out, HO.out⟩
    · have ht2 : decide (0 < torn) = false := decide_eq_false (by omega)
      go_enter Tryz.func24, Tryz.ntmps24
      go_wp2_with fail
      go_loop [23] (fun i => i = .int .i64 0) (fun _ => 0)
      case atStart => rfl
      case round =>
        subst hrel
        go_wp2_with fail
        go_end0
        exact ⟨rfl, HZ.out, HO.out⟩
end Go.Proofs.YtlljniaobbbjgaaGreatDoor
namespace Go.Proofs.YtlljniaobbbjgaaGreatDoor
open Go.RowKit
set_option maxRecDepth 100000 in
set_option maxHeartbeats 2000000 in
theorem restart_lost (B g cap : Nat) (n k : Sd) (l : Int) (d : Bool) (wr : Bool) (bs : ByteArray) (keep torn : Int) (w : World) (h : DiskW w B n k (.slice (some ⟨g, 0, none⟩) 1 cap) l d) (hc : ChgAt w g wr bs) (hcap : 1 ≤ cap) (hkp : keep ≤ 0) (hno : torn ≤ 0 ∨ wr = false) :
    Calls Tryz.prog 24 #[.pointer (some ⟨B, 0, none⟩), .int .i64 keep, .int .i64 torn] w fun e w' => e = .returned (.tuple #[]) ∧ DiskW w' B k k (.slice none 0 0) (-1) false ∧ OnlyB B w w' := by
  obtain ⟨_, g0, _⟩ := hc
  obtain ⟨a0, a1, a2, a3⟩ := h.now
  obtain ⟨a4, a5, a6, a7⟩ := h.kept
  obtain ⟨a8, a9, a10⟩ := h.rest
  have f0 := h.frozen 0
  have f1 := h.frozen 1
  have f2 := h.frozen 2
  have f3 := h.frozen 3
  have f8 := h.frozen 8
  have f9 := h.frozen 9
  have f10 := h.frozen 10
  have HZ := hideIt ((((h.setNow k).set8 (.slice none 0 0)).set9 (-1)).set10 false)
  have HO := hideIt (((((OnlyB.refl B w).putS 0 k).set 8 (.slice none 0 0)).set 9 (.int .i64 (-1))).set 10 (.bool false))
  clear h
  unfold putS at HZ HO
  simp only [Nat.zero_add] at HZ HO
  rcases Int.lt_or_eq_of_le hkp with hk | hk
  · have hm1 : max keep 0 = 0 := by omega
    have hm2 : decide (keep < 0) = true := decide_eq_true hk
    have hm3 : min (0 : Int) 1 = 0 := by omega
    clear hkp
    rcases Int.lt_or_le 0 torn with ht | ht
    · have ht2 : decide (0 < torn) = true := decide_eq_true ht
      rcases hno with hno | hno
      · omega
      subst hno
      go_enter Tryz.func24, Tryz.ntmps24
      go_wp2_with fail
      go_loop [23] (fun i => i = .int .i64 0) (fun _ => 0)
      case atStart => rfl
      case round =>
        subst hrel
        go_wp2_with fail
        go_end0
        exact ⟨rfl, HZ.out, HO.out⟩
    · have ht2 : decide (0 < torn) = false := decide_eq_false (by omega)
      go_enter Tryz.func24, Tryz.ntmps24
      go_wp2_with fail
      go_loop [23] (fun i => i = .int .i64 0) (fun _ => 0)
      case atStart => rfl
      case round =>
        subst hrel
        go_wp2_with fail
        go_end0
        exact ⟨rfl, HZ.out, HO.out⟩
  · subst hk
    have hm3 : min (0 : Int) 1 = 0 := by omega
    clear hkp
    rcases Int.lt_or_le 0 torn with ht | ht
    · have ht2 : decide (0 < torn) = true := decide_eq_true ht
      rcases hno with hno | hno
      · omega
      subst hno
      go_enter Tryz.func24, Tryz.ntmps24
      go_wp2_with fail
      go_loop [23] (fun i => i = .int .i64 0) (fun _ => 0)
      case atStart => rfl
      case round =>
        subst hrel
        go_wp2_with fail
        go_end0
        exact ⟨rfl, HZ.out, HO.out⟩
    · have ht2 : decide (0 < torn) = false := decide_eq_false (by omega)
      go_enter Tryz.func24, Tryz.ntmps24
      go_wp2_with fail
      go_loop [23] (fun i => i = .int .i64 0) (fun _ => 0)
      case atStart => rfl
      case round =>
        subst hrel
        go_wp2_with fail
        go_end0
        exact ⟨rfl, HZ.out, HO.out⟩
end Go.Proofs.YtlljniaobbbjgaaGreatDoor
