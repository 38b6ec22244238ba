/- What Claim and Give of package devices answer: contracts. -/
import Derived.Test.YthekalhceamcoaaDBits
namespace Go.Proofs.Ythekalhceamcoaa
open Go.RowKit
open Dvs (Dv dv0 dv nth first clF gvF claimed given Nodes)
set_option maxRecDepth 100000 in
set_option maxHeartbeats 2000000 in
theorem claim_any (v : Value) (g o : Nat) (l : List Int) (w : World) (pb db : Nat) (ao : Option Addr) (c : Nat) (ds : List Dv) (us : Nat → Bool) (h : PoolAt w pb db ao c ds us) (hN : Nodes ds) (hl : NumsAt w v g o l) (hl2 : l.length ≤ 9223372036854775807) :
    Calls Try.prog 32 #[.pointer (some ⟨pb, 0, none⟩), v] w fun e w' => e = .returned (errV (first (clF ds.length us l) l.length : Nat)) ∧ w.grownBy w' (some pb) ∧ PoolAt w' pb db ao c ds (claimOut ds.length us l) := by
  have HL := hideIt hl
  obtain ⟨al, cl, rfl, _⟩ := hl
  have HN := hideIt hN
  have HP := hideIt h
  have u0 := (h.used 0 (by decide)).1
  have u1 := (h.used 1 (by decide)).1
  have u2 := (h.used 2 (by decide)).1
  have u3 := (h.used 3 (by decide)).1
  have u4 := (h.used 4 (by decide)).1
  have u5 := (h.used 5 (by decide)).1
  have u6 := (h.used 6 (by decide)).1
  have u7 := (h.used 7 (by decide)).1
  have u8 := (h.used 8 (by decide)).1
  have u9 := (h.used 9 (by decide)).1
  have u10 := (h.used 10 (by decide)).1
  have u11 := (h.used 11 (by decide)).1
  have u12 := (h.used 12 (by decide)).1
  have u13 := (h.used 13 (by decide)).1
  have u14 := (h.used 14 (by decide)).1
  have u15 := (h.used 15 (by decide)).1
  have HT0 : Hid (BitsAt (w.alloc (.cells (bitsV us) 73)) w.heap.size (claimed us (l.take 0))) := by
    rw [List.take_zero, Dvs.claimed_nil]
    exact BitsAt.made w _ us
  have HP0 := hideIt (h.alloc (.cells (bitsV us) 73))
  have HB0 := hideIt ((Below.refl w.heap.size w).alloc (Nat.le_refl _) (.cells (bitsV us) 73))
  have HL0 := hideIt (HL.out.below HB0.out)
  unfold bitsV at HT0 HP0 HB0 HL0
  clear h hN
  go_enter Try.func32, Try.ntmps32
  go_wp2_with fail
  go_loopw [14] (fun i wr => ∃ k : Nat, k ≤ l.length ∧ i = .int .i64 k ∧ Hid (first (clF ds.length us l) k = 0) ∧ BitsAt wr w.heap.size (claimed us (l.take k)) ∧ PoolAt wr pb db ao c ds us ∧ NumsAt wr (.slice al l.length cl) g o l ∧ Below w.heap.size w wr) (fun i _ => l.length - (intOf i).toNat)
  case atStart => exact ⟨0, by omega, rfl, rfl, HT0.out, HP0.out, HL0.out, HB0.out⟩
  case round =>
    obtain ⟨k, hk, rfl, HK, hT, hP, hLn, hB⟩ := hrel
    have hp := HP.out.lt
    by_cases hlt : k < l.length
    · have HLn := hideIt hLn
      obtain ⟨al', cl', hv, hcs⟩ := hLn
      obtain ⟨rfl, hlg, hcs⟩ := hcs (by omega)
      cases hv
      have hx := hcs k hlt
      have HT := hideIt hT
      have HPk := hideIt hP
      have HBk := hideIt hB
      have HH := hideIt (has_any (nth l k) wr pb db ao c ds us hP)
      have HW := hideIt (fun n hn => (Dvs.first_hit (f := clF ds.length us l) (n := l.length) HK.out (by rw [hn]; simp) hlt).trans (hn : clF ds.length us l k = n + 1))
      rcases two (inBd (nth l k) ds.length) with hb | hb
      · obtain ⟨m, hm, hmn⟩ := inB_iff hb
        have hm16 : m < 16 := by have := HN.out.1; omega
        have hbit := (hT m hm16)
        have hbit1 := hbit.1
        have hbit2 := hbit.2
        have hus := (hP.used m hm16).1
        rw [hb] at HH
        clear hbit hT hP hB hcs hb
        rcases two (claimed us (l.take k) m) with hc | hc
        · have HE := hideIt (HW.out 4 (clF_exist hm hmn hc))
          have HO : Hid (claimOut ds.length us l = us) := by unfold Hid claimOut; rw [HE.out, if_neg (by decide)]
          rw [hc] at hbit1
          rw [hm] at hx HH
          clear hc HW
          go_wp2_with fail
          refine HH.out.mono ?_
          rintro e w1 ⟨rfl, rfl⟩
          go_wp2_with fail
          go_ret
          exact ⟨by rw [HE.out]; rfl, grown_below HBk.out _, by rw [HO.out]; exact HPk.out⟩
        · have HK1 : Hid (first (clF ds.length us l) (k + 1) = 0) := Dvs.first_zero HK.out (clF_good hm hmn hc)
          have HT1 := hideIt (HT.out.set (g := claimed us (l.take (k + 1))) hm16 true (fun j _ => claimed_step hlt hm j))
          have HP1 := hideIt (HPk.out.kept (grown_setCell wr ⟨w.heap.size, m, none⟩ (.bool true)) (by simp; omega) (fun h0 => by have := (HP.out.at0 h0).2.2; simp; omega))
          have HL1 := hideIt (HLn.out.kept (grown_setCell wr ⟨w.heap.size, m, none⟩ (.bool true)) (fun h0 => by have := HL.out; obtain ⟨a1, a2, a3, a4⟩ := this; have := (a4 h0).2.1; simp; omega))
          have HB1 := hideIt (HBk.out.setCell (p := ⟨w.heap.size, m, none⟩) (Nat.le_refl _) (.bool true))
          rw [hc] at hbit1
          rw [hm] at hx HH
          clear hc HW
          go_wp2_with fail
          refine HH.out.mono ?_
          rintro e w1 ⟨rfl, rfl⟩
          go_wp2_with fail
          go_roundw
          case rel => exact ⟨k + 1, by omega, by go_num, HK1, HT1.out, HP1.out, HL1.out, HB1.out⟩
          case measure => simp [intOf]; omega
      · have HE := hideIt (HW.out 0 (clF_bound hb))
        have HO : Hid (claimOut ds.length us l = us) := by unfold Hid claimOut; rw [HE.out, if_neg (by decide)]
        rw [hb] at HH
        clear hb HW hT hP hB hcs
        go_wp2_with fail
        refine HH.out.mono ?_
        rintro e w1 ⟨rfl, rfl⟩
        go_wp2_with fail
        go_ret
        exact ⟨by rw [HE.out]; rfl, grown_below HBk.out _, by rw [HO.out]; exact HPk.out⟩
    · have hke : k = l.length := by omega
      subst hke
      have HO : Hid (claimOut ds.length us l = claimed us (l.take l.length)) := by unfold Hid claimOut; rw [HK.out, if_pos rfl, List.take_length]
      have HBk := hideIt hB
      have HF := hideIt (fill_pool hP (claimed us (l.take l.length)))
      have HG := hideIt ((grown_below hB (some pb)).trans (fillTo_grown wr pb (claimed us (l.take l.length)) 16))
      have t0 := (hT 0 (by decide)).1
      have z0 := (hP.used 0 (by decide)).2
      have s0 := (hP.used 0 (by decide)).1
      have t1 := (hT 1 (by decide)).1
      have z1 := (hP.used 1 (by decide)).2
      have s1 := (hP.used 1 (by decide)).1
      have t2 := (hT 2 (by decide)).1
      have z2 := (hP.used 2 (by decide)).2
      have s2 := (hP.used 2 (by decide)).1
      have t3 := (hT 3 (by decide)).1
      have z3 := (hP.used 3 (by decide)).2
      have s3 := (hP.used 3 (by decide)).1
      have t4 := (hT 4 (by decide)).1
      have z4 := (hP.used 4 (by decide)).2
      have s4 := (hP.used 4 (by decide)).1
      have t5 := (hT 5 (by decide)).1
      have z5 := (hP.used 5 (by decide)).2
      have s5 := (hP.used 5 (by decide)).1
      have t6 := (hT 6 (by decide)).1
      have z6 := (hP.used 6 (by decide)).2
      have s6 := (hP.used 6 (by decide)).1
      have t7 := (hT 7 (by decide)).1
      have z7 := (hP.used 7 (by decide)).2
      have s7 := (hP.used 7 (by decide)).1
      have t8 := (hT 8 (by decide)).1
      have z8 := (hP.used 8 (by decide)).2
      have s8 := (hP.used 8 (by decide)).1
      have t9 := (hT 9 (by decide)).1
      have z9 := (hP.used 9 (by decide)).2
      have s9 := (hP.used 9 (by decide)).1
      have t10 := (hT 10 (by decide)).1
      have z10 := (hP.used 10 (by decide)).2
      have s10 := (hP.used 10 (by decide)).1
      have t11 := (hT 11 (by decide)).1
      have z11 := (hP.used 11 (by decide)).2
      have s11 := (hP.used 11 (by decide)).1
      have t12 := (hT 12 (by decide)).1
      have z12 := (hP.used 12 (by decide)).2
      have s12 := (hP.used 12 (by decide)).1
      have t13 := (hT 13 (by decide)).1
      have z13 := (hP.used 13 (by decide)).2
      have s13 := (hP.used 13 (by decide)).1
      have t14 := (hT 14 (by decide)).1
      have z14 := (hP.used 14 (by decide)).2
      have s14 := (hP.used 14 (by decide)).1
      have t15 := (hT 15 (by decide)).1
      have z15 := (hP.used 15 (by decide)).2
      have s15 := (hP.used 15 (by decide)).1
      clear hT hP hB hLn
      generalize claimed us (l.take l.length) = f at *
      go_wp2_with fail
      go_ret
      refine ⟨by rw [HK.out]; rfl, HG.out, ?_⟩
      rw [HO.out]
      exact HF.out
set_option maxRecDepth 100000 in
set_option maxHeartbeats 2000000 in
theorem give_any (v : Value) (g o : Nat) (l : List Int) (w : World) (pb db : Nat) (ao : Option Addr) (c : Nat) (ds : List Dv) (us : Nat → Bool) (h : PoolAt w pb db ao c ds us) (hN : Nodes ds) (hl : NumsAt w v g o l) (hl2 : l.length ≤ 9223372036854775807) :
    Calls Try.prog 34 #[.pointer (some ⟨pb, 0, none⟩), v] w fun e w' => e = .returned (errV (first (gvF ds.length us l) l.length : Nat)) ∧ w.grownBy w' (some pb) ∧ PoolAt w' pb db ao c ds (giveOut ds.length us l) := by
  have HL := hideIt hl
  obtain ⟨al, cl, rfl, _⟩ := hl
  have HN := hideIt hN
  have HP := hideIt h
  have u0 := (h.used 0 (by decide)).1
  have u1 := (h.used 1 (by decide)).1
  have u2 := (h.used 2 (by decide)).1
  have u3 := (h.used 3 (by decide)).1
  have u4 := (h.used 4 (by decide)).1
  have u5 := (h.used 5 (by decide)).1
  have u6 := (h.used 6 (by decide)).1
  have u7 := (h.used 7 (by decide)).1
  have u8 := (h.used 8 (by decide)).1
  have u9 := (h.used 9 (by decide)).1
  have u10 := (h.used 10 (by decide)).1
  have u11 := (h.used 11 (by decide)).1
  have u12 := (h.used 12 (by decide)).1
  have u13 := (h.used 13 (by decide)).1
  have u14 := (h.used 14 (by decide)).1
  have u15 := (h.used 15 (by decide)).1
  have HT0 : Hid (BitsAt (w.alloc (.cells (bitsV us) 73)) w.heap.size (given us (l.take 0))) := by
    rw [List.take_zero, Dvs.given_nil]
    exact BitsAt.made w _ us
  have HP0 := hideIt (h.alloc (.cells (bitsV us) 73))
  have HB0 := hideIt ((Below.refl w.heap.size w).alloc (Nat.le_refl _) (.cells (bitsV us) 73))
  have HL0 := hideIt (HL.out.below HB0.out)
  unfold bitsV at HT0 HP0 HB0 HL0
  clear h hN
  go_enter Try.func34, Try.ntmps34
  go_wp2_with fail
  go_loopw [14] (fun i wr => ∃ k : Nat, k ≤ l.length ∧ i = .int .i64 k ∧ Hid (first (gvF ds.length us l) k = 0) ∧ BitsAt wr w.heap.size (given us (l.take k)) ∧ PoolAt wr pb db ao c ds us ∧ NumsAt wr (.slice al l.length cl) g o l ∧ Below w.heap.size w wr) (fun i _ => l.length - (intOf i).toNat)
  case atStart => exact ⟨0, by omega, rfl, rfl, HT0.out, HP0.out, HL0.out, HB0.out⟩
  case round =>
    obtain ⟨k, hk, rfl, HK, hT, hP, hLn, hB⟩ := hrel
    have hp := HP.out.lt
    by_cases hlt : k < l.length
    · have HLn := hideIt hLn
      obtain ⟨al', cl', hv, hcs⟩ := hLn
      obtain ⟨rfl, hlg, hcs⟩ := hcs (by omega)
      cases hv
      have hx := hcs k hlt
      have HT := hideIt hT
      have HPk := hideIt hP
      have HBk := hideIt hB
      have HH := hideIt (has_any (nth l k) wr pb db ao c ds us hP)
      have HW := hideIt (fun n hn => (Dvs.first_hit (f := gvF ds.length us l) (n := l.length) HK.out (by rw [hn]; simp) hlt).trans (hn : gvF ds.length us l k = n + 1))
      rcases two (inBd (nth l k) ds.length) with hb | hb
      · obtain ⟨m, hm, hmn⟩ := inB_iff hb
        have hm16 : m < 16 := by have := HN.out.1; omega
        have hbit := (hT m hm16)
        have hbit1 := hbit.1
        have hbit2 := hbit.2
        have hus := (hP.used m hm16).1
        rw [hb] at HH
        clear hbit hT hP hB hcs hb
        rcases two (us m) with hc | hc
        · have HK1 : Hid (first (gvF ds.length us l) (k + 1) = 0) := Dvs.first_zero HK.out (gvF_good hm hmn hc)
          have HT1 := hideIt (HT.out.set (g := given us (l.take (k + 1))) hm16 false (fun j _ => given_step hlt hm j))
          have HP1 := hideIt (HPk.out.kept (grown_setCell wr ⟨w.heap.size, m, none⟩ (.bool false)) (by simp; omega) (fun h0 => by have := (HP.out.at0 h0).2.2; simp; omega))
          have HL1 := hideIt (HLn.out.kept (grown_setCell wr ⟨w.heap.size, m, none⟩ (.bool false)) (fun h0 => by have := HL.out; obtain ⟨a1, a2, a3, a4⟩ := this; have := (a4 h0).2.1; simp; omega))
          have HB1 := hideIt (HBk.out.setCell (p := ⟨w.heap.size, m, none⟩) (Nat.le_refl _) (.bool false))
          rw [hc] at hus
          rw [hm] at hx HH
          clear hc HW
          go_wp2_with fail
          refine HH.out.mono ?_
          rintro e w1 ⟨rfl, rfl⟩
          go_wp2_with fail
          go_roundw
          case rel => exact ⟨k + 1, by omega, by go_num, HK1, HT1.out, HP1.out, HL1.out, HB1.out⟩
          case measure => simp [intOf]; omega
        · have HE := hideIt (HW.out 5 (gvF_none hm hmn hc))
          have HO : Hid (giveOut ds.length us l = us) := by unfold Hid giveOut; rw [HE.out, if_neg (by decide)]
          rw [hc] at hus
          rw [hm] at hx HH
          clear hc HW
          go_wp2_with fail
          refine HH.out.mono ?_
          rintro e w1 ⟨rfl, rfl⟩
          go_wp2_with fail
          go_ret
          exact ⟨by rw [HE.out]; rfl, grown_below HBk.out _, by rw [HO.out]; exact HPk.out⟩
      · have HE := hideIt (HW.out 0 (gvF_bound hb))
        have HO : Hid (giveOut ds.length us l = us) := by unfold Hid giveOut; rw [HE.out, if_neg (by decide)]
        rw [hb] at HH
        clear hb HW hT hP hB hcs
        go_wp2_with fail
        refine HH.out.mono ?_
        rintro e w1 ⟨rfl, rfl⟩
        go_wp2_with fail
        go_ret
        exact ⟨by rw [HE.out]; rfl, grown_below HBk.out _, by rw [HO.out]; exact HPk.out⟩
    · have hke : k = l.length := by omega
      subst hke
      have HO : Hid (giveOut ds.length us l = given us (l.take l.length)) := by unfold Hid giveOut; rw [HK.out, if_pos rfl, List.take_length]
      have HBk := hideIt hB
      have HF := hideIt (fill_pool hP (given us (l.take l.length)))
      have HG := hideIt ((grown_below hB (some pb)).trans (fillTo_grown wr pb (given us (l.take l.length)) 16))
      have t0 := (hT 0 (by decide)).1
      have z0 := (hP.used 0 (by decide)).2
      have s0 := (hP.used 0 (by decide)).1
      have t1 := (hT 1 (by decide)).1
      have z1 := (hP.used 1 (by decide)).2
      have s1 := (hP.used 1 (by decide)).1
      have t2 := (hT 2 (by decide)).1
      have z2 := (hP.used 2 (by decide)).2
      have s2 := (hP.used 2 (by decide)).1
      have t3 := (hT 3 (by decide)).1
      have z3 := (hP.used 3 (by decide)).2
      have s3 := (hP.used 3 (by decide)).1
      have t4 := (hT 4 (by decide)).1
      have z4 := (hP.used 4 (by decide)).2
      have s4 := (hP.used 4 (by decide)).1
      have t5 := (hT 5 (by decide)).1
      have z5 := (hP.used 5 (by decide)).2
      have s5 := (hP.used 5 (by decide)).1
      have t6 := (hT 6 (by decide)).1
      have z6 := (hP.used 6 (by decide)).2
      have s6 := (hP.used 6 (by decide)).1
      have t7 := (hT 7 (by decide)).1
      have z7 := (hP.used 7 (by decide)).2
      have s7 := (hP.used 7 (by decide)).1
      have t8 := (hT 8 (by decide)).1
      have z8 := (hP.used 8 (by decide)).2
      have s8 := (hP.used 8 (by decide)).1
      have t9 := (hT 9 (by decide)).1
      have z9 := (hP.used 9 (by decide)).2
      have s9 := (hP.used 9 (by decide)).1
      have t10 := (hT 10 (by decide)).1
      have z10 := (hP.used 10 (by decide)).2
      have s10 := (hP.used 10 (by decide)).1
      have t11 := (hT 11 (by decide)).1
      have z11 := (hP.used 11 (by decide)).2
      have s11 := (hP.used 11 (by decide)).1
      have t12 := (hT 12 (by decide)).1
      have z12 := (hP.used 12 (by decide)).2
      have s12 := (hP.used 12 (by decide)).1
      have t13 := (hT 13 (by decide)).1
      have z13 := (hP.used 13 (by decide)).2
      have s13 := (hP.used 13 (by decide)).1
      have t14 := (hT 14 (by decide)).1
      have z14 := (hP.used 14 (by decide)).2
      have s14 := (hP.used 14 (by decide)).1
      have t15 := (hT 15 (by decide)).1
      have z15 := (hP.used 15 (by decide)).2
      have s15 := (hP.used 15 (by decide)).1
      clear hT hP hB hLn
      generalize given us (l.take l.length) = f at *
      go_wp2_with fail
      go_ret
      refine ⟨by rw [HK.out]; rfl, HG.out, ?_⟩
      rw [HO.out]
      exact HF.out
end Go.Proofs.Ythekalhceamcoaa
