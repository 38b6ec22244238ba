/- What 'DevicesSays' answers: true. -/
import Derived.Test.YthekalhceamcoaaDBoth
import Derived.Deep.RegionHeld3
namespace Go.Proofs.Ythekalhceamcoaa
open Go.RowKit
open Dvs (Dv dv0 dv nth Nodes fault first clF gvF takeF took srt usedBy cn fits kindP nameMay)
set_option maxRecDepth 100000 in
set_option maxHeartbeats 8000000 in
theorem devicesSays_any (ao1 : Option Addr) (cd b o : Nat) (ds0 : List Dv) (aa : Option Addr) (an ca : Nat) (w : World) (hD : DevsAt w (.slice ao1 ds0.length cd) b o ds0) (hA : RowsOf w (.slice aa an ca) 10 (actP w)) :
    Calls Try.prog 5 #[.slice ao1 ds0.length cd, .slice aa an ca] w fun e w' => e = .returned (.bool true) ∧ Below w.heap.size w w' := by
  have HD := hideIt hD
  have HA := hideIt hA
  have HPo := hideIt (pools_true w)
  have hlen : an ≤ 9223372036854775807 := by
    obtain ⟨_, _, _, hv, hm, _⟩ := hA
    cases hv
    exact hm
  clear hD hA
  by_cases h20 : 20 < ds0.length
  · go_enter Try.func5, Try.ntmps5
    go_wp2_with fail
    refine HPo.out.mono ?_
    rintro e w1 ⟨rfl, hb1⟩
    go_wp2_with fail
    go_ret
    exact ⟨rfl, hb1⟩
  have h20' : ds0.length ≤ 20 := by omega
  have hd20 : decide (20 < (ds0.length : Int)) = false := decide_eq_false (by omega)
  clear h20
  go_enter Try.func5, Try.ntmps5
  go_wp2_with fail
  refine HPo.out.mono ?_
  rintro e w1 ⟨rfl, hb1⟩
  have HB1 := hideIt hb1
  have HD1 := hideIt (HD.out.below hb1)
  have HA1 := hideIt (acts_below HA.out hb1)
  clear hb1 HPo
  go_wp2_with fail
  refine (lightActs_any _ 60 _ HA1.out).mono ?_
  rintro e w2 ⟨⟨b2, rfl⟩, hb2⟩
  have HB2 := hideIt (HB1.out.trans (hb2.mono HB1.out.size))
  have HD2 := hideIt (HD1.out.below hb2)
  have HA2 := hideIt (acts_below HA1.out hb2)
  clear hb2 HB1 HD1 HA1
  rcases two b2 with e2 | e2
  case inr =>
    subst e2
    go_wp2_with fail
    go_ret
    exact ⟨rfl, HB2.out⟩
  subst e2
  go_wp2_with fail
  go_loop [6] (fun i => ∃ k : Nat, k ≤ ds0.length ∧ i = .int .i64 k) (fun i => ds0.length - (intOf i).toNat)
  case atStart => exact ⟨0, by omega, rfl⟩
  case round =>
    obtain ⟨k, hk, rfl⟩ := hrel
    by_cases hlt : k < ds0.length
    · obtain ⟨a', c', hv, hcs⟩ := HD2.out
      cases hv
      obtain ⟨rfl, hlb, hcs⟩ := hcs (by omega)
      obtain ⟨c0, _, _⟩ := hcs k hlt
      clear hcs
      generalize (dv ds0 k).kind = xk at *
      by_cases h30 : 30 < xk.size
      · go_wp2_with fail
        go_ret
        exact ⟨rfl, HB2.out⟩
      have h30' : xk.size ≤ 30 := by omega
      clear h30
      go_wp2_with fail
      go_round
      case rel => exact ⟨k + 1, by omega, by go_num⟩
      case measure => simp [intOf]; omega
    · have hke : k = ds0.length := by omega
      subst hke
      go_wp2_with fail
      refine (new_anyD _ b o ds0 _ HD2.out).mono ?_
      rintro e w3 ⟨hgood, hbad, hb3⟩
      have HD3 := hideIt (HD2.out.below hb3)
      have HNw := hideIt (newPool_any _ b o ds0 _ HD3.out)
      by_cases hf : fault ds0 = 0
      case neg =>
        obtain rfl := hbad hf
        have HB3 := hideIt (HB2.out.trans (hb3.mono HB2.out.size))
        have hfp : 0 < fault ds0 := by omega
        have HSm := hideIt (fun W => same_err (fault ds0) W)
        rw [errV_pos hf] at HSm
        rw [show ((fun n : Nat => errV n) (fault ds0)) = Value.iface 133 (.int .i64 (fault ds0 : Nat)) from errV_pos hf]
        clear hgood hbad hb3 hf
        go_wp2_with fail
        refine HNw.out.mono ?_
        rintro e w4 ⟨_, hbad4, hb4⟩
        obtain rfl := hbad4 (by omega)
        have HB4 := hideIt (HB3.out.trans (hb4.mono HB3.out.size))
        clear hbad4 hb4 HB3 HNw
        generalize fault ds0 = f at *
        go_wp2_with fail
        refine (HSm.out _).mono ?_
        rintro e w5 ⟨rfl, rfl⟩
        go_wp2_with fail
        go_ret
        exact ⟨rfl, HB4.out⟩
      case pos =>
        obtain ⟨p, rfl, hnp⟩ := hgood hf
        have HF := hideIt hf
        have HNP := hideIt (And.intro hnp hb3)
        clear hgood hbad hb3 hf hnp
        rw [show ((fun n : Nat => errV n) 0) = Value.nilIface from rfl]
        go_wp2_with fail
        refine HNw.out.mono ?_
        rintro e w4 ⟨hgood4, _, hb4⟩
        obtain ⟨m, rfl, hnm⟩ := hgood4 HF.out
        obtain ⟨pb, db, ao, c, rb, eb, ao2, c2, rfl, rfl, hBo⟩ := NewedD.both HB2.out HNP.out.1 HNP.out.2 hnm hb4 HF.out
        have HBo := hideIt hBo
        clear hgood4 hb4 hnm HNP HNw HF HD3 hBo
        rw [show ((fun n : Nat => Value.int .i64 n) 0) = Value.int .i64 0 from rfl]
        go_wp2_with fail
        go_loopw [11] (fun i wr => ∃ k : Nat, k ≤ an ∧ i = .int .i64 k ∧ ∃ ds us, ds.length = ds0.length ∧ Both w wr pb db ao c rb eb ao2 c2 ds us) (fun i _ => an - (intOf i).toNat)
        case atStart => exact ⟨0, by omega, rfl, ds0, _, rfl, HBo.out⟩
        case round =>
          clear HBo
          obtain ⟨k, hk, rfl, ds, us, hdl, hBo⟩ := hrel
          have HDl := hideIt hdl
          clear hdl
          have HBo := hideIt hBo
          by_cases hlt : k < an
          · obtain ⟨aa', an', ca', hv, q0, hr⟩ := HA.out
            cases hv
            obtain ⟨ab, ai, rfl, hab, hcs⟩ := hr (by omega)
            obtain ⟨cs, q1, hc, kd, s, xa, xb, m, lv, nm, pr, cv, uv, rfl, hm8, hlv, hcv, huv⟩ := hcs k hlt
            obtain ⟨lx, lg, lo, HNx, hlg, hlx⟩ := nums_of hlv
            obtain ⟨lva, lvl, lvc, rfl, q2, q3⟩ := hlv
            obtain ⟨cva, cvl, cvc, rfl, q4, q5⟩ := hcv
            obtain ⟨uva, uvl, uvc, rfl, q6, q7⟩ := huv
            have z0 : wr.cell? ⟨ab, ai + k * 10, none⟩ = some (.string kd) := (hBo.below.cell (p := ⟨ab, ai + k * 10, none⟩) hab).trans (hc 0 (by decide))
            have z1 : wr.cell? ⟨ab, ai + k * 10 + 1, none⟩ = some (.string s) := (hBo.below.cell (p := ⟨ab, ai + k * 10 + 1, none⟩) hab).trans (hc 1 (by decide))
            have z2 : wr.cell? ⟨ab, ai + k * 10 + 2, none⟩ = some (.int .i64 xa) := (hBo.below.cell (p := ⟨ab, ai + k * 10 + 2, none⟩) hab).trans (hc 2 (by decide))
            have z3 : wr.cell? ⟨ab, ai + k * 10 + 3, none⟩ = some (.int .i64 xb) := (hBo.below.cell (p := ⟨ab, ai + k * 10 + 3, none⟩) hab).trans (hc 3 (by decide))
            have z4 : wr.cell? ⟨ab, ai + k * 10 + 4, none⟩ = some (.int .u8 m) := (hBo.below.cell (p := ⟨ab, ai + k * 10 + 4, none⟩) hab).trans (hc 4 (by decide))
            have z5 : wr.cell? ⟨ab, ai + k * 10 + 5, none⟩ = some (.slice lva lvl lvc) := (hBo.below.cell (p := ⟨ab, ai + k * 10 + 5, none⟩) hab).trans (hc 5 (by decide))
            have z6 : wr.cell? ⟨ab, ai + k * 10 + 6, none⟩ = some (.string nm) := (hBo.below.cell (p := ⟨ab, ai + k * 10 + 6, none⟩) hab).trans (hc 6 (by decide))
            have z7 : wr.cell? ⟨ab, ai + k * 10 + 7, none⟩ = some (.int .i64 pr) := (hBo.below.cell (p := ⟨ab, ai + k * 10 + 7, none⟩) hab).trans (hc 7 (by decide))
            have z8 : wr.cell? ⟨ab, ai + k * 10 + 8, none⟩ = some (.slice cva cvl cvc) := (hBo.below.cell (p := ⟨ab, ai + k * 10 + 8, none⟩) hab).trans (hc 8 (by decide))
            have z9 : wr.cell? ⟨ab, ai + k * 10 + 9, none⟩ = some (.slice uva uvl uvc) := (hBo.below.cell (p := ⟨ab, ai + k * 10 + 9, none⟩) hab).trans (hc 9 (by decide))
            have HAt := hideIt (ActAt.made wr kd s xa xb m (.slice lva lvl lvc) (.string nm) (.int .i64 pr) (.slice cva cvl cvc) (.slice uva uvl uvc) 63)
            have HB := hideIt (HBo.out.alloc (.cells #[.string kd, .string s, .int .i64 xa, .int .i64 xb, .int .u8 m, .slice lva lvl lvc, .string nm, .int .i64 pr, .slice cva cvl cvc, .slice uva uvl uvc] 63))
            have HNx := hideIt HNx
            have HLg := hideIt hlg
            have HZ : Hid (pb < wr.heap.size ∧ rb < wr.heap.size ∧ (0 < ds.length → db < wr.heap.size ∧ eb < wr.heap.size)) := ⟨hBo.p.lt, hBo.m.lt, fun h0 => ⟨(hBo.p.at0 h0).2.2, (hBo.m.at0 h0).2.2⟩⟩
            have hsz := hBo.below.size
            clear hc hcs hr hBo HBo q0 q1 q2 q3 q4 q5 q6 q7 hlg
            rcases two (kd.toList == [116, 97, 107, 101]) with hk1 | hk1
            · go_wp2_with fail
              refine (takeD_any s xa m _ pb db ao c ds us HB.out.p HB.out.nodes hm8).mono ?_
              rintro e w5 ⟨hbad5, hgood5, hg5⟩
              have HAt5 := hideIt (HAt.out.kept hg5 (by have := HZ.out.1; simp; omega))
              by_cases hf : takeF ds us s xa = 0
              · obtain ⟨v5, g5, rfl, hn5, hge5, hP5⟩ := hgood5 hf
                have hm5 := HB.out.other hg5
                have HR := hideIt (refTake_any s xa m w5 rb eb ao2 c2 ds us hm5 HB.out.nodes hm8)
                have HN5 := hideIt hn5
                have HG5 := hideIt hg5
                have HP5 := hideIt hP5
                have HGe := hideIt hge5
                have HF := hideIt hf
                have t1 := HAt5.out.s
                have t2 := HAt5.out.a
                have t3 := HAt5.out.m
                have HAx := hideIt HAt.out
                obtain ⟨a5, l5, rfl, _⟩ := hn5
                rw [show ((fun n : Nat => errV n) 0) = Value.nilIface from rfl]
                clear hbad5 hgood5 hg5 hP5 hge5 hf hm5
                go_wp2_with fail
                refine HR.out.mono ?_
                rintro e w6 ⟨_, hgood6, hg6⟩
                obtain ⟨v6, g6, rfl, hn6, hge6, hP6⟩ := hgood6 HF.out
                have HB6 := hideIt (HB.out.step HG5.out HP5.out hg6 hP6)
                have HAt6 := hideIt (HAt5.out.kept hg6 (by have := HZ.out.2.1; simp; omega))
                have HNa := hideIt (HN5.out.kept hg6 (fun h0 => by rw [ints_len] at h0; have q1 := HGe.out h0; have q2 := HZ.out.2.1; simp at q1 ⊢; omega))
                have HNb := hideIt hn6
                obtain ⟨a6, l6, rfl, _⟩ := hn6
                have hsl : (ints (srt (took ds us s m xa.toNat))).length ≤ 16 := by rw [ints_len]; exact Dvs.sel_le _ 16
                rw [show ((fun n : Nat => Value.int .i64 n) 0) = Value.int .i64 0 from rfl]
                clear hgood6 hg6 hP6 hge6 HR HN5 HG5 HP5 HGe HB HAt HAt5 HAx t1 t2 t3 HF
                generalize ints (srt (took ds us s m xa.toNat)) = L at *
                go_wp2_with fail
                refine (sameNums_any _ _ _ _ _ _ L _ HNa.out HNb.out (by omega)).mono ?_
                rintro e w7 ⟨rfl, n7, rfl⟩
                have HB7 := hideIt (HB6.out.drewN n7)
                have HAt7 := hideIt (HAt6.out.below (below_drewN (Below.refl _ _) n7))
                clear HB6 HAt6 HNa HNb
                go_wp2_with fail
                refine (same_zeroD _).mono ?_
                rintro e w8 ⟨rfl, rfl⟩
                have hs0 := HAt7.out.s
                have HCt := hideIt (count_anyD s _ pb db ao c ds (usedBy us (took ds us s m xa.toNat)) HB7.out.p HB7.out.nodes)
                unfold fourV at HCt
                simp only at HCt
                have HCr : Hid (∀ W, PoolAt W rb eb ao2 c2 ds (usedBy us (took ds us s m xa.toNat)) → Calls Try.prog 38 #[.pointer (some ⟨rb, 0, none⟩), .string s] W fun e w' => e = .returned (.tuple #[fourV (fun x => cn (fits ds (usedBy us (took ds us s m xa.toNat)) s) ds x ds.length), fourV (fun x => cn (kindP ds s) ds x ds.length)]) ∧ Below W.heap.size W w') := fun W hW => refCount_anyD s W rb eb ao2 c2 ds (usedBy us (took ds us s m xa.toNat)) hW HB7.out.nodes
                unfold fourV at HCr
                simp only at HCr
                generalize cn (fits ds (usedBy us (took ds us s m xa.toNat)) s) ds 0 ds.length = n0 at HCt HCr
                generalize cn (fits ds (usedBy us (took ds us s m xa.toNat)) s) ds 1 ds.length = n1 at HCt HCr
                generalize cn (fits ds (usedBy us (took ds us s m xa.toNat)) s) ds 2 ds.length = n2 at HCt HCr
                generalize cn (fits ds (usedBy us (took ds us s m xa.toNat)) s) ds 3 ds.length = n3 at HCt HCr
                generalize cn (kindP ds s) ds 0 ds.length = m0 at HCt HCr
                generalize cn (kindP ds s) ds 1 ds.length = m1 at HCt HCr
                generalize cn (kindP ds s) ds 2 ds.length = m2 at HCt HCr
                generalize cn (kindP ds s) ds 3 ds.length = m3 at HCt HCr
                go_wp2_with fail
                refine HCt.out.mono ?_
                rintro e x1 ⟨rfl, hx1⟩
                have hy1 := ((Below.refl x1.heap.size x1).alloc (Nat.le_refl _) (.cells #[.int .i64 n0, .int .i64 n1, .int .i64 n2, .int .i64 n3] 76)).alloc (by simp) (.cells #[.int .i64 m0, .int .i64 m1, .int .i64 m2, .int .i64 m3] 76)
                have XB := hideIt ((HB7.out.grows hx1).grows hy1)
                have XA := hideIt ((HAt7.out.below hx1).below hy1)
                have hs1 := XA.out.s
                have XF : Hid (FourAt ((x1.alloc (.cells #[.int .i64 n0, .int .i64 n1, .int .i64 n2, .int .i64 n3] 76)).alloc (.cells #[.int .i64 m0, .int .i64 m1, .int .i64 m2, .int .i64 m3] 76)) x1.heap.size (fourF n0 n1 n2 n3) ∧ FourAt ((x1.alloc (.cells #[.int .i64 n0, .int .i64 n1, .int .i64 n2, .int .i64 n3] 76)).alloc (.cells #[.int .i64 m0, .int .i64 m1, .int .i64 m2, .int .i64 m3] 76)) (x1.heap.size + 1) (fourF m0 m1 m2 m3)) := four_two x1 n0 n1 n2 n3 m0 m1 m2 m3 76
                clear hx1 hy1 HCt HB7 HAt7 hs0
                go_wp2_with fail
                refine (HCr.out _ XB.out.m).mono ?_
                rintro e x2 ⟨rfl, hx2⟩
                have hy2 := ((Below.refl x2.heap.size x2).alloc (Nat.le_refl _) (.cells #[.int .i64 n0, .int .i64 n1, .int .i64 n2, .int .i64 n3] 76)).alloc (by simp) (.cells #[.int .i64 m0, .int .i64 m1, .int .i64 m2, .int .i64 m3] 76)
                have YB := hideIt ((XB.out.grows hx2).grows hy2)
                have YA := hideIt ((XA.out.below hx2).below hy2)
                obtain ⟨F1, F2⟩ := XF.out
                have F1 := (F1.below hx2).below hy2
                have F2 := (F2.below hx2).below hy2
                have hs2 := YA.out.s
                have f0 : _ = some (Value.int .i64 n0) := (F1 0 (by decide)).1
                have f1 : _ = some (Value.int .i64 n1) := (F1 1 (by decide)).1
                have f2 : _ = some (Value.int .i64 n2) := (F1 2 (by decide)).1
                have f3 : _ = some (Value.int .i64 n3) := (F1 3 (by decide)).1
                have g0 : _ = some (Value.int .i64 m0) := (F2 0 (by decide)).1
                have g1 : _ = some (Value.int .i64 m1) := (F2 1 (by decide)).1
                have g2 : _ = some (Value.int .i64 m2) := (F2 2 (by decide)).1
                have g3 : _ = some (Value.int .i64 m3) := (F2 3 (by decide)).1
                have q4 := eq4D n0 n1 n2 n3
                have q5 := eq4D m0 m1 m2 m3
                clear hx2 hy2 HCr XB XA XF hs1 F1 F2
                go_wp2_with fail
                go_quiet (first | exact Calls.quiet_of_same (name_any _ _) | exact Calls.quiet_of_same (may_any _ _))
                go_wp2_with fail
                go_roundw
                case rel => exact ⟨k + 1, by omega, by go_num, ds, (usedBy us (took ds us s m xa.toNat)), HDl.out, YB.out.drewN _⟩
                case measure => simp [intOf]; omega
              · obtain ⟨rfl, hb5⟩ := hbad5 hf
                have HB5 := hideIt (HB.out.grows hb5)
                have HR := hideIt (refTake_any s xa m w5 rb eb ao2 c2 ds us HB5.out.m HB.out.nodes hm8)
                have HF := hideIt hf
                have t1 := HAt5.out.s
                have t2 := HAt5.out.a
                have t3 := HAt5.out.m
                have HSm := hideIt (fun W => same_err (takeF ds us s xa) W)
                rw [errV_pos hf] at HSm
                rw [show ((fun n : Nat => errV n) (takeF ds us s xa)) = Value.iface 133 (.int .i64 (takeF ds us s xa : Nat)) from errV_pos hf]
                clear hbad5 hgood5 hg5 hb5 hf
                go_wp2_with fail
                refine HR.out.mono ?_
                rintro e w6 ⟨hbad6, _, _⟩
                obtain ⟨rfl, hb6⟩ := hbad6 HF.out
                have HB6 := hideIt (HB5.out.grows hb6)
                have HAt6 := hideIt (HAt5.out.below hb6)
                have hN0 : Hid (NumsAt w6 (.slice none 0 0) 0 0 []) := ⟨none, 0, rfl, fun h => by simp at h⟩
                clear hbad6 hb6 HR HB5 HAt5 t1 t2 t3 HB HAt HF
                generalize takeF ds us s xa = f at *
                go_wp2_with fail
                refine (sameNums_any _ _ _ _ _ _ [] _ hN0.out hN0.out (by decide)).mono ?_
                rintro e w7 ⟨rfl, n7, rfl⟩
                have HB7 := hideIt (HB6.out.drewN n7)
                have HAt7 := hideIt (HAt6.out.below (below_drewN (Below.refl _ _) n7))
                clear HB6 HAt6 hN0
                go_wp2_with fail
                refine (HSm.out _).mono ?_
                rintro e w8 ⟨rfl, rfl⟩
                have hs0 := HAt7.out.s
                have HCt := hideIt (count_anyD s _ pb db ao c ds us HB7.out.p HB7.out.nodes)
                unfold fourV at HCt
                simp only at HCt
                have HCr : Hid (∀ W, PoolAt W rb eb ao2 c2 ds us → Calls Try.prog 38 #[.pointer (some ⟨rb, 0, none⟩), .string s] W fun e w' => e = .returned (.tuple #[fourV (fun x => cn (fits ds us s) ds x ds.length), fourV (fun x => cn (kindP ds s) ds x ds.length)]) ∧ Below W.heap.size W w') := fun W hW => refCount_anyD s W rb eb ao2 c2 ds us hW HB7.out.nodes
                unfold fourV at HCr
                simp only at HCr
                generalize cn (fits ds us s) ds 0 ds.length = n0 at HCt HCr
                generalize cn (fits ds us s) ds 1 ds.length = n1 at HCt HCr
                generalize cn (fits ds us s) ds 2 ds.length = n2 at HCt HCr
                generalize cn (fits ds us s) ds 3 ds.length = n3 at HCt HCr
                generalize cn (kindP ds s) ds 0 ds.length = m0 at HCt HCr
                generalize cn (kindP ds s) ds 1 ds.length = m1 at HCt HCr
                generalize cn (kindP ds s) ds 2 ds.length = m2 at HCt HCr
                generalize cn (kindP ds s) ds 3 ds.length = m3 at HCt HCr
                go_wp2_with fail
                refine HCt.out.mono ?_
                rintro e x1 ⟨rfl, hx1⟩
                have hy1 := ((Below.refl x1.heap.size x1).alloc (Nat.le_refl _) (.cells #[.int .i64 n0, .int .i64 n1, .int .i64 n2, .int .i64 n3] 76)).alloc (by simp) (.cells #[.int .i64 m0, .int .i64 m1, .int .i64 m2, .int .i64 m3] 76)
                have XB := hideIt ((HB7.out.grows hx1).grows hy1)
                have XA := hideIt ((HAt7.out.below hx1).below hy1)
                have hs1 := XA.out.s
                have XF : Hid (FourAt ((x1.alloc (.cells #[.int .i64 n0, .int .i64 n1, .int .i64 n2, .int .i64 n3] 76)).alloc (.cells #[.int .i64 m0, .int .i64 m1, .int .i64 m2, .int .i64 m3] 76)) x1.heap.size (fourF n0 n1 n2 n3) ∧ FourAt ((x1.alloc (.cells #[.int .i64 n0, .int .i64 n1, .int .i64 n2, .int .i64 n3] 76)).alloc (.cells #[.int .i64 m0, .int .i64 m1, .int .i64 m2, .int .i64 m3] 76)) (x1.heap.size + 1) (fourF m0 m1 m2 m3)) := four_two x1 n0 n1 n2 n3 m0 m1 m2 m3 76
                clear hx1 hy1 HCt HB7 HAt7 hs0
                go_wp2_with fail
                refine (HCr.out _ XB.out.m).mono ?_
                rintro e x2 ⟨rfl, hx2⟩
                have hy2 := ((Below.refl x2.heap.size x2).alloc (Nat.le_refl _) (.cells #[.int .i64 n0, .int .i64 n1, .int .i64 n2, .int .i64 n3] 76)).alloc (by simp) (.cells #[.int .i64 m0, .int .i64 m1, .int .i64 m2, .int .i64 m3] 76)
                have YB := hideIt ((XB.out.grows hx2).grows hy2)
                have YA := hideIt ((XA.out.below hx2).below hy2)
                obtain ⟨F1, F2⟩ := XF.out
                have F1 := (F1.below hx2).below hy2
                have F2 := (F2.below hx2).below hy2
                have hs2 := YA.out.s
                have f0 : _ = some (Value.int .i64 n0) := (F1 0 (by decide)).1
                have f1 : _ = some (Value.int .i64 n1) := (F1 1 (by decide)).1
                have f2 : _ = some (Value.int .i64 n2) := (F1 2 (by decide)).1
                have f3 : _ = some (Value.int .i64 n3) := (F1 3 (by decide)).1
                have g0 : _ = some (Value.int .i64 m0) := (F2 0 (by decide)).1
                have g1 : _ = some (Value.int .i64 m1) := (F2 1 (by decide)).1
                have g2 : _ = some (Value.int .i64 m2) := (F2 2 (by decide)).1
                have g3 : _ = some (Value.int .i64 m3) := (F2 3 (by decide)).1
                have q4 := eq4D n0 n1 n2 n3
                have q5 := eq4D m0 m1 m2 m3
                clear hx2 hy2 HCr XB XA XF hs1 F1 F2
                go_wp2_with fail
                go_quiet (first | exact Calls.quiet_of_same (name_any _ _) | exact Calls.quiet_of_same (may_any _ _))
                go_wp2_with fail
                go_roundw
                case rel => exact ⟨k + 1, by omega, by go_num, ds, us, HDl.out, YB.out.drewN _⟩
                case measure => simp [intOf]; omega
            rcases two (kd.toList == [99, 108, 97, 105, 109]) with hk2 | hk2
            · have HBd := hideIt HB.out.drew
              have HAd := hideIt (HAt.out.below (below_drew (Below.refl _ _)))
              have HSm := hideIt (fun W => same_err (first (clF ds.length us lx) lx.length) W)
              go_wp2_with fail
              refine wp_region_held_drew (S := (fun w' => w'.cell? ⟨wr.heap.size, 5, none⟩ = some (.slice lva lvl lvc))) (by kernel_rfl) HAd.out.l (fun hHeld => ?_)
              refine wpAnyH_take (i := 0) (oi := { dst := some 152, op := Op.move (Operand.tmp 7), type := 51, pos := "parts.go:309", after := #[], guard := none }) (v := ?v1x0) rfl (by kernel_rfl) (by kernel_rfl) (by kernel_rfl) (fun _ _ _ h => h) (Or.inl ⟨by rfl, ?h1x0⟩) (by assumption) ?r1x0
              case h1x0 =>
                intro w' hSw
                (try dsimp only at hSw)
                go_simp
                first | done | with_reducible rfl | rfl
              (try simp only [Act.put, List.setIfInBounds_toArray, List.set_cons_zero, List.set_cons_succ])
              refine wpAnyH_take (i := 1) (oi := { dst := some 153, op := Op.fieldAddr 63 (Operand.tmp 12) 5, type := 0, pos := "parts.go:309", after := #[], guard := none }) (v := ?v2x1) rfl (by kernel_rfl) (by kernel_rfl) (by kernel_rfl) (fun _ _ _ h => h) (Or.inl ⟨by rfl, ?h2x1⟩) (by assumption) ?r2x1
              case h2x1 =>
                intro w' hSw
                (try dsimp only at hSw)
                go_simp
                first | done | with_reducible rfl | rfl
              (try simp only [Act.put, List.setIfInBounds_toArray, List.set_cons_zero, List.set_cons_succ])
              refine wpAnyH_take (i := 2) (oi := { dst := some 154, op := Op.load 57 (Operand.tmp 153), type := 57, pos := "parts.go:309", after := #[{ on := 1, ground := Ground.data }], guard := none }) (v := ?v3x2) rfl (by kernel_rfl) (by kernel_rfl) (by kernel_rfl) (fun _ _ _ h => h) (Or.inl ⟨by rfl, ?h3x2⟩) (by assumption) ?r3x2
              case h3x2 =>
                intro w' hSw
                (try dsimp only at hSw)
                go_simp
                first | done | with_reducible rfl | rfl
              (try simp only [Act.put, List.setIfInBounds_toArray, List.set_cons_zero, List.set_cons_succ])
              refine wpAnyH_take (i := 4) (oi := { dst := some 156, op := Op.move (Operand.tmp 9), type := 54, pos := "parts.go:309", after := #[], guard := none }) (v := ?v4x4) rfl (by kernel_rfl) (by kernel_rfl) (by kernel_rfl) (fun _ _ _ h => h) (Or.inl ⟨by rfl, ?h4x4⟩) (by assumption) ?r4x4
              case h4x4 =>
                intro w' hSw
                (try dsimp only at hSw)
                go_simp
                first | done | with_reducible rfl | rfl
              (try simp only [Act.put, List.setIfInBounds_toArray, List.set_cons_zero, List.set_cons_succ])
              refine wpAnyH_take (i := 5) (oi := { dst := some 157, op := Op.fieldAddr 63 (Operand.tmp 12) 5, type := 0, pos := "parts.go:309", after := #[], guard := none }) (v := ?v5x5) rfl (by kernel_rfl) (by kernel_rfl) (by kernel_rfl) (fun _ _ _ h => h) (Or.inl ⟨by rfl, ?h5x5⟩) (by assumption) ?r5x5
              case h5x5 =>
                intro w' hSw
                (try dsimp only at hSw)
                go_simp
                first | done | with_reducible rfl | rfl
              (try simp only [Act.put, List.setIfInBounds_toArray, List.set_cons_zero, List.set_cons_succ])
              refine wpAnyH_take (i := 6) (oi := { dst := some 158, op := Op.load 57 (Operand.tmp 157), type := 57, pos := "parts.go:309", after := #[{ on := 5, ground := Ground.data }], guard := none }) (v := ?v6x6) rfl (by kernel_rfl) (by kernel_rfl) (by kernel_rfl) (fun _ _ _ h => h) (Or.inl ⟨by rfl, ?h6x6⟩) (by assumption) ?r6x6
              case h6x6 =>
                intro w' hSw
                (try dsimp only at hSw)
                go_simp
                first | done | with_reducible rfl | rfl
              (try simp only [Act.put, List.setIfInBounds_toArray, List.set_cons_zero, List.set_cons_succ])
              refine wpAnyH_ready (rs := [3]) (by kernel_rfl) (by simp) (AllReadyH.cons rfl (fun K hK => ?_) AllReadyH.nil)
              go_simp
              go_wp2_with fail
              refine (claim_any _ lg lo lx _ pb db ao c ds us HBd.out.p HBd.out.nodes (HNx.out.below HBd.out.below) hlx).mono ?_
              rintro e w5 ⟨rfl, hg5, hP5⟩
              have HG5 := hideIt hg5
              have HP5 := hideIt hP5
              have HM5 := hideIt (HBd.out.other hg5)
              have HA5 := hideIt (HAd.out.kept hg5 (by have := HZ.out.1; simp; omega))
              have HN5 := hideIt (HNx.out.below (HBd.out.below.trans (below_grown hg5 (K := w.heap.size) HBd.out.below.size (fun j hj => by cases hj; exact HBd.out.apart.lp))))
              clear hg5 hP5
              go_wp2_with fail
              refine hK.out _ _ HA5.out.l (fun hHeld => ?_)
              clear hK K
              refine wpAnyH_ready (rs := [7]) (by kernel_rfl) (by simp) (AllReadyH.cons rfl (fun K hK => ?_) AllReadyH.nil)
              go_simp
              go_wp2_with fail
              refine (refClaim_any _ lg lo lx _ rb eb ao2 c2 ds us HM5.out HBd.out.nodes HN5.out hlx (fun h0 => by have := HLg.out h0; have := HBd.out.apart.lr; omega)).mono ?_
              rintro e w6 ⟨rfl, hg6, hP6⟩
              have HB6 := hideIt (HBd.out.step HG5.out HP5.out hg6 hP6)
              have HA6 := hideIt (HA5.out.kept hg6 (by have := HZ.out.2.1; simp; omega))
              clear hg6 hP6 HM5 HN5
              go_wp2_with fail
              refine hK.out _ _ HA6.out.l (fun hHeld => ?_)
              clear hK K
              refine wpAnyH_ready (rs := [8]) (by kernel_rfl) (by simp) (AllReadyH.cons rfl (fun K hK => ?_) AllReadyH.nil)
              go_simp
              go_wp2_with fail
              refine (HSm.out _).mono ?_
              rintro e w7 ⟨rfl, rfl⟩
              go_wp2_with fail
              refine hK.out _ _ HA6.out.l (fun hHeld => ?_)
              clear hK K
              refine wpAnyH_take (i := 9) (oi := { dst := some 13, op := Op.assign (Operand.tmp 160), type := 4, pos := "parts.go:309", after := #[{ on := 8, ground := Ground.data }, { on := 8, ground := Ground.chain }, { on := 0, ground := Ground.phase }, { on := 1, ground := Ground.phase }, { on := 2, ground := Ground.phase }, { on := 3, ground := Ground.phase }, { on := 4, ground := Ground.phase }, { on := 5, ground := Ground.phase }, { on := 6, ground := Ground.phase }, { on := 7, ground := Ground.phase }, { on := 8, ground := Ground.phase }], guard := none }) (v := ?v7x9) rfl (by kernel_rfl) (by kernel_rfl) (by kernel_rfl) (fun _ _ _ h => h) (Or.inl ⟨by rfl, ?h7x9⟩) (by assumption) ?r7x9
              case h7x9 =>
                intro w' hSw
                (try dsimp only at hSw)
                go_simp
                first | done | with_reducible rfl | rfl
              (try simp only [Act.put, List.setIfInBounds_toArray, List.set_cons_zero, List.set_cons_succ])
              refine wpAnyH_done (by kernel_rfl) ?_ _
              clear HBd HAd HG5 HP5 HA5 HB HAt HSm
              have hs0 := HA6.out.s
              have HCt := hideIt (count_anyD s _ pb db ao c ds (claimOut ds.length us lx) HB6.out.p HB6.out.nodes)
              unfold fourV at HCt
              simp only at HCt
              have HCr : Hid (∀ W, PoolAt W rb eb ao2 c2 ds (claimOut ds.length us lx) → Calls Try.prog 38 #[.pointer (some ⟨rb, 0, none⟩), .string s] W fun e w' => e = .returned (.tuple #[fourV (fun x => cn (fits ds (claimOut ds.length us lx) s) ds x ds.length), fourV (fun x => cn (kindP ds s) ds x ds.length)]) ∧ Below W.heap.size W w') := fun W hW => refCount_anyD s W rb eb ao2 c2 ds (claimOut ds.length us lx) hW HB6.out.nodes
              unfold fourV at HCr
              simp only at HCr
              generalize cn (fits ds (claimOut ds.length us lx) s) ds 0 ds.length = n0 at HCt HCr
              generalize cn (fits ds (claimOut ds.length us lx) s) ds 1 ds.length = n1 at HCt HCr
              generalize cn (fits ds (claimOut ds.length us lx) s) ds 2 ds.length = n2 at HCt HCr
              generalize cn (fits ds (claimOut ds.length us lx) s) ds 3 ds.length = n3 at HCt HCr
              generalize cn (kindP ds s) ds 0 ds.length = m0 at HCt HCr
              generalize cn (kindP ds s) ds 1 ds.length = m1 at HCt HCr
              generalize cn (kindP ds s) ds 2 ds.length = m2 at HCt HCr
              generalize cn (kindP ds s) ds 3 ds.length = m3 at HCt HCr
              go_wp2_with fail
              refine HCt.out.mono ?_
              rintro e x1 ⟨rfl, hx1⟩
              have hy1 := ((Below.refl x1.heap.size x1).alloc (Nat.le_refl _) (.cells #[.int .i64 n0, .int .i64 n1, .int .i64 n2, .int .i64 n3] 76)).alloc (by simp) (.cells #[.int .i64 m0, .int .i64 m1, .int .i64 m2, .int .i64 m3] 76)
              have XB := hideIt ((HB6.out.grows hx1).grows hy1)
              have XA := hideIt ((HA6.out.below hx1).below hy1)
              have hs1 := XA.out.s
              have XF : Hid (FourAt ((x1.alloc (.cells #[.int .i64 n0, .int .i64 n1, .int .i64 n2, .int .i64 n3] 76)).alloc (.cells #[.int .i64 m0, .int .i64 m1, .int .i64 m2, .int .i64 m3] 76)) x1.heap.size (fourF n0 n1 n2 n3) ∧ FourAt ((x1.alloc (.cells #[.int .i64 n0, .int .i64 n1, .int .i64 n2, .int .i64 n3] 76)).alloc (.cells #[.int .i64 m0, .int .i64 m1, .int .i64 m2, .int .i64 m3] 76)) (x1.heap.size + 1) (fourF m0 m1 m2 m3)) := four_two x1 n0 n1 n2 n3 m0 m1 m2 m3 76
              clear hx1 hy1 HCt HB6 HA6 hs0
              go_wp2_with fail
              refine (HCr.out _ XB.out.m).mono ?_
              rintro e x2 ⟨rfl, hx2⟩
              have hy2 := ((Below.refl x2.heap.size x2).alloc (Nat.le_refl _) (.cells #[.int .i64 n0, .int .i64 n1, .int .i64 n2, .int .i64 n3] 76)).alloc (by simp) (.cells #[.int .i64 m0, .int .i64 m1, .int .i64 m2, .int .i64 m3] 76)
              have YB := hideIt ((XB.out.grows hx2).grows hy2)
              have YA := hideIt ((XA.out.below hx2).below hy2)
              obtain ⟨F1, F2⟩ := XF.out
              have F1 := (F1.below hx2).below hy2
              have F2 := (F2.below hx2).below hy2
              have hs2 := YA.out.s
              have f0 : _ = some (Value.int .i64 n0) := (F1 0 (by decide)).1
              have f1 : _ = some (Value.int .i64 n1) := (F1 1 (by decide)).1
              have f2 : _ = some (Value.int .i64 n2) := (F1 2 (by decide)).1
              have f3 : _ = some (Value.int .i64 n3) := (F1 3 (by decide)).1
              have g0 : _ = some (Value.int .i64 m0) := (F2 0 (by decide)).1
              have g1 : _ = some (Value.int .i64 m1) := (F2 1 (by decide)).1
              have g2 : _ = some (Value.int .i64 m2) := (F2 2 (by decide)).1
              have g3 : _ = some (Value.int .i64 m3) := (F2 3 (by decide)).1
              have q4 := eq4D n0 n1 n2 n3
              have q5 := eq4D m0 m1 m2 m3
              clear hx2 hy2 HCr XB XA XF hs1 F1 F2
              go_wp2_with fail
              go_quiet (first | exact Calls.quiet_of_same (name_any _ _) | exact Calls.quiet_of_same (may_any _ _))
              go_wp2_with fail
              go_roundw
              case rel => exact ⟨k + 1, by omega, by go_num, ds, (claimOut ds.length us lx), HDl.out, YB.out.drewN _⟩
              case measure => simp [intOf]; omega
            rcases two (kd.toList == [103, 105, 118, 101]) with hk3 | hk3
            · have HBd := hideIt HB.out.drew
              have HAd := hideIt (HAt.out.below (below_drew (Below.refl _ _)))
              have HSm := hideIt (fun W => same_err (first (gvF ds.length us lx) lx.length) W)
              go_wp2_with fail
              refine wp_region_held_drew (S := (fun w' => w'.cell? ⟨wr.heap.size, 5, none⟩ = some (.slice lva lvl lvc))) (by kernel_rfl) HAd.out.l (fun hHeld => ?_)
              refine wpAnyH_take (i := 0) (oi := { dst := some 163, op := Op.move (Operand.tmp 7), type := 51, pos := "parts.go:311", after := #[], guard := none }) (v := ?v501x0) rfl (by kernel_rfl) (by kernel_rfl) (by kernel_rfl) (fun _ _ _ h => h) (Or.inl ⟨by rfl, ?h501x0⟩) (by assumption) ?r501x0
              case h501x0 =>
                intro w' hSw
                (try dsimp only at hSw)
                go_simp
                first | done | with_reducible rfl | rfl
              (try simp only [Act.put, List.setIfInBounds_toArray, List.set_cons_zero, List.set_cons_succ])
              refine wpAnyH_take (i := 1) (oi := { dst := some 164, op := Op.fieldAddr 63 (Operand.tmp 12) 5, type := 0, pos := "parts.go:311", after := #[], guard := none }) (v := ?v502x1) rfl (by kernel_rfl) (by kernel_rfl) (by kernel_rfl) (fun _ _ _ h => h) (Or.inl ⟨by rfl, ?h502x1⟩) (by assumption) ?r502x1
              case h502x1 =>
                intro w' hSw
                (try dsimp only at hSw)
                go_simp
                first | done | with_reducible rfl | rfl
              (try simp only [Act.put, List.setIfInBounds_toArray, List.set_cons_zero, List.set_cons_succ])
              refine wpAnyH_take (i := 2) (oi := { dst := some 165, op := Op.load 57 (Operand.tmp 164), type := 57, pos := "parts.go:311", after := #[{ on := 1, ground := Ground.data }], guard := none }) (v := ?v503x2) rfl (by kernel_rfl) (by kernel_rfl) (by kernel_rfl) (fun _ _ _ h => h) (Or.inl ⟨by rfl, ?h503x2⟩) (by assumption) ?r503x2
              case h503x2 =>
                intro w' hSw
                (try dsimp only at hSw)
                go_simp
                first | done | with_reducible rfl | rfl
              (try simp only [Act.put, List.setIfInBounds_toArray, List.set_cons_zero, List.set_cons_succ])
              refine wpAnyH_take (i := 4) (oi := { dst := some 167, op := Op.move (Operand.tmp 9), type := 54, pos := "parts.go:311", after := #[], guard := none }) (v := ?v504x4) rfl (by kernel_rfl) (by kernel_rfl) (by kernel_rfl) (fun _ _ _ h => h) (Or.inl ⟨by rfl, ?h504x4⟩) (by assumption) ?r504x4
              case h504x4 =>
                intro w' hSw
                (try dsimp only at hSw)
                go_simp
                first | done | with_reducible rfl | rfl
              (try simp only [Act.put, List.setIfInBounds_toArray, List.set_cons_zero, List.set_cons_succ])
              refine wpAnyH_take (i := 5) (oi := { dst := some 168, op := Op.fieldAddr 63 (Operand.tmp 12) 5, type := 0, pos := "parts.go:311", after := #[], guard := none }) (v := ?v505x5) rfl (by kernel_rfl) (by kernel_rfl) (by kernel_rfl) (fun _ _ _ h => h) (Or.inl ⟨by rfl, ?h505x5⟩) (by assumption) ?r505x5
              case h505x5 =>
                intro w' hSw
                (try dsimp only at hSw)
                go_simp
                first | done | with_reducible rfl | rfl
              (try simp only [Act.put, List.setIfInBounds_toArray, List.set_cons_zero, List.set_cons_succ])
              refine wpAnyH_take (i := 6) (oi := { dst := some 169, op := Op.load 57 (Operand.tmp 168), type := 57, pos := "parts.go:311", after := #[{ on := 5, ground := Ground.data }], guard := none }) (v := ?v506x6) rfl (by kernel_rfl) (by kernel_rfl) (by kernel_rfl) (fun _ _ _ h => h) (Or.inl ⟨by rfl, ?h506x6⟩) (by assumption) ?r506x6
              case h506x6 =>
                intro w' hSw
                (try dsimp only at hSw)
                go_simp
                first | done | with_reducible rfl | rfl
              (try simp only [Act.put, List.setIfInBounds_toArray, List.set_cons_zero, List.set_cons_succ])
              refine wpAnyH_ready (rs := [3]) (by kernel_rfl) (by simp) (AllReadyH.cons rfl (fun K hK => ?_) AllReadyH.nil)
              go_simp
              go_wp2_with fail
              refine (give_any _ lg lo lx _ pb db ao c ds us HBd.out.p HBd.out.nodes (HNx.out.below HBd.out.below) hlx).mono ?_
              rintro e w5 ⟨rfl, hg5, hP5⟩
              have HG5 := hideIt hg5
              have HP5 := hideIt hP5
              have HM5 := hideIt (HBd.out.other hg5)
              have HA5 := hideIt (HAd.out.kept hg5 (by have := HZ.out.1; simp; omega))
              have HN5 := hideIt (HNx.out.below (HBd.out.below.trans (below_grown hg5 (K := w.heap.size) HBd.out.below.size (fun j hj => by cases hj; exact HBd.out.apart.lp))))
              clear hg5 hP5
              go_wp2_with fail
              refine hK.out _ _ HA5.out.l (fun hHeld => ?_)
              clear hK K
              refine wpAnyH_ready (rs := [7]) (by kernel_rfl) (by simp) (AllReadyH.cons rfl (fun K hK => ?_) AllReadyH.nil)
              go_simp
              go_wp2_with fail
              refine (refGive_any _ lg lo lx _ rb eb ao2 c2 ds us HM5.out HBd.out.nodes HN5.out hlx (fun h0 => by have := HLg.out h0; have := HBd.out.apart.lr; omega)).mono ?_
              rintro e w6 ⟨rfl, hg6, hP6⟩
              have HB6 := hideIt (HBd.out.step HG5.out HP5.out hg6 hP6)
              have HA6 := hideIt (HA5.out.kept hg6 (by have := HZ.out.2.1; simp; omega))
              clear hg6 hP6 HM5 HN5
              go_wp2_with fail
              refine hK.out _ _ HA6.out.l (fun hHeld => ?_)
              clear hK K
              refine wpAnyH_ready (rs := [8]) (by kernel_rfl) (by simp) (AllReadyH.cons rfl (fun K hK => ?_) AllReadyH.nil)
              go_simp
              go_wp2_with fail
              refine (HSm.out _).mono ?_
              rintro e w7 ⟨rfl, rfl⟩
              go_wp2_with fail
              refine hK.out _ _ HA6.out.l (fun hHeld => ?_)
              clear hK K
              refine wpAnyH_take (i := 9) (oi := { dst := some 13, op := Op.assign (Operand.tmp 171), type := 4, pos := "parts.go:311", after := #[{ on := 8, ground := Ground.data }, { on := 8, ground := Ground.chain }, { on := 0, ground := Ground.phase }, { on := 1, ground := Ground.phase }, { on := 2, ground := Ground.phase }, { on := 3, ground := Ground.phase }, { on := 4, ground := Ground.phase }, { on := 5, ground := Ground.phase }, { on := 6, ground := Ground.phase }, { on := 7, ground := Ground.phase }, { on := 8, ground := Ground.phase }], guard := none }) (v := ?v507x9) rfl (by kernel_rfl) (by kernel_rfl) (by kernel_rfl) (fun _ _ _ h => h) (Or.inl ⟨by rfl, ?h507x9⟩) (by assumption) ?r507x9
              case h507x9 =>
                intro w' hSw
                (try dsimp only at hSw)
                go_simp
                first | done | with_reducible rfl | rfl
              (try simp only [Act.put, List.setIfInBounds_toArray, List.set_cons_zero, List.set_cons_succ])
              refine wpAnyH_done (by kernel_rfl) ?_ _
              clear HBd HAd HG5 HP5 HA5 HB HAt HSm
              have hs0 := HA6.out.s
              have HCt := hideIt (count_anyD s _ pb db ao c ds (giveOut ds.length us lx) HB6.out.p HB6.out.nodes)
              unfold fourV at HCt
              simp only at HCt
              have HCr : Hid (∀ W, PoolAt W rb eb ao2 c2 ds (giveOut ds.length us lx) → Calls Try.prog 38 #[.pointer (some ⟨rb, 0, none⟩), .string s] W fun e w' => e = .returned (.tuple #[fourV (fun x => cn (fits ds (giveOut ds.length us lx) s) ds x ds.length), fourV (fun x => cn (kindP ds s) ds x ds.length)]) ∧ Below W.heap.size W w') := fun W hW => refCount_anyD s W rb eb ao2 c2 ds (giveOut ds.length us lx) hW HB6.out.nodes
              unfold fourV at HCr
              simp only at HCr
              generalize cn (fits ds (giveOut ds.length us lx) s) ds 0 ds.length = n0 at HCt HCr
              generalize cn (fits ds (giveOut ds.length us lx) s) ds 1 ds.length = n1 at HCt HCr
              generalize cn (fits ds (giveOut ds.length us lx) s) ds 2 ds.length = n2 at HCt HCr
              generalize cn (fits ds (giveOut ds.length us lx) s) ds 3 ds.length = n3 at HCt HCr
              generalize cn (kindP ds s) ds 0 ds.length = m0 at HCt HCr
              generalize cn (kindP ds s) ds 1 ds.length = m1 at HCt HCr
              generalize cn (kindP ds s) ds 2 ds.length = m2 at HCt HCr
              generalize cn (kindP ds s) ds 3 ds.length = m3 at HCt HCr
              go_wp2_with fail
              refine HCt.out.mono ?_
              rintro e x1 ⟨rfl, hx1⟩
              have hy1 := ((Below.refl x1.heap.size x1).alloc (Nat.le_refl _) (.cells #[.int .i64 n0, .int .i64 n1, .int .i64 n2, .int .i64 n3] 76)).alloc (by simp) (.cells #[.int .i64 m0, .int .i64 m1, .int .i64 m2, .int .i64 m3] 76)
              have XB := hideIt ((HB6.out.grows hx1).grows hy1)
              have XA := hideIt ((HA6.out.below hx1).below hy1)
              have hs1 := XA.out.s
              have XF : Hid (FourAt ((x1.alloc (.cells #[.int .i64 n0, .int .i64 n1, .int .i64 n2, .int .i64 n3] 76)).alloc (.cells #[.int .i64 m0, .int .i64 m1, .int .i64 m2, .int .i64 m3] 76)) x1.heap.size (fourF n0 n1 n2 n3) ∧ FourAt ((x1.alloc (.cells #[.int .i64 n0, .int .i64 n1, .int .i64 n2, .int .i64 n3] 76)).alloc (.cells #[.int .i64 m0, .int .i64 m1, .int .i64 m2, .int .i64 m3] 76)) (x1.heap.size + 1) (fourF m0 m1 m2 m3)) := four_two x1 n0 n1 n2 n3 m0 m1 m2 m3 76
              clear hx1 hy1 HCt HB6 HA6 hs0
              go_wp2_with fail
              refine (HCr.out _ XB.out.m).mono ?_
              rintro e x2 ⟨rfl, hx2⟩
              have hy2 := ((Below.refl x2.heap.size x2).alloc (Nat.le_refl _) (.cells #[.int .i64 n0, .int .i64 n1, .int .i64 n2, .int .i64 n3] 76)).alloc (by simp) (.cells #[.int .i64 m0, .int .i64 m1, .int .i64 m2, .int .i64 m3] 76)
              have YB := hideIt ((XB.out.grows hx2).grows hy2)
              have YA := hideIt ((XA.out.below hx2).below hy2)
              obtain ⟨F1, F2⟩ := XF.out
              have F1 := (F1.below hx2).below hy2
              have F2 := (F2.below hx2).below hy2
              have hs2 := YA.out.s
              have f0 : _ = some (Value.int .i64 n0) := (F1 0 (by decide)).1
              have f1 : _ = some (Value.int .i64 n1) := (F1 1 (by decide)).1
              have f2 : _ = some (Value.int .i64 n2) := (F1 2 (by decide)).1
              have f3 : _ = some (Value.int .i64 n3) := (F1 3 (by decide)).1
              have g0 : _ = some (Value.int .i64 m0) := (F2 0 (by decide)).1
              have g1 : _ = some (Value.int .i64 m1) := (F2 1 (by decide)).1
              have g2 : _ = some (Value.int .i64 m2) := (F2 2 (by decide)).1
              have g3 : _ = some (Value.int .i64 m3) := (F2 3 (by decide)).1
              have q4 := eq4D n0 n1 n2 n3
              have q5 := eq4D m0 m1 m2 m3
              clear hx2 hy2 HCr XB XA XF hs1 F1 F2
              go_wp2_with fail
              go_quiet (first | exact Calls.quiet_of_same (name_any _ _) | exact Calls.quiet_of_same (may_any _ _))
              go_wp2_with fail
              go_roundw
              case rel => exact ⟨k + 1, by omega, by go_num, ds, (giveOut ds.length us lx), HDl.out, YB.out.drewN _⟩
              case measure => simp [intOf]; omega
            rcases two (inBd xa ds.length) with hb | hb
            · obtain ⟨n, rfl, hnl⟩ := inB_iff hb
              have HI := hideIt (is_any n _ rb eb ao2 c2 ds us HB.out.m)
              rw [if_pos hb] at HI
              clear hb
              obtain ⟨rfl, _, _⟩ := HB.out.m.at0 (by omega)
              rcases two (kd.toList == [115, 105, 99, 107]) with hk4 | hk4
              · have HSk := hideIt (sick_yes n true _ pb db ao c ds us HB.out.p hnl)
                have HM5 := hideIt (HB.out.midSick hnl true)
                have HB5 := hideIt ((HB.out.sick hnl true).drew)
                have HA5 := hideIt (HAt.out.kept (grown_setCell _ ⟨db, n * 3 + 2, none⟩ (.bool true)) (by have := (HZ.out.2.2 (by omega)).1; simp; omega))
                have HA6 := hideIt ((HA5.out.kept (grown_setCell _ ⟨eb, n * 3 + 2, none⟩ (.bool true)) (by have := (HZ.out.2.2 (by omega)).2; simp; omega)).below (below_drew (Below.refl _ _)))
                have y1 := HM5.out.row
                obtain ⟨_, _, y2, y3⟩ := HM5.out.cells n hnl
                have y4 := HA5.out.a
                have y5 := HA5.out.k
                go_wp2_with fail
                refine HI.out.mono ?_
                rintro e w5 ⟨rfl, rfl⟩
                go_wp2_with fail
                refine HSk.out.mono ?_
                rintro e w6 ⟨rfl, rfl⟩
                go_wp2_with fail
                refine (same_zeroD _).mono ?_
                rintro e w7 ⟨rfl, rfl⟩
                go_wp2_with fail
                go_region
                clear HI HSk HM5 HA5 y1 y2 y3 y4 y5 HB HAt
                have hs0 := HA6.out.s
                have HCt := hideIt (count_anyD s _ pb db ao c (Dvs.sicken ds n true) us HB5.out.p HB5.out.nodes)
                unfold fourV at HCt
                simp only at HCt
                have HCr : Hid (∀ W, PoolAt W rb eb (some ⟨eb, 0, none⟩) c2 (Dvs.sicken ds n true) us → Calls Try.prog 38 #[.pointer (some ⟨rb, 0, none⟩), .string s] W fun e w' => e = .returned (.tuple #[fourV (fun x => cn (fits (Dvs.sicken ds n true) us s) (Dvs.sicken ds n true) x (Dvs.sicken ds n true).length), fourV (fun x => cn (kindP (Dvs.sicken ds n true) s) (Dvs.sicken ds n true) x (Dvs.sicken ds n true).length)]) ∧ Below W.heap.size W w') := fun W hW => refCount_anyD s W rb eb (some ⟨eb, 0, none⟩) c2 (Dvs.sicken ds n true) us hW HB5.out.nodes
                unfold fourV at HCr
                simp only at HCr
                generalize cn (fits (Dvs.sicken ds n true) us s) (Dvs.sicken ds n true) 0 (Dvs.sicken ds n true).length = n0 at HCt HCr
                generalize cn (fits (Dvs.sicken ds n true) us s) (Dvs.sicken ds n true) 1 (Dvs.sicken ds n true).length = n1 at HCt HCr
                generalize cn (fits (Dvs.sicken ds n true) us s) (Dvs.sicken ds n true) 2 (Dvs.sicken ds n true).length = n2 at HCt HCr
                generalize cn (fits (Dvs.sicken ds n true) us s) (Dvs.sicken ds n true) 3 (Dvs.sicken ds n true).length = n3 at HCt HCr
                generalize cn (kindP (Dvs.sicken ds n true) s) (Dvs.sicken ds n true) 0 (Dvs.sicken ds n true).length = m0 at HCt HCr
                generalize cn (kindP (Dvs.sicken ds n true) s) (Dvs.sicken ds n true) 1 (Dvs.sicken ds n true).length = m1 at HCt HCr
                generalize cn (kindP (Dvs.sicken ds n true) s) (Dvs.sicken ds n true) 2 (Dvs.sicken ds n true).length = m2 at HCt HCr
                generalize cn (kindP (Dvs.sicken ds n true) s) (Dvs.sicken ds n true) 3 (Dvs.sicken ds n true).length = m3 at HCt HCr
                go_wp2_with fail
                refine HCt.out.mono ?_
                rintro e x1 ⟨rfl, hx1⟩
                have hy1 := ((Below.refl x1.heap.size x1).alloc (Nat.le_refl _) (.cells #[.int .i64 n0, .int .i64 n1, .int .i64 n2, .int .i64 n3] 76)).alloc (by simp) (.cells #[.int .i64 m0, .int .i64 m1, .int .i64 m2, .int .i64 m3] 76)
                have XB := hideIt ((HB5.out.grows hx1).grows hy1)
                have XA := hideIt ((HA6.out.below hx1).below hy1)
                have hs1 := XA.out.s
                have XF : Hid (FourAt ((x1.alloc (.cells #[.int .i64 n0, .int .i64 n1, .int .i64 n2, .int .i64 n3] 76)).alloc (.cells #[.int .i64 m0, .int .i64 m1, .int .i64 m2, .int .i64 m3] 76)) x1.heap.size (fourF n0 n1 n2 n3) ∧ FourAt ((x1.alloc (.cells #[.int .i64 n0, .int .i64 n1, .int .i64 n2, .int .i64 n3] 76)).alloc (.cells #[.int .i64 m0, .int .i64 m1, .int .i64 m2, .int .i64 m3] 76)) (x1.heap.size + 1) (fourF m0 m1 m2 m3)) := four_two x1 n0 n1 n2 n3 m0 m1 m2 m3 76
                clear hx1 hy1 HCt HB5 HA6 hs0
                go_wp2_with fail
                refine (HCr.out _ XB.out.m).mono ?_
                rintro e x2 ⟨rfl, hx2⟩
                have hy2 := ((Below.refl x2.heap.size x2).alloc (Nat.le_refl _) (.cells #[.int .i64 n0, .int .i64 n1, .int .i64 n2, .int .i64 n3] 76)).alloc (by simp) (.cells #[.int .i64 m0, .int .i64 m1, .int .i64 m2, .int .i64 m3] 76)
                have YB := hideIt ((XB.out.grows hx2).grows hy2)
                have YA := hideIt ((XA.out.below hx2).below hy2)
                obtain ⟨F1, F2⟩ := XF.out
                have F1 := (F1.below hx2).below hy2
                have F2 := (F2.below hx2).below hy2
                have hs2 := YA.out.s
                have f0 : _ = some (Value.int .i64 n0) := (F1 0 (by decide)).1
                have f1 : _ = some (Value.int .i64 n1) := (F1 1 (by decide)).1
                have f2 : _ = some (Value.int .i64 n2) := (F1 2 (by decide)).1
                have f3 : _ = some (Value.int .i64 n3) := (F1 3 (by decide)).1
                have g0 : _ = some (Value.int .i64 m0) := (F2 0 (by decide)).1
                have g1 : _ = some (Value.int .i64 m1) := (F2 1 (by decide)).1
                have g2 : _ = some (Value.int .i64 m2) := (F2 2 (by decide)).1
                have g3 : _ = some (Value.int .i64 m3) := (F2 3 (by decide)).1
                have q4 := eq4D n0 n1 n2 n3
                have q5 := eq4D m0 m1 m2 m3
                clear hx2 hy2 HCr XB XA XF hs1 F1 F2
                go_wp2_with fail
                go_quiet (first | exact Calls.quiet_of_same (name_any _ _) | exact Calls.quiet_of_same (may_any _ _))
                go_wp2_with fail
                go_roundw
                case rel => exact ⟨k + 1, by omega, by go_num, (Dvs.sicken ds n true), us, (Dvs.sicken_len _ _ _).trans HDl.out, YB.out.drewN _⟩
                case measure => simp [intOf]; omega
              · have HSk := hideIt (sick_yes n false _ pb db ao c ds us HB.out.p hnl)
                have HM5 := hideIt (HB.out.midSick hnl false)
                have HB5 := hideIt ((HB.out.sick hnl false).drew)
                have HA5 := hideIt (HAt.out.kept (grown_setCell _ ⟨db, n * 3 + 2, none⟩ (.bool false)) (by have := (HZ.out.2.2 (by omega)).1; simp; omega))
                have HA6 := hideIt ((HA5.out.kept (grown_setCell _ ⟨eb, n * 3 + 2, none⟩ (.bool false)) (by have := (HZ.out.2.2 (by omega)).2; simp; omega)).below (below_drew (Below.refl _ _)))
                have y1 := HM5.out.row
                obtain ⟨_, _, y2, y3⟩ := HM5.out.cells n hnl
                have y4 := HA5.out.a
                have y5 := HA5.out.k
                go_wp2_with fail
                refine HI.out.mono ?_
                rintro e w5 ⟨rfl, rfl⟩
                go_wp2_with fail
                refine HSk.out.mono ?_
                rintro e w6 ⟨rfl, rfl⟩
                go_wp2_with fail
                refine (same_zeroD _).mono ?_
                rintro e w7 ⟨rfl, rfl⟩
                go_wp2_with fail
                go_region
                clear HI HSk HM5 HA5 y1 y2 y3 y4 y5 HB HAt
                have hs0 := HA6.out.s
                have HCt := hideIt (count_anyD s _ pb db ao c (Dvs.sicken ds n false) us HB5.out.p HB5.out.nodes)
                unfold fourV at HCt
                simp only at HCt
                have HCr : Hid (∀ W, PoolAt W rb eb (some ⟨eb, 0, none⟩) c2 (Dvs.sicken ds n false) us → Calls Try.prog 38 #[.pointer (some ⟨rb, 0, none⟩), .string s] W fun e w' => e = .returned (.tuple #[fourV (fun x => cn (fits (Dvs.sicken ds n false) us s) (Dvs.sicken ds n false) x (Dvs.sicken ds n false).length), fourV (fun x => cn (kindP (Dvs.sicken ds n false) s) (Dvs.sicken ds n false) x (Dvs.sicken ds n false).length)]) ∧ Below W.heap.size W w') := fun W hW => refCount_anyD s W rb eb (some ⟨eb, 0, none⟩) c2 (Dvs.sicken ds n false) us hW HB5.out.nodes
                unfold fourV at HCr
                simp only at HCr
                generalize cn (fits (Dvs.sicken ds n false) us s) (Dvs.sicken ds n false) 0 (Dvs.sicken ds n false).length = n0 at HCt HCr
                generalize cn (fits (Dvs.sicken ds n false) us s) (Dvs.sicken ds n false) 1 (Dvs.sicken ds n false).length = n1 at HCt HCr
                generalize cn (fits (Dvs.sicken ds n false) us s) (Dvs.sicken ds n false) 2 (Dvs.sicken ds n false).length = n2 at HCt HCr
                generalize cn (fits (Dvs.sicken ds n false) us s) (Dvs.sicken ds n false) 3 (Dvs.sicken ds n false).length = n3 at HCt HCr
                generalize cn (kindP (Dvs.sicken ds n false) s) (Dvs.sicken ds n false) 0 (Dvs.sicken ds n false).length = m0 at HCt HCr
                generalize cn (kindP (Dvs.sicken ds n false) s) (Dvs.sicken ds n false) 1 (Dvs.sicken ds n false).length = m1 at HCt HCr
                generalize cn (kindP (Dvs.sicken ds n false) s) (Dvs.sicken ds n false) 2 (Dvs.sicken ds n false).length = m2 at HCt HCr
                generalize cn (kindP (Dvs.sicken ds n false) s) (Dvs.sicken ds n false) 3 (Dvs.sicken ds n false).length = m3 at HCt HCr
                go_wp2_with fail
                refine HCt.out.mono ?_
                rintro e x1 ⟨rfl, hx1⟩
                have hy1 := ((Below.refl x1.heap.size x1).alloc (Nat.le_refl _) (.cells #[.int .i64 n0, .int .i64 n1, .int .i64 n2, .int .i64 n3] 76)).alloc (by simp) (.cells #[.int .i64 m0, .int .i64 m1, .int .i64 m2, .int .i64 m3] 76)
                have XB := hideIt ((HB5.out.grows hx1).grows hy1)
                have XA := hideIt ((HA6.out.below hx1).below hy1)
                have hs1 := XA.out.s
                have XF : Hid (FourAt ((x1.alloc (.cells #[.int .i64 n0, .int .i64 n1, .int .i64 n2, .int .i64 n3] 76)).alloc (.cells #[.int .i64 m0, .int .i64 m1, .int .i64 m2, .int .i64 m3] 76)) x1.heap.size (fourF n0 n1 n2 n3) ∧ FourAt ((x1.alloc (.cells #[.int .i64 n0, .int .i64 n1, .int .i64 n2, .int .i64 n3] 76)).alloc (.cells #[.int .i64 m0, .int .i64 m1, .int .i64 m2, .int .i64 m3] 76)) (x1.heap.size + 1) (fourF m0 m1 m2 m3)) := four_two x1 n0 n1 n2 n3 m0 m1 m2 m3 76
                clear hx1 hy1 HCt HB5 HA6 hs0
                go_wp2_with fail
                refine (HCr.out _ XB.out.m).mono ?_
                rintro e x2 ⟨rfl, hx2⟩
                have hy2 := ((Below.refl x2.heap.size x2).alloc (Nat.le_refl _) (.cells #[.int .i64 n0, .int .i64 n1, .int .i64 n2, .int .i64 n3] 76)).alloc (by simp) (.cells #[.int .i64 m0, .int .i64 m1, .int .i64 m2, .int .i64 m3] 76)
                have YB := hideIt ((XB.out.grows hx2).grows hy2)
                have YA := hideIt ((XA.out.below hx2).below hy2)
                obtain ⟨F1, F2⟩ := XF.out
                have F1 := (F1.below hx2).below hy2
                have F2 := (F2.below hx2).below hy2
                have hs2 := YA.out.s
                have f0 : _ = some (Value.int .i64 n0) := (F1 0 (by decide)).1
                have f1 : _ = some (Value.int .i64 n1) := (F1 1 (by decide)).1
                have f2 : _ = some (Value.int .i64 n2) := (F1 2 (by decide)).1
                have f3 : _ = some (Value.int .i64 n3) := (F1 3 (by decide)).1
                have g0 : _ = some (Value.int .i64 m0) := (F2 0 (by decide)).1
                have g1 : _ = some (Value.int .i64 m1) := (F2 1 (by decide)).1
                have g2 : _ = some (Value.int .i64 m2) := (F2 2 (by decide)).1
                have g3 : _ = some (Value.int .i64 m3) := (F2 3 (by decide)).1
                have q4 := eq4D n0 n1 n2 n3
                have q5 := eq4D m0 m1 m2 m3
                clear hx2 hy2 HCr XB XA XF hs1 F1 F2
                go_wp2_with fail
                go_quiet (first | exact Calls.quiet_of_same (name_any _ _) | exact Calls.quiet_of_same (may_any _ _))
                go_wp2_with fail
                go_roundw
                case rel => exact ⟨k + 1, by omega, by go_num, (Dvs.sicken ds n false), us, (Dvs.sicken_len _ _ _).trans HDl.out, YB.out.drewN _⟩
                case measure => simp [intOf]; omega
            · have HI := hideIt (is_any xa _ rb eb ao2 c2 ds us HB.out.m)
              rw [if_neg (by rw [hb]; simp)] at HI
              have HSk := hideIt (fun on => sick_no xa on _ pb db ao c ds us HB.out.p hb)
              clear hb
              go_wp2_with fail
              refine HI.out.mono ?_
              rintro e w5 ⟨rfl, rfl⟩
              go_wp2_with fail
              refine (HSk.out _).mono ?_
              rintro e w6 ⟨rfl, rfl⟩
              go_wp2_with fail
              refine (same_posD 1 _ (by decide)).mono ?_
              rintro e w7 ⟨rfl, rfl⟩
              clear HI HSk
              have hs0 := HAt.out.s
              have HCt := hideIt (count_anyD s _ pb db ao c ds us HB.out.p HB.out.nodes)
              unfold fourV at HCt
              simp only at HCt
              have HCr : Hid (∀ W, PoolAt W rb eb ao2 c2 ds us → Calls Try.prog 38 #[.pointer (some ⟨rb, 0, none⟩), .string s] W fun e w' => e = .returned (.tuple #[fourV (fun x => cn (fits ds us s) ds x ds.length), fourV (fun x => cn (kindP ds s) ds x ds.length)]) ∧ Below W.heap.size W w') := fun W hW => refCount_anyD s W rb eb ao2 c2 ds us hW HB.out.nodes
              unfold fourV at HCr
              simp only at HCr
              generalize cn (fits ds us s) ds 0 ds.length = n0 at HCt HCr
              generalize cn (fits ds us s) ds 1 ds.length = n1 at HCt HCr
              generalize cn (fits ds us s) ds 2 ds.length = n2 at HCt HCr
              generalize cn (fits ds us s) ds 3 ds.length = n3 at HCt HCr
              generalize cn (kindP ds s) ds 0 ds.length = m0 at HCt HCr
              generalize cn (kindP ds s) ds 1 ds.length = m1 at HCt HCr
              generalize cn (kindP ds s) ds 2 ds.length = m2 at HCt HCr
              generalize cn (kindP ds s) ds 3 ds.length = m3 at HCt HCr
              go_wp2_with fail
              refine HCt.out.mono ?_
              rintro e x1 ⟨rfl, hx1⟩
              have hy1 := ((Below.refl x1.heap.size x1).alloc (Nat.le_refl _) (.cells #[.int .i64 n0, .int .i64 n1, .int .i64 n2, .int .i64 n3] 76)).alloc (by simp) (.cells #[.int .i64 m0, .int .i64 m1, .int .i64 m2, .int .i64 m3] 76)
              have XB := hideIt ((HB.out.grows hx1).grows hy1)
              have XA := hideIt ((HAt.out.below hx1).below hy1)
              have hs1 := XA.out.s
              have XF : Hid (FourAt ((x1.alloc (.cells #[.int .i64 n0, .int .i64 n1, .int .i64 n2, .int .i64 n3] 76)).alloc (.cells #[.int .i64 m0, .int .i64 m1, .int .i64 m2, .int .i64 m3] 76)) x1.heap.size (fourF n0 n1 n2 n3) ∧ FourAt ((x1.alloc (.cells #[.int .i64 n0, .int .i64 n1, .int .i64 n2, .int .i64 n3] 76)).alloc (.cells #[.int .i64 m0, .int .i64 m1, .int .i64 m2, .int .i64 m3] 76)) (x1.heap.size + 1) (fourF m0 m1 m2 m3)) := four_two x1 n0 n1 n2 n3 m0 m1 m2 m3 76
              clear hx1 hy1 HCt HB HAt hs0
              go_wp2_with fail
              refine (HCr.out _ XB.out.m).mono ?_
              rintro e x2 ⟨rfl, hx2⟩
              have hy2 := ((Below.refl x2.heap.size x2).alloc (Nat.le_refl _) (.cells #[.int .i64 n0, .int .i64 n1, .int .i64 n2, .int .i64 n3] 76)).alloc (by simp) (.cells #[.int .i64 m0, .int .i64 m1, .int .i64 m2, .int .i64 m3] 76)
              have YB := hideIt ((XB.out.grows hx2).grows hy2)
              have YA := hideIt ((XA.out.below hx2).below hy2)
              obtain ⟨F1, F2⟩ := XF.out
              have F1 := (F1.below hx2).below hy2
              have F2 := (F2.below hx2).below hy2
              have hs2 := YA.out.s
              have f0 : _ = some (Value.int .i64 n0) := (F1 0 (by decide)).1
              have f1 : _ = some (Value.int .i64 n1) := (F1 1 (by decide)).1
              have f2 : _ = some (Value.int .i64 n2) := (F1 2 (by decide)).1
              have f3 : _ = some (Value.int .i64 n3) := (F1 3 (by decide)).1
              have g0 : _ = some (Value.int .i64 m0) := (F2 0 (by decide)).1
              have g1 : _ = some (Value.int .i64 m1) := (F2 1 (by decide)).1
              have g2 : _ = some (Value.int .i64 m2) := (F2 2 (by decide)).1
              have g3 : _ = some (Value.int .i64 m3) := (F2 3 (by decide)).1
              have q4 := eq4D n0 n1 n2 n3
              have q5 := eq4D m0 m1 m2 m3
              clear hx2 hy2 HCr XB XA XF hs1 F1 F2
              go_wp2_with fail
              go_quiet (first | exact Calls.quiet_of_same (name_any _ _) | exact Calls.quiet_of_same (may_any _ _))
              go_wp2_with fail
              go_roundw
              case rel => exact ⟨k + 1, by omega, by go_num, ds, us, HDl.out, YB.out.drewN _⟩
              case measure => simp [intOf]; omega
          · have hke : k = an := by omega
            subst hke
            have HDv := hideIt (devices_any _ pb db ao c ds us HBo.out.p HBo.out.nodes)
            have h16 := HBo.out.nodes.1
            clear hBo
            go_wp2_with fail
            refine HDv.out.mono ?_
            rintro e w5 ⟨v, rfl, hv, hb5⟩
            have HB5 := hideIt (HBo.out.grows hb5)
            obtain ⟨ao3, c3, g3, rfl, h3, hc3⟩ := hv
            have HC3 := hideIt (And.intro h3 hc3)
            have y1 := HB5.out.m.row
            clear hb5 HDv HBo h3 hc3
            go_wp2_with fail
            go_loopw [24] (fun i wr => ∃ (x : Int) (n : Nat), -1 ≤ x ∧ x ≤ ds.length + 1 ∧ i = .int .i64 x ∧ wr = w5.drewN n) (fun i _ => (ds.length + 1 - intOf i).toNat)
            case atStart => exact ⟨-1, 0, by omega, by omega, rfl, rfl⟩
            case round =>
              obtain ⟨x, n, hx0, hx1, rfl, hwr⟩ := hrel
              have HB6 : Hid (Both w wr pb db ao c rb eb ao2 c2 ds us) := by rw [hwr]; exact HB5.out.drewN n
              have HC6 : Hid (∀ a, wr.cell? a = w5.cell? a) := fun a => by rw [hwr]; rfl
              have HW := hideIt hwr
              have y7 := HB6.out.m.row
              clear hwr
              by_cases hxl : x ≤ ds.length
              · have HU := hideIt (used_any x _ pb db ao c ds us HB6.out.p h16)
                have HI := hideIt (is_any x _ rb eb ao2 c2 ds us HB6.out.m)
                rcases two (inBd x ds.length) with hb | hb
                · rw [if_pos hb] at HU HI
                  obtain ⟨j, rfl, hjl⟩ := inB_iff hb
                  have hj16 : j < 16 := by omega
                  obtain ⟨e1, e2, e3⟩ := HC3.out.1 (by omega)
                  obtain ⟨e4, e5, e6, _⟩ := HC3.out.2 j hjl
                  rw [← HC6.out] at e4 e5 e6
                  subst e1
                  have y2 := (HB6.out.m.used j hj16).1
                  obtain ⟨e7, e8, e9⟩ := HB6.out.m.at0 (by omega)
                  subst e7
                  obtain ⟨y4, y5, y6, _⟩ := HB6.out.m.cells j hjl
                  generalize (dv ds j).kind = xk at *
                  generalize (dv ds j).node = xn at *
                  generalize (dv ds j).sick = xs at *
                  rw [Int.toNat_natCast] at HU
                  generalize us j = uj at *
                  clear hb y1
                  go_wp2_with fail
                  refine HU.out.mono ?_
                  rintro e w6 ⟨rfl, rfl⟩
                  go_wp2_with fail
                  refine HI.out.mono ?_
                  rintro e w7 ⟨rfl, rfl⟩
                  go_wp2_with fail
                  go_quiet (exact Calls.quiet_of_same (same_zeroD _))
                  go_wp2_with fail
                  go_roundw
                  case rel => exact ⟨j + 1, _, by omega, by omega, by go_num, by rw [HW.out]; exact drewN_add _ _ _⟩
                  case measure => simp [intOf]; omega
                · rw [if_neg (by rw [hb]; simp)] at HU HI
                  clear hb y1
                  go_wp2_with fail
                  refine HU.out.mono ?_
                  rintro e w6 ⟨rfl, rfl⟩
                  go_wp2_with fail
                  refine HI.out.mono ?_
                  rintro e w7 ⟨rfl, rfl⟩
                  go_wp2_with fail
                  go_quiet (exact Calls.quiet_of_same (same_posD 1 _ (by decide)))
                  go_wp2_with fail
                  go_roundw
                  case rel => exact ⟨x + 1, _, by omega, by omega, by go_num, by rw [HW.out]; exact drewN_add _ _ _⟩
                  case measure => simp [intOf]; omega
              · have hxl' : (ds.length : Int) < x := by omega
                clear hxl
                go_wp2_with fail
                go_ret
                exact ⟨rfl, HB6.out.below⟩
end Go.Proofs.Ythekalhceamcoaa
