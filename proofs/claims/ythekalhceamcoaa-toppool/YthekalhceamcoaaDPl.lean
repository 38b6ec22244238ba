/- What 'TopPool' answers: true. -/
import Derived.Test.YthekalhceamcoaaDTop
import Derived.Test.YthekalhceamcoaaDAct
namespace Go.Proofs.Ythekalhceamcoaa
open Go.RowKit
open Dvs (Dv dv0 dv nth Nodes fault first gvF given takeF took srt sel usedBy)
theorem wrap_small (x : Nat) (h1 : x ≤ 1000) : IntKind.i64.wrap (x : Int) = x := by
  rw [IntKind.wrap_i64]
  omega
theorem wrap64_small (x : Nat) (h1 : x ≤ 1000) : wrap64 (x : Int) = x := by
  unfold wrap64
  omega
theorem wpQuiet_take {P : Program} {ops : Array Oper} {C : World → Prop} {Q : Act → Prop} {a : Act} {o : Oper} {rest : List Oper} {v : Value} (hw : Region.wanted o (yielded ops a.tmps) = true) (hq : ∀ w, C w → o.quietAt P a C w v) (h : wpQuiet P ops C Q rest (a.put o.dst v)) : wpQuiet P ops C Q (o :: rest) a := by
  unfold wpQuiet
  rw [if_pos hw]
  exact ⟨v, hq, h⟩
theorem wpQuiet_skip {P : Program} {ops : Array Oper} {C : World → Prop} {Q : Act → Prop} {a : Act} {o : Oper} {rest : List Oper} (hw : Region.wanted o (yielded ops a.tmps) = false) (h : wpQuiet P ops C Q rest (a.put o.dst undef)) : wpQuiet P ops C Q (o :: rest) a := by
  unfold wpQuiet
  rw [if_neg (by rw [hw]; simp)]
  exact h
set_option maxRecDepth 100000 in
set_option maxHeartbeats 8000000 in
theorem topPool_gen (ds1 : List Dv) (ao1 : Option Addr) (cd b o : Nat) (ds0 : List Dv) (aa : Option Addr) (an ca : Nat) (w : World) (hD : DevsAt w (.slice ao1 ds0.length cd) b o ds0) (hA : RowsOf w (.slice aa an ca) 10 (actP w))
    (h1 : DevsAt (w.alloc (.cells #[.string ⟨#[103, 112, 117]⟩, .int .i64 0, .bool false] 50)) (.slice (some ⟨w.heap.size, 0, none⟩) 1 1) w.heap.size 0 ds1) (h2 : fault ds1 = 0) (h3 : takeF ds1 (fun _ => false) ⟨#[103, 112, 117]⟩ 1 = 0) (h4 : (ints (srt (took ds1 (fun _ => false) ⟨#[103, 112, 117]⟩ 1 (1 : Int).toNat))).length = 1) :
    Calls Try.prog 6 #[.slice ao1 ds0.length cd, .slice aa an ca] w fun e w' => e = .returned (.bool true) ∧ Below w.heap.size w w' := by
  have HD := hideIt hD
  have HA := hideIt hA
  have HX := hideIt (And.intro h2 (And.intro h3 h4))
  have HB0 := hideIt ((Below.refl w.heap.size w).alloc (Nat.le_refl _) (.cells #[.string ⟨#[103, 112, 117]⟩, .int .i64 0, .bool false] 50))
  have HN1 := hideIt (new_anyD _ _ _ ds1 _ h1)
  have hlen : an ≤ 9223372036854775807 := by
    obtain ⟨_, _, _, hv, hm, _⟩ := hA
    cases hv
    exact hm
  clear hD hA h1 h2 h3 h4
  go_enter Try.func6, Try.ntmps6
  go_wp2_with fail
  refine HN1.out.mono ?_
  rintro e w1 ⟨hg1, _, hb1⟩
  obtain ⟨p, rfl, pb1, db1, aoq, cq, rfl, hP1, hpl1, _⟩ := hg1 HX.out.1
  have HB1 := hideIt (HB0.out.trans (hb1.mono HB0.out.size))
  have HT1 := hideIt (takeD_any ⟨#[103, 112, 117]⟩ 1 1 w1 pb1 db1 aoq cq ds1 (fun _ => false) hP1 (Dvs.fault_nodes HX.out.1) (by decide))
  have HPl1 : Hid (w.heap.size ≤ pb1) := Nat.le_trans HB0.out.size hpl1
  clear hg1 hb1 hP1 hpl1 HN1 HB0
  rw [show ((fun n : Nat => errV n) 0) = Value.nilIface from rfl]
  go_wp2_with fail
  refine HT1.out.mono ?_
  rintro e w2 ⟨_, hg2, hgr2⟩
  obtain ⟨v2, g2, rfl, hn2, _, _⟩ := hg2 HX.out.2.1
  have HB2 := hideIt (HB1.out.trans (below_grown hgr2 (K := w.heap.size) HB1.out.size (fun j hj => by cases hj; exact HPl1.out)))
  obtain ⟨a2, c2, rfl, _⟩ := hn2
  rw [HX.out.2.2]
  rw [show ((fun n : Nat => errV n) 0) = Value.nilIface from rfl]
  have HA2 := hideIt (acts_below HA.out HB2.out)
  have HD2 := hideIt (HD.out.below HB2.out)
  clear hg2 hgr2 HT1 HB1 HPl1 HX
  by_cases h20 : 20 < ds0.length
  · go_wp2_with fail
    go_ret
    exact ⟨rfl, HB2.out⟩
  have h20' : ds0.length ≤ 20 := by omega
  have hd20 : decide (20 < (ds0.length : Int)) = false := decide_eq_false (by omega)
  clear h20
  go_wp2_with fail
  refine (lightActs_any _ 40 _ HA2.out).mono ?_
  rintro e w3 ⟨⟨b3, rfl⟩, hb3⟩
  have HB3 := hideIt (HB2.out.trans (hb3.mono HB2.out.size))
  have HD3 := hideIt (HD2.out.below hb3)
  clear hb3 HB2 HD2 HA2
  rcases two b3 with e2 | e2
  case inr =>
    subst e2
    go_wp2_with fail
    go_ret
    exact ⟨rfl, HB3.out⟩
  subst e2
  go_wp2_with fail
  go_loop [8] (fun i => ∃ k : Nat, k ≤ ds0.length ∧ i = .int .i64 k) (fun i => ds0.length - (intOf i).toNat)
  case atStart => exact ⟨0, by omega, rfl⟩
  case round =>
    obtain ⟨k, hk, rfl⟩ := hrel
    by_cases hlt : k < ds0.length
    · obtain ⟨a', c', hv, hcs⟩ := HD3.out
      cases hv
      obtain ⟨rfl, hlb, hcs⟩ := hcs (by omega)
      obtain ⟨c0, _, _⟩ := hcs k hlt
      clear hcs
      generalize (dv ds0 k).kind = xk at *
      by_cases h30 : 30 < xk.size
      · go_wp2_with fail
        go_ret
        exact ⟨rfl, HB3.out⟩
      have h30' : xk.size ≤ 30 := by omega
      clear h30
      go_wp2_with fail
      go_round
      case rel => exact ⟨k + 1, by omega, by go_num⟩
      case measure => simp [intOf]; omega
    · have hke : k = ds0.length := by omega
      subst hke
      go_wp2_with fail
      refine (new_anyD _ b o ds0 _ HD3.out).mono ?_
      rintro e w4 ⟨hgood, hbad, hb4⟩
      have HB4 := hideIt (HB3.out.trans (hb4.mono HB3.out.size))
      by_cases hf : fault ds0 = 0
      case neg =>
        obtain rfl := hbad hf
        rw [show ((fun n : Nat => errV n) (fault ds0)) = Value.iface 133 (.int .i64 (fault ds0 : Nat)) from errV_pos hf]
        clear hgood hbad hb4 hf
        go_wp2_with fail
        go_ret
        exact ⟨rfl, HB4.out⟩
      case pos =>
        obtain ⟨p, rfl, pb, db, ao, c, rfl, hP, hpl, hdl⟩ := hgood hf
        have HNd := hideIt (Dvs.fault_nodes hf)
        have hyA := ((Below.refl w4.heap.size w4).alloc (Nat.le_refl _) (.cells #[.bool false, .bool false, .bool false, .bool false, .bool false, .bool false, .bool false, .bool false, .bool false, .bool false, .bool false, .bool false, .bool false, .bool false, .bool false, .bool false] 73)).alloc (by simp) (.cells #[.bool false, .bool false, .bool false, .bool false, .bool false, .bool false, .bool false, .bool false, .bool false, .bool false, .bool false, .bool false, .bool false, .bool false, .bool false, .bool false] 73)
        have HP5 := hideIt (hP.below hyA)
        have HB5 := hideIt (HB4.out.trans (hyA.mono HB4.out.size))
        have HM5 : Hid (BitsAt ((w4.alloc (.cells #[.bool false, .bool false, .bool false, .bool false, .bool false, .bool false, .bool false, .bool false, .bool false, .bool false, .bool false, .bool false, .bool false, .bool false, .bool false, .bool false] 73)).alloc (.cells #[.bool false, .bool false, .bool false, .bool false, .bool false, .bool false, .bool false, .bool false, .bool false, .bool false, .bool false, .bool false, .bool false, .bool false, .bool false, .bool false] 73)) w4.heap.size (fun _ => false)) := (BitsAt.made w4 73 (fun _ => false)).alloc _
        have HS5 : Hid (BitsAt ((w4.alloc (.cells #[.bool false, .bool false, .bool false, .bool false, .bool false, .bool false, .bool false, .bool false, .bool false, .bool false, .bool false, .bool false, .bool false, .bool false, .bool false, .bool false] 73)).alloc (.cells #[.bool false, .bool false, .bool false, .bool false, .bool false, .bool false, .bool false, .bool false, .bool false, .bool false, .bool false, .bool false, .bool false, .bool false, .bool false, .bool false] 73)) (w4.heap.size + 1) (fun _ => false)) := by
          have := BitsAt.made (w4.alloc (.cells #[.bool false, .bool false, .bool false, .bool false, .bool false, .bool false, .bool false, .bool false, .bool false, .bool false, .bool false, .bool false, .bool false, .bool false, .bool false, .bool false] 73)) 73 (fun _ => false)
          rwa [show (w4.alloc (.cells #[.bool false, .bool false, .bool false, .bool false, .bool false, .bool false, .bool false, .bool false, .bool false, .bool false, .bool false, .bool false, .bool false, .bool false, .bool false, .bool false] 73)).heap.size = w4.heap.size + 1 by simp] at this
        have HAp : Hid (TApart w.heap.size pb db w4.heap.size (w4.heap.size + 1) ds0.length) := by
          have s3 := HB3.out.size
          have s4 := HB4.out.size
          have l1 := hP.lt
          exact ⟨by omega, fun h0 => by have := hdl h0; omega, by omega, by omega, by omega, by omega, by omega, fun h0 => by have := (hP.at0 h0).2.2; omega, fun h0 => by have := (hP.at0 h0).2.2; omega⟩
        have HD5 := hideIt (HD.out.below HB5.out)
        clear hgood hbad hb4 hf hP hpl hdl hyA HB3 HB4 HD3
        rw [show ((fun n : Nat => errV n) 0) = Value.nilIface from rfl]
        have h16 := HNd.out.1
        go_wp2_with fail
        go_loopw [11] (fun i wr => ∃ k : Nat, k ≤ ds0.length ∧ i = .int .i64 k ∧ ((w4.alloc (.cells #[.bool false, .bool false, .bool false, .bool false, .bool false, .bool false, .bool false, .bool false, .bool false, .bool false, .bool false, .bool false, .bool false, .bool false, .bool false, .bool false] 73)).alloc (.cells #[.bool false, .bool false, .bool false, .bool false, .bool false, .bool false, .bool false, .bool false, .bool false, .bool false, .bool false, .bool false, .bool false, .bool false, .bool false, .bool false] 73)).grownBy wr (some (w4.heap.size + 1)) ∧ BitsAt wr (w4.heap.size + 1) (fun j => if j < k then (dv ds0 j).sick else false)) (fun i _ => ds0.length - (intOf i).toNat)
        case atStart => exact ⟨0, by omega, rfl, grown_refl _ _, by simpa using HS5.out⟩
        case round =>
          obtain ⟨k, hk, rfl, hgr, hS⟩ := hrel
          by_cases hlt : k < ds0.length
          · obtain ⟨a', c', hv, hcs⟩ := HD.out
            cases hv
            obtain ⟨rfl, hlb, hcs⟩ := hcs (by omega)
            obtain ⟨_, _, c2'⟩ := hcs k hlt
            have hBw := HB5.out.trans (below_grown hgr (K := w.heap.size) HB5.out.size (fun j hj => by cases hj; exact HAp.out.ls))
            have c3 := (hBw.cell (p := ⟨b, o + k * 3 + 2, none⟩) hlb).trans c2'
            have hk16 : k < 16 := by omega
            obtain ⟨s1, s2⟩ := hS k hk16
            have HS' := hideIt (hS.set (g := fun j => if j < k + 1 then (dv ds0 j).sick else false) hk16 (dv ds0 k).sick (fun j _ => by
              show (if j < k + 1 then (dv ds0 j).sick else false) = _
              by_cases e : j = k
              · subst e; rw [if_pos (by omega), if_pos rfl]
              · rw [if_neg e]
                by_cases e2 : j < k
                · rw [if_pos (by omega), if_pos e2]
                · rw [if_neg (by omega), if_neg e2]))
            have HG' := hideIt (hgr.trans (grown_setCell wr ⟨w4.heap.size + 1, k, none⟩ (.bool (dv ds0 k).sick)))
            generalize (dv ds0 k).sick = xs at *
            clear hcs hS hgr hBw c2'
            go_wp2_with fail
            go_roundw
            case rel => exact ⟨k + 1, by omega, by go_num, HG'.out, HS'.out⟩
            case measure => simp [intOf]; omega
          · have hke : k = ds0.length := by omega
            subst hke
            have HT : Hid (TopAt w wr pb db ao c w4.heap.size (w4.heap.size + 1) ds0 ds0 (fun _ => false) (.slice none 0 0) 0 []) := by
              refine ⟨HP5.out.kept hgr (by simpa using HAp.out.ps) (fun h0 => by simpa using HAp.out.dS h0), HNd.out, HM5.out.kept hgr (by simp), hS.congr (fun j _ => ?_), ⟨none, 0, rfl, fun h0 => by simp [ints] at h0⟩, fun j hj => by simp at hj, fun h0 => by simp at h0, by simp, HB5.out.trans (below_grown hgr (K := w.heap.size) HB5.out.size (fun j hj => by cases hj; exact HAp.out.ls)), HAp.out, fun _ _ => rfl, rfl⟩
              by_cases e : j < ds0.length
              · rw [if_pos e]
              · rw [if_neg e]; simp [dv, dv0, show ds0.length ≤ j by omega]
            clear hgr hS HS5 HM5 HP5 HD5 HNd
            go_wp2_with fail
            go_loopw [12, 13] (fun lv i wr => ∃ k : Nat, k ≤ an ∧ i = .int .i64 k ∧ ∃ ds us g L, TopAt w wr pb db ao c w4.heap.size (w4.heap.size + 1) ds0 ds us lv g L) (fun _ i _ => an - (intOf i).toNat)
            case atStart => exact ⟨0, by omega, rfl, ds0, _, 0, [], HT.out⟩
            case round =>
              clear HT
              obtain ⟨k, hk, rfl, ds, us, g, L, hT⟩ := hrel
              obtain ⟨la, lc, rfl, q8⟩ := hT.last
              clear q8
              have HTo := hideIt hT
              by_cases hlt : k < an
              · obtain ⟨D, kd, s, xa, xb, m, lva, lvl, lvc, nm, pr, cva, cvl, cvc, uva, uvl, uvc, ab, ai, rfl, hm8, hab, zz⟩ := act_at HA.out hT.below hlt
                obtain ⟨z0, z1, z2, z3, z4, z5, z6, z7, z8, z9⟩ := zz
                have HAt := hideIt (ActAt.made wr kd s xa xb m (.slice lva lvl lvc) (.string nm) (.int .i64 pr) (.slice cva cvl cvc) (.slice uva uvl uvc) 63)
                have HT := hideIt (HTo.out.alloc (.cells #[.string kd, .string s, .int .i64 xa, .int .i64 xb, .int .u8 m, .slice lva lvl lvc, .string nm, .int .i64 pr, .slice cva cvl cvc, .slice uva uvl uvc] 63))
                have HZ := hideIt hT.lts
                have HLn := hideIt hT.len
                have h16' := hT.nodes.1
                clear hT HTo hab
                rcases two (kd.toList == [116, 97, 107, 101]) with hk1 | hk1
                · as_aux_lemma =>
                    go_wp2_with fail
                    refine (takeD_any s xa m _ pb db ao c ds us HT.out.pool HT.out.nodes hm8).mono ?_
                    rintro e w5 ⟨hbad5, hgood5, hg5⟩
                    by_cases hf : takeF ds us s xa = 0
                    · obtain ⟨v5, g5, rfl, hn5, hge5, hP5⟩ := hgood5 hf
                      have HTl := hideIt (took_len (m := m) hf)
                      have HT16 : Hid (∀ j ∈ took ds us s m xa.toNat, j < ds.length) := fun j hj => (Dvs.took_mem hj).1
                      have HLe : Hid (((srt (took ds us s m xa.toNat)).length : Int) = xa) := by unfold Hid; rw [Dvs.srt_len (fun j hj => Nat.lt_of_lt_of_le (HT16.out j hj) h16') (Dvs.took_nodup ds us s m xa.toNat)]; exact HTl.out
                      have HQ := hideIt (fun k hk => took_srt HT.out.nodes (us := us) (kind := s) (m := m) (n := xa.toNat) (k := k) hk)
                      have HA5 := hideIt (HAt.out.kept hg5 (by have := HZ.out.1; simp; omega))
                      have HM5 := hideIt (HT.out.mine.kept hg5 (by simpa using fun e => HT.out.apart.pm e.symm))
                      have HS5 := hideIt (HT.out.sick.kept hg5 (by simpa using fun e => HT.out.apart.ps e.symm))
                      have HB5 := hideIt (HT.out.below.trans (below_grown hg5 (K := w.heap.size) HT.out.below.size (fun j hj => by cases hj; exact HT.out.apart.lp)))
                      have HEnd := hideIt (fun wr hgr hm => HT.out.take HT16.out hg5 hP5 hn5 hge5 (wr := wr) hgr hm)
                      have HGe := hideIt hge5
                      have HN5 := hideIt hn5
                      have hls := Dvs.sel_le (fun j => decide (j ∈ took ds us s m xa.toNat)) 16
                      have HKd := hideIt HT.out.kinds
                      have HTA := hideIt HT.out.apart
                      obtain ⟨a5, c5, rfl, q9⟩ := hn5
                      clear q9
                      rw [ints_len]
                      rw [show ((fun n : Nat => errV n) 0) = Value.nilIface from rfl]
                      clear hbad5 hgood5 hg5 hge5 hP5 hf
                      change (srt (took ds us s m xa.toNat)).length ≤ 16 at hls
                      generalize hTT : srt (took ds us s m xa.toNat) = TT at *
                      have HTT := hideIt hTT
                      clear hTT
                      have hxa := HLe.out
                      have t2 := HA5.out.a
                      rw [← hxa] at t2
                      subst hxa
                      go_wp2_with fail
                      go_loopw [17] (fun i wr => ∃ q : Nat, q ≤ TT.length ∧ i = .int .i64 q ∧ w5.grownBy wr (some w4.heap.size) ∧ BitsAt wr w4.heap.size (usedBy us (TT.take q))) (fun i _ => TT.length - (intOf i).toNat)
                      case atStart => exact ⟨0, by omega, rfl, grown_refl _ _, by rw [List.take_zero, Dvs.usedBy_nil]; exact HM5.out⟩
                      case round =>
                        obtain ⟨q, hq, rfl, hgr, hM⟩ := hrel
                        by_cases hql : q < TT.length
                        · obtain ⟨x, hx, hxl, hxk, hxs, hxu, hxm, hxp⟩ := HQ.out q hql
                          have hx16 : x < 16 := by omega
                          obtain ⟨al', cl', hv, hcs⟩ := HN5.out
                          rw [ints_len] at hcs hv
                          cases hv
                          obtain ⟨rfl, hlg, hcs⟩ := hcs (by omega)
                          have hgM : g5 ≠ w4.heap.size := by have q1 := HGe.out (by omega); have := HZ.out.2.1; simp at q1; omega
                          have e1 : wr.cell? ⟨g5, 0 + q, none⟩ = some (.int .i64 x) := by
                            rw [hgr.cell_far _ hlg (by simpa using hgM), hcs q hql]
                            simp [nth, ints, hx]
                          rw [Nat.zero_add] at e1
                          obtain ⟨b1, b2⟩ := hM x hx16
                          rw [hxm] at b1
                          have b3 : _ = some (Value.bool false) := ((HS5.out.kept hgr (by simp)) x hx16).1.trans (by rw [hxs])
                          have HA6 := hideIt (HA5.out.kept hgr (by have := HZ.out.2.1; simp; omega))
                          have b4 := HA6.out.s
                          have hBw := HB5.out.trans (below_grown hgr (K := w.heap.size) HB5.out.size (fun j hj => by cases hj; exact HTA.out.lm))
                          obtain ⟨al2, cl2, hv2, hcs2⟩ := HD.out
                          cases hv2
                          obtain ⟨rfl, hlb, hcs2⟩ := hcs2 (by have := HLn.out; omega)
                          have hx0 : x < ds0.length := by have := HLn.out; omega
                          have b5 := (hBw.cell (p := ⟨b, o + x * 3, none⟩) hlb).trans (hcs2 x hx0).1
                          rw [← HKd.out x hxl, hxk] at b5
                          have HM' : Hid (∀ n, BitsAt ((wr.drewN n).setCell ⟨w4.heap.size, x, none⟩ (.bool true)) w4.heap.size (usedBy us (TT.take (q + 1)))) := fun n => (hM.below (below_drewN (Below.refl _ _) n)).set hx16 true (fun j _ => usedBy_step hx j)
                          have HG' : Hid (∀ n, w5.grownBy ((wr.drewN n).setCell ⟨w4.heap.size, x, none⟩ (.bool true)) (some w4.heap.size)) := fun n => (grown_drewN hgr n).trans (grown_setCell _ _ _)
                          have d1 : decide ((x : Int) < 0) = false := by simp
                          have d2 : decide ((ds0.length : Int) ≤ x) = false := decide_eq_false (by omega)
                          have d3 : (x : Int) < ds0.length := by omega
                          have d8 : decide (ds0.length ≤ x) = false := decide_eq_false (by omega)
                          have d6 : (x : Int) < 16 := by omega
                          by_cases hq0 : 0 < q
                          · have hl0 : q - 1 < TT.length := by omega
                            obtain ⟨p, hp, e2⟩ : ∃ p : Nat, TT[q - 1]? = some p ∧ wr.cell? ⟨g5, q - 1, none⟩ = some (.int .i64 p) := by
                              refine ⟨TT[q - 1], List.getElem?_eq_getElem hl0, ?_⟩
                              rw [hgr.cell_far _ hlg (by simpa using hgM)]
                              have := hcs (q - 1) hl0
                              rw [Nat.zero_add] at this
                              rw [this]
                              simp [nth, ints, hl0]
                            have hpx := hxp p hq0 hp
                            have wA : IntKind.i64.wrap ((q : Int) - 1) = (q : Int) - 1 := by rw [IntKind.wrap_i64]; omega
                            have wB : wrap64 ((q : Int) - 1) = (q : Int) - 1 := by unfold wrap64; omega
                            have i0 : (0 : Int) ≤ (q : Int) - 1 := by omega
                            have i1 : (q : Int) - 1 < TT.length := by omega
                            have i2 : ((q : Int) - 1).toNat = q - 1 := by omega
                            have i3 : (0 : Int) < q := by omega
                            have n1 : 1 ≤ q := hq0
                            have n3 : (1 : Int) ≤ q := by omega
                            have d4 : decide ((x : Int) ≤ p) = false := decide_eq_false (by omega)
                            clear hcs hcs2 hgr hM hBw hxm hxp hp HQ
                            clear HA z0 z1 z2 z3 z4 z5 z6 z7 z8 z9 HAt HT HTl HT16 HA5 HGe HEnd HTT HLe HM5 HS5 HB5 HN5 HKd HTA HZ HLn HD HA6 hxk hxs hxu t2 hk1 hlb hlg hgM hx
                            go_wp2_with fail
                            go_quiet (fail)
                            go_wp2_with fail
                            go_roundw
                            case rel => exact ⟨q + 1, by omega, by go_num, HG'.out _, HM'.out _⟩
                            case measure => simp [intOf]; omega
                          · obtain rfl : q = 0 := by omega
                            clear hcs hcs2 hgr hM hBw hxm hxp HQ hq0
                            clear HA z0 z1 z2 z3 z4 z5 z6 z7 z8 z9 HAt HT HTl HT16 HA5 HGe HEnd HTT HLe HM5 HS5 HB5 HN5 HKd HTA HZ HLn HD HA6 hxk hxs hxu t2 hk1 hlb hlg hgM hx
                            go_wp2_with fail
                            go_quiet (fail)
                            go_wp2_with fail
                            go_roundw
                            case rel => exact ⟨0 + 1, by omega, by go_num, HG'.out _, HM'.out _⟩
                            case measure => simp [intOf]; omega
                        · have hqe : q = TT.length := by omega
                          subst hqe
                          rw [List.take_length] at hM
                          have HTn := hideIt (HEnd.out wr hgr hM)
                          rw [ints_len, Int.toNat_natCast] at HTn
                          clear hgr hM HEnd
                          have hl5 := HTn.out.len
                          have HN5 := hideIt HTn.out.nodes
                          have HU5 := hideIt (fun x => used_any x _ pb db ao c ds (usedBy us (took ds us s m TT.length)) HTn.out.pool HTn.out.nodes.1)
                          have HL5 := hideIt hl5
                          clear hl5
                          go_wp2_with fail
                          go_loop [19] (fun i => ∃ q : Nat, q ≤ ds0.length ∧ i = .int .i64 q) (fun i => ds0.length - (intOf i).toNat)
                          case atStart => exact ⟨0, by omega, rfl⟩
                          case round =>
                            obtain ⟨q, hq, rfl⟩ := hrel
                            by_cases hql : q < ds0.length
                            · have HU := hideIt (HU5.out q)
                              rw [if_pos (by simp [inBd]; have := HL5.out; omega), Int.toNat_natCast] at HU
                              have hb9 := (HTn.out.mine q (by omega)).1
                              generalize (usedBy us (took ds us s m TT.length)) q = uq at HU hb9
                              go_wp2_with fail
                              refine HU.out.mono ?_
                              rintro e w9 ⟨rfl, rfl⟩
                              go_wp2_with fail
                              go_round
                              case rel => exact ⟨q + 1, by omega, by go_num⟩
                              case measure => simp [intOf]; omega
                            · have hqe : q = ds0.length := by omega
                              subst hqe
                              go_wp2_with fail
                              go_roundw
                              case rel => exact ⟨k + 1, by omega, by go_num, ds, (usedBy us (took ds us s m TT.length)), g5, TT, HTn.out⟩
                              case measure => simp [intOf]; omega
                    · obtain ⟨rfl, hb5⟩ := hbad5 hf
                      have HT5 := hideIt (HT.out.grows hb5)
                      rw [show ((fun n : Nat => errV n) (takeF ds us s xa)) = Value.iface 133 (.int .i64 (takeF ds us s xa : Nat)) from errV_pos hf]
                      clear hbad5 hgood5 hg5 hb5 hf HT HAt
                      generalize takeF ds us s xa = f at *
                      go_wp2_with fail
                      go_roundw
                      case rel => exact ⟨k + 1, by omega, by go_num, ds, us, g, L, HT5.out⟩
                      case measure => simp [intOf]; omega
                rcases two (kd.toList == [103, 105, 118, 101]) with hk2 | hk2
                · as_aux_lemma =>
                    have HN0 := hideIt HT.out.noFault
                    have hll : (ints L).length ≤ 16 := by rw [ints_len]; exact HT.out.ll
                    have HUs := hideIt HT.out.used
                    have HLg := hideIt HT.out.lg
                    have HLs := hideIt HT.out.last
                    have HTA := hideIt HT.out.apart
                    have HIL := hideIt (ints_len L)
                    have HM0 := hideIt HT.out.mine
                    go_wp2_with fail
                    go_loopw [18] (fun i wr2 => ∃ q : Nat, q ≤ (ints L).length ∧ i = .int .i64 q ∧ (wr.alloc (.cells #[.string kd, .string s, .int .i64 xa, .int .i64 xb, .int .u8 m, .slice lva lvl lvc, .string nm, .int .i64 pr, .slice cva cvl cvc, .slice uva uvl uvc] 63)).grownBy wr2 (some w4.heap.size) ∧ BitsAt wr2 w4.heap.size (given us ((ints L).take q))) (fun i _ => (ints L).length - (intOf i).toNat)
                    case atStart => exact ⟨0, by omega, rfl, grown_refl _ _, by rw [List.take_zero, Dvs.given_nil]; exact HM0.out⟩
                    case round =>
                      rename_i wr2
                      obtain ⟨q, hq, rfl, hgr, hM⟩ := hrel
                      by_cases hql : q < (ints L).length
                      · have hqL : q < L.length := by have := HIL.out; omega
                        have hx : nth (ints L) q = ((L[q] : Nat) : Int) := by simp [nth, ints, hqL]
                        obtain ⟨hxl, hxu⟩ := HUs.out L[q] (List.getElem_mem hqL)
                        obtain ⟨al', cl', hv, hcs⟩ := HLs.out
                        cases hv
                        obtain ⟨rfl, hlg, hcs⟩ := hcs (by omega)
                        have e1 : _ = some (Value.int .i64 (nth (ints L) q)) := (hgr.cell_far ⟨g, 0 + q, none⟩ hlg (by simpa using (HLg.out (by omega)).2.2.1)).trans (hcs q hql)
                        rw [Nat.zero_add, hx] at e1
                        generalize L[q] = x at *
                        have hx16 : x < 16 := by omega
                        obtain ⟨b1, b2⟩ := hM x hx16
                        have HM' := hideIt (hM.set (g := given us ((ints L).take (q + 1))) hx16 false (fun j _ => given_step hql hx j))
                        have HG' := hideIt (hgr.trans (grown_setCell _ ⟨w4.heap.size, x, none⟩ (.bool false)))
                        clear hcs hgr hM
                        go_wp2_with fail
                        go_roundw
                        case rel => exact ⟨q + 1, by omega, by go_num, HG'.out, HM'.out⟩
                        case measure => simp [intOf]; omega
                      · have hqe : q = (ints L).length := by omega
                        subst hqe
                        rw [List.take_length] at hM
                        obtain ⟨hP6, hN6⟩ := HT.out.midGive hgr
                        have HGv := hideIt (give_any _ g 0 (ints L) _ pb db ao c ds us hP6 HT.out.nodes hN6 (by omega))
                        have HEn := hideIt (fun wr3 hg hP => HT.out.give (wr := wr3) hgr hM hg hP)
                        have HGo : Hid (giveOut ds.length us (ints L) = given us (ints L)) := by unfold Hid giveOut; rw [HN0.out, if_pos rfl]
                        rw [HN0.out, HGo.out] at HGv
                        rw [show errV ((0 : Nat) : Int) = Value.nilIface from rfl] at HGv
                        clear hgr hM hP6 hN6 HLs HM0
                        go_wp2_with fail
                        refine HGv.out.mono ?_
                        rintro e w6 ⟨rfl, hg6, hP6⟩
                        have HTn := hideIt (HEn.out _ hg6 hP6)
                        clear hg6 hP6 HGv HEn HT HAt
                        have hl5 := HTn.out.len
                        have HN5 := hideIt HTn.out.nodes
                        have HU5 := hideIt (fun x => used_any x _ pb db ao c ds (given us (ints L)) HTn.out.pool HTn.out.nodes.1)
                        have HL5 := hideIt hl5
                        clear hl5
                        go_wp2_with fail
                        go_loop [19] (fun i => ∃ q : Nat, q ≤ ds0.length ∧ i = .int .i64 q) (fun i => ds0.length - (intOf i).toNat)
                        case atStart => exact ⟨0, by omega, rfl⟩
                        case round =>
                          obtain ⟨q, hq, rfl⟩ := hrel
                          by_cases hql : q < ds0.length
                          · have HU := hideIt (HU5.out q)
                            rw [if_pos (by simp [inBd]; have := HL5.out; omega), Int.toNat_natCast] at HU
                            have hb9 := (HTn.out.mine q (by omega)).1
                            generalize (given us (ints L)) q = uq at HU hb9
                            go_wp2_with fail
                            refine HU.out.mono ?_
                            rintro e w9 ⟨rfl, rfl⟩
                            go_wp2_with fail
                            go_round
                            case rel => exact ⟨q + 1, by omega, by go_num⟩
                            case measure => simp [intOf]; omega
                          · have hqe : q = ds0.length := by omega
                            subst hqe
                            go_wp2_with fail
                            go_roundw
                            case rel => exact ⟨k + 1, by omega, by go_num, ds, (given us (ints L)), 0, [], HTn.out⟩
                            case measure => simp [intOf]; omega
                rcases two (kd.toList == [115, 105, 99, 107]) with hk3 | hk3
                · as_aux_lemma =>
                    rcases two (inBd xa ds.length) with hb | hb
                    · obtain ⟨n, rfl, hnl⟩ := inB_iff hb
                      have HSk := hideIt (sick_yes n true _ pb db ao c ds us HT.out.pool hnl)
                      have HT5 := hideIt (HT.out.sicken hnl)
                      obtain ⟨y1, y2⟩ := HT.out.midSick hnl
                      have HA5 := hideIt (HAt.out.kept (grown_setCell _ ⟨db, n * 3 + 2, none⟩ (.bool true)) (by have := HZ.out.2.2.2 (by omega); simp; omega))
                      have y3 := HA5.out.a
                      have hn16 : n < 16 := by omega
                      generalize (dv ds n).sick = xs at *
                      clear hb
                      go_wp2_with fail
                      refine HSk.out.mono ?_
                      rintro e w5 ⟨rfl, rfl⟩
                      clear HSk HT HAt
                      have hl5 := HT5.out.len
                      have HN5 := hideIt HT5.out.nodes
                      have HU5 := hideIt (fun x => used_any x _ pb db ao c (Dvs.sicken ds n true) us HT5.out.pool HT5.out.nodes.1)
                      have HL5 := hideIt hl5
                      clear hl5
                      go_wp2_with fail
                      go_loop [19] (fun i => ∃ q : Nat, q ≤ ds0.length ∧ i = .int .i64 q) (fun i => ds0.length - (intOf i).toNat)
                      case atStart => exact ⟨0, by omega, rfl⟩
                      case round =>
                        obtain ⟨q, hq, rfl⟩ := hrel
                        by_cases hql : q < ds0.length
                        · have HU := hideIt (HU5.out q)
                          rw [if_pos (by simp [inBd]; have := HL5.out; omega), Int.toNat_natCast] at HU
                          have hb9 := (HT5.out.mine q (by omega)).1
                          generalize us q = uq at HU hb9
                          go_wp2_with fail
                          refine HU.out.mono ?_
                          rintro e w9 ⟨rfl, rfl⟩
                          go_wp2_with fail
                          go_round
                          case rel => exact ⟨q + 1, by omega, by go_num⟩
                          case measure => simp [intOf]; omega
                        · have hqe : q = ds0.length := by omega
                          subst hqe
                          go_wp2_with fail
                          go_roundw
                          case rel => exact ⟨k + 1, by omega, by go_num, (Dvs.sicken ds n true), us, g, L, HT5.out⟩
                          case measure => simp [intOf]; omega
                    · have HSk := hideIt (sick_no xa true _ pb db ao c ds us HT.out.pool hb)
                      clear hb
                      go_wp2_with fail
                      refine HSk.out.mono ?_
                      rintro e w5 ⟨rfl, rfl⟩
                      clear HSk HAt
                      have hl5 := HT.out.len
                      have HN5 := hideIt HT.out.nodes
                      have HU5 := hideIt (fun x => used_any x _ pb db ao c ds us HT.out.pool HT.out.nodes.1)
                      have HL5 := hideIt hl5
                      clear hl5
                      go_wp2_with fail
                      go_loop [19] (fun i => ∃ q : Nat, q ≤ ds0.length ∧ i = .int .i64 q) (fun i => ds0.length - (intOf i).toNat)
                      case atStart => exact ⟨0, by omega, rfl⟩
                      case round =>
                        obtain ⟨q, hq, rfl⟩ := hrel
                        by_cases hql : q < ds0.length
                        · have HU := hideIt (HU5.out q)
                          rw [if_pos (by simp [inBd]; have := HL5.out; omega), Int.toNat_natCast] at HU
                          have hb9 := (HT.out.mine q (by omega)).1
                          generalize us q = uq at HU hb9
                          go_wp2_with fail
                          refine HU.out.mono ?_
                          rintro e w9 ⟨rfl, rfl⟩
                          go_wp2_with fail
                          go_round
                          case rel => exact ⟨q + 1, by omega, by go_num⟩
                          case measure => simp [intOf]; omega
                        · have hqe : q = ds0.length := by omega
                          subst hqe
                          go_wp2_with fail
                          go_roundw
                          case rel => exact ⟨k + 1, by omega, by go_num, ds, us, g, L, HT.out⟩
                          case measure => simp [intOf]; omega
                as_aux_lemma =>
                  have hl5 := HT.out.len
                  have HN5 := hideIt HT.out.nodes
                  have HU5 := hideIt (fun x => used_any x _ pb db ao c ds us HT.out.pool HT.out.nodes.1)
                  have HL5 := hideIt hl5
                  clear hl5
                  go_wp2_with fail
                  go_loop [19] (fun i => ∃ q : Nat, q ≤ ds0.length ∧ i = .int .i64 q) (fun i => ds0.length - (intOf i).toNat)
                  case atStart => exact ⟨0, by omega, rfl⟩
                  case round =>
                    obtain ⟨q, hq, rfl⟩ := hrel
                    by_cases hql : q < ds0.length
                    · have HU := hideIt (HU5.out q)
                      rw [if_pos (by simp [inBd]; have := HL5.out; omega), Int.toNat_natCast] at HU
                      have hb9 := (HT.out.mine q (by omega)).1
                      generalize us q = uq at HU hb9
                      go_wp2_with fail
                      refine HU.out.mono ?_
                      rintro e w9 ⟨rfl, rfl⟩
                      go_wp2_with fail
                      go_round
                      case rel => exact ⟨q + 1, by omega, by go_num⟩
                      case measure => simp [intOf]; omega
                    · have hqe : q = ds0.length := by omega
                      subst hqe
                      go_wp2_with fail
                      go_roundw
                      case rel => exact ⟨k + 1, by omega, by go_num, ds, us, g, L, HT.out⟩
                      case measure => simp [intOf]; omega
              · have hke : k = an := by omega
                subst hke
                clear hT
                go_wp2_with fail
                go_ret
                exact ⟨rfl, HTo.out.below⟩
/-- One device. -/
def gpu1 : List Dv := [⟨⟨#[103, 112, 117]⟩, 0, false⟩]
theorem gpu1_at (w : World) (t : TypeId) : DevsAt (w.alloc (.cells #[.string ⟨#[103, 112, 117]⟩, .int .i64 0, .bool false] t)) (.slice (some ⟨w.heap.size, 0, none⟩) 1 1) w.heap.size 0 gpu1 := by
  refine ⟨_, 1, rfl, fun _ => ⟨rfl, by simp, fun k hk => ?_⟩⟩
  have : k = 0 := by simp [gpu1] at hk; omega
  subst this
  exact ⟨by simp [gpu1, dv], by simp [gpu1, dv], by simp [gpu1, dv]⟩
theorem topPool_any (ao1 : Option Addr) (cd b o : Nat) (ds0 : List Dv) (aa : Option Addr) (an ca : Nat) (w : World) (hD : DevsAt w (.slice ao1 ds0.length cd) b o ds0) (hA : RowsOf w (.slice aa an ca) 10 (actP w)) :
    Calls Try.prog 6 #[.slice ao1 ds0.length cd, .slice aa an ca] w fun e w' => e = .returned (.bool true) ∧ Below w.heap.size w w' :=
  topPool_gen gpu1 ao1 cd b o ds0 aa an ca w hD hA (gpu1_at w _) (by decide +kernel) (by decide +kernel) (by decide +kernel)
end Go.Proofs.Ythekalhceamcoaa
