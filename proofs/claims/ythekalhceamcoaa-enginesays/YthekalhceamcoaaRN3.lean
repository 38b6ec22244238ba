/- What 'EngineSays' answers: true. -/
import Derived.Test.YthekalhceamcoaaRWs
import Derived.Test.YthekalhceamcoaaRWt
import Derived.Test.YthekalhceamcoaaRWa
import Derived.Test.YthekalhceamcoaaRWr
namespace Go.Proofs.Ythekalhceamcoaa
open Go.RowKit
set_option maxRecDepth 100000 in
set_option maxHeartbeats 8000000 in
theorem engineSays_any (aa : Option Addr) (an ca : Nat) (w : World) (hA : RowsOf w (.slice aa an ca) 10 (actP w)) (hN : RowsOf w (.slice aa an ca) 10 actN) :
    Calls Try.prog 13 #[.slice aa an ca] w fun e w' => e = .returned (.bool true) ∧ Below w.heap.size w w' := by
  obtain ⟨j0, hj0, hy0, hy1, hy2⟩ := info_parts infoRun
  have HA := hideIt hA
  have HN := hideIt hN
  clear hA hN
  go_enter Try.func13, Try.ntmps13
  go_wp2_with fail
  refine (engines_any _).mono ?_
  rintro e w1 ⟨rfl, hb1⟩
  have HB1 := hideIt hb1
  have HA1 := hideIt (acts_below HA.out hb1)
  have HN1 := hideIt (HN.out.below (q := actN) hb1 fun _ h => h)
  clear hb1 HA HN
  go_wp2_with fail
  refine (lightE_any _ 60 _ HA1.out).mono ?_
  rintro e w2 ⟨⟨b2, rfl, hyes⟩, hb2⟩
  have HB2 := hideIt (HB1.out.trans (hb2.mono HB1.out.size))
  have HB12 := hideIt hb2
  clear hb2
  rcases two b2 with e2 | e2
  case inr =>
    subst e2
    clear hyes
    go_wp2_with fail
    go_ret
    exact ⟨by simp, HB2.out⟩
  subst e2
  obtain ⟨hq, h60⟩ := hyes rfl
  have h60 : an ≤ 60 := by have := h60 _ _ _ rfl; omega
  have HQ := hideIt hq
  clear hyes hq HA1
  go_wp2_with fail
  refine (newDisk_any _).mono ?_
  rintro e w3 ⟨rfl, hz3, hb3, hs3⟩
  have HZ3 := hideIt hz3
  have HB3 := hideIt hb3
  clear hz3 hb3
  go_wp2_with fail
  refine (newEng_any _ _).mono ?_
  rintro e w4 ⟨rfl, he4, hm4, hb4, hs4⟩
  rw [hs3] at he4 hm4
  rw [hs3]
  have HE4 := hideIt he4
  have HM4 := hideIt hm4
  have HZ4 := hideIt (show DiskZ w4 w2.heap.size (-1) false from (hb4.block w2.heap.size (by omega)).trans HZ3.out)
  have HB4 := hideIt (HB3.out.trans (hb4.mono HB3.out.size))
  clear he4 hm4 hb4 HZ3 HB3
  go_wp2_with fail
  refine (newRef_any _).mono ?_
  rintro e w5 ⟨rfl, hr5, hb5, hs5⟩
  have hsz4 : w4.heap.size = w2.heap.size + 3 := by omega
  rw [hsz4] at hr5
  rw [hsz4]
  have HR5 := hideIt hr5
  have HE5 := hideIt (HE4.out.block (hb5.block _ (by omega)))
  have HM5 := hideIt (HM4.out.block (hb5.block _ (by omega)))
  have HZ5 := hideIt (show DiskZ w5 w2.heap.size (-1) false from (hb5.block w2.heap.size (by omega)).trans HZ4.out)
  have HB5 := hideIt (HB4.out.trans (hb5.mono HB4.out.size))
  have hsz5 : w5.heap.size = w2.heap.size + 4 := by omega
  clear hr5 hb5 HE4 HM4 HZ4 HB4 hs3 hs4 hs5
  have hba := (Below.refl w5.heap.size w5).alloc (Nat.le_refl _) (.cells #[.string ⟨#[120]⟩, .string ⟨#[121]⟩, .string ⟨#[122, 122]⟩] 9)
  have hnm := World.alloc_heap_new w5 (.cells #[.string ⟨#[120]⟩, .string ⟨#[121]⟩, .string ⟨#[122, 122]⟩] 9)
  have hszA : (w5.alloc (.cells #[.string ⟨#[120]⟩, .string ⟨#[121]⟩, .string ⟨#[122, 122]⟩] 9)).heap.size = w2.heap.size + 5 := by simp; omega
  rw [hsz5] at hnm
  have HINV := hideIt (show EInv w1 w2.heap.size (w5.alloc (.cells #[.string ⟨#[120]⟩, .string ⟨#[121]⟩, .string ⟨#[122, 122]⟩] 9)) (.slice none 0 0) 0 (-1) false (-1) false 0 [] [] from
    ⟨(HB12.out.trans (HB5.out.mono HB12.out.size)).trans (hba.mono (by have := HB12.out.size; omega)), by omega, HB12.out.size, (hba.block _ (by omega)).trans HZ5.out, HM5.out.block (hba.block _ (by omega)), HE5.out.block (hba.block _ (by omega)), (hba.block _ (by omega)).trans HR5.out, hnm, World.ownsRow_nil _ _ _ _, List.Pairwise.nil, Nat.le_refl _, Nat.le_refl _, by omega, by omega, fun x hx => (by cases hx), fun x hx => (by cases hx)⟩)
  clear hba hnm hszA HZ5 HM5 HE5 HR5 HB5
  have HWS := hideIt HB2.out.size
  have HB1W := hideIt HB1.out.size
  as_aux_lemma =>
  go_wp2_with fail
  go_loopw [7, 9] (fun v i wr => ∃ k : Nat, k ≤ an ∧ i = .int .i64 k ∧ Rnd w1 w2.heap.size wr v k) (fun _ i _ => an - (intOf i).toNat)
  case atStart => exact ⟨0, by omega, rfl, -1, false, -1, false, 0, [], [], HINV.out, ⟨rfl, fun _ => .inr rfl⟩, .refl _⟩
  case round =>
    clear HINV
    as_aux_lemma =>
    obtain ⟨k, hk, rfl, hrnd⟩ := hrel
    by_cases hlt : k < an
    · obtain ⟨l, d, fu, rd, n, xs, rs, hI, hsy, hpm⟩ := hrnd
      obtain ⟨ra, rc, rfl, hrc⟩ := RRow.slice hI.row
      have HI := hideIt hI
      have HSY := hideIt hsy
      have HPM := hideIt hpm
      clear hI hsy hpm
      obtain ⟨kd, s, xa, xb, m, lva, lvl, lvc, nm, pr, cva, cvl, cvc, uva, uvl, uvc, ab, ai, rfl, hact, hab, z0, z1, z2, z3, z4, z5, z6, z7, z8, z9⟩ := actE_at HQ.out HN1.out HI.out.bel hlt
      have HACT := hideIt hact
      have hxa := hact.2.2.2
      clear hact
      have hszr := HI.out.sz
      have hrl : rs.length ≤ k := HI.out.lk
      have hnk : n ≤ k := HI.out.nk
      have hba := (Below.refl wr.heap.size wr).alloc (Nat.le_refl _) (.cells #[.string kd, .string s, .int .i64 xa, .int .i64 xb, .int .u8 m, .slice lva lvl lvc, .string nm, .int .i64 pr, .slice cva cvl cvc, .slice uva uvl uvc] 63)
      have hbx := World.alloc_heap_new wr (.cells #[.string kd, .string s, .int .i64 xa, .int .i64 xb, .int .u8 m, .slice lva lvl lvc, .string nm, .int .i64 pr, .slice cva cvl cvc, .slice uva uvl uvc] 63)
      have hbz := hba.alloc hba.size (.cells #[.string ⟨#[]⟩, .string ⟨#[]⟩, .int .u64 0, .slice none 0 0] 119)
      have HAND := Qos.and_1023 xb
      have hn1 := names_at ((hba.block (w2.heap.size + 4) (by omega)).trans HI.out.nms) (show (xb % 1024 % 3).toNat < 3 by omega)
      have hn2 : ((wr.alloc (.cells #[.string kd, .string s, .int .i64 xa, .int .i64 xb, .int .u8 m, .slice lva lvl lvc, .string nm, .int .i64 pr, .slice cva cvl cvc, .slice uva uvl uvc] 63)).alloc (.cells #[.string ⟨#[]⟩, .string ⟨#[]⟩, .int .u64 0, .slice none 0 0] 119)).drew.cell? _ = _ := names_at ((hbz.block (w2.heap.size + 4) (by omega)).trans HI.out.nms) (show (xb % 1024 % 3).toNat < 3 by omega)
      have hcs := nmOf_short (xb % 1024 % 3).toNat
      generalize nmOf (xb % 1024 % 3).toNat = cn at hn1 hn2 hcs
      have HBX := hideIt hbx
      have HBA := hideIt hba
      clear hba hbx hbz
      go_wp2_with fail
      go_region
      as_aux_lemma =>
      generalize IntKind.u64.wrap xa = cp at *
      have hbw3 := below_drewR (HBA.out.alloc HBA.out.size (.cells #[.string s, .string cn, .int .u64 cp, .slice lva lvl lvc] 119))
      have hszW : ((wr.alloc (.cells #[.string kd, .string s, .int .i64 xa, .int .i64 xb, .int .u8 m, .slice lva lvl lvc, .string nm, .int .i64 pr, .slice cva cvl cvc, .slice uva uvl uvc] 63)).alloc (.cells #[.string s, .string cn, .int .u64 cp, .slice lva lvl lvc] 119)).drew.heap.size = wr.heap.size + 2 := by simp [World.drew]
      have hI3 := HI.out.below hbw3
      have HP3 := hideIt (show (xs.map (absR ((wr.alloc (.cells #[.string kd, .string s, .int .i64 xa, .int .i64 xb, .int .u8 m, .slice lva lvl lvc, .string nm, .int .i64 pr, .slice cva cvl cvc, .slice uva uvl uvc] 63)).alloc (.cells #[.string s, .string cn, .int .u64 cp, .slice lva lvl lvc] 119)).drew)).Perm (rs.map (absR ((wr.alloc (.cells #[.string kd, .string s, .int .i64 xa, .int .i64 xb, .int .u8 m, .slice lva lvl lvc, .string nm, .int .i64 pr, .slice cva cvl cvc, .slice uva uvl uvc] 63)).alloc (.cells #[.string s, .string cn, .int .u64 cp, .slice lva lvl lvc] 119)).drew)) from by rw [HI.out.rsmap hI3.bel hbw3.size, HI.out.xsmap (KInt.below hbw3)]; exact HPM.out)
      have HA3 : Hid (ActE ((wr.alloc (.cells #[.string kd, .string s, .int .i64 xa, .int .i64 xb, .int .u8 m, .slice lva lvl lvc, .string nm, .int .i64 pr, .slice cva cvl cvc, .slice uva uvl uvc] 63)).alloc (.cells #[.string s, .string cn, .int .u64 cp, .slice lva lvl lvc] 119)).drew wr.heap.size kd s xa xb m lva lvl lvc nm pr (.slice cva cvl cvc) (.slice uva uvl uvc)) := (((Below.refl _ (wr.alloc (.cells #[.string kd, .string s, .int .i64 xa, .int .i64 xb, .int .u8 m, .slice lva lvl lvc, .string nm, .int .i64 pr, .slice cva cvl cvc, .slice uva uvl uvc] 63))).alloc (Nat.le_refl _) (.cells #[.string s, .string cn, .int .u64 cp, .slice lva lvl lvc] 119)).block wr.heap.size (by simp)).trans HBX.out
      have HR3 : Hid (RBox ((wr.alloc (.cells #[.string kd, .string s, .int .i64 xa, .int .i64 xb, .int .u8 m, .slice lva lvl lvc, .string nm, .int .i64 pr, .slice cva cvl cvc, .slice uva uvl uvc] 63)).alloc (.cells #[.string s, .string cn, .int .u64 cp, .slice lva lvl lvc] 119)).drew (wr.heap.size + 1) ⟨s, cn, cp, lva, lvl, lvc⟩) := by
        have hh := RBox.made (wr.alloc (.cells #[.string kd, .string s, .int .i64 xa, .int .i64 xb, .int .u8 m, .slice lva lvl lvc, .string nm, .int .i64 pr, .slice cva cvl cvc, .slice uva uvl uvc] 63)) ⟨s, cn, cp, lva, lvl, lvc⟩
        rw [World.size_alloc] at hh
        exact hh
      have hdv := argDevs (x := ⟨s, cn, cp, lva, lvl, lvc⟩) HACT.out.2.2.1
      have HX3 := hideIt (show ArgRun w1 ((wr.alloc (.cells #[.string kd, .string s, .int .i64 xa, .int .i64 xb, .int .u8 m, .slice lva lvl lvc, .string nm, .int .i64 pr, .slice cva cvl cvc, .slice uva uvl uvc] 63)).alloc (.cells #[.string s, .string cn, .int .u64 cp, .slice lva lvl lvc] 119)).drew ⟨s, cn, cp, lva, lvl, lvc⟩ from ⟨⟨HACT.out.1, hcs⟩, (hdv.1.below hI3.bel (fun _ _ _ h => h)).1, HACT.out.2.1, hdv.2⟩)
      have HI3 := hideIt hI3
      clear hdv hI3 hbw3 HBA HBX HPM HI z0 z1 z2 z3 z4 z5 z6 z7 z8 z9 hn1 hn2 HAND HACT hab
      generalize ((wr.alloc (.cells #[.string kd, .string s, .int .i64 xa, .int .i64 xb, .int .u8 m, .slice lva lvl lvc, .string nm, .int .i64 pr, .slice cva cvl cvc, .slice uva uvl uvc] 63)).alloc (.cells #[.string s, .string cn, .int .u64 cp, .slice lva lvl lvc] 119)).drew = W at *
      generalize wr.heap.size = D at *
      clear wr
      as_aux_lemma =>
      go_wp2_with fail
      refine wp_exitAt (findLoop (by omega) (by omega) (hideIt HI3.out.row) HR3) (fun a w' hfr => ?_)
      obtain ⟨F, rfl, hat, hB⟩ := hfr
      have hI4 := HI3.out.below hB
      have HP4 := hideIt (show (xs.map (absR w')).Perm (rs.map (absR w')) from by rw [HI3.out.rsmap hI4.bel hB.size, HI3.out.xsmap (KInt.below hB)]; exact HP3.out)
      have HA4 : Hid (ActE w' D kd s xa xb m lva lvl lvc nm pr (.slice cva cvl cvc) (.slice uva uvl uvc)) := (hB.block D (by omega)).trans HA3.out
      have HR4 := hideIt (show RBox w' (D + 1) ⟨s, cn, cp, lva, lvl, lvc⟩ from (hB.block (D + 1) (by omega)).trans HR3.out)
      have HX4 := hideIt (argRun_keep HX3.out HI3.out.bel hI4.bel hB.size).1
      have hDW : D + 1 < w'.heap.size := by have := hB.size; omega
      have HI4 := hideIt hI4
      have HAT := hideIt hat
      clear hI4 hat hB HI3 HP3 HA3 HR3 HX3 hszW
      iterate 2 (first | go_values | go_skip | go_guarded | go_step)
      rcases two (kd.toList == [115, 116, 97, 114, 116]) with hk1 | hk1
      · refine wp_normalAt (way_start (by omega) hlt hrl hnk hrc hszr hDW hxa HI4 HP4 HA4 HR4 HX4 HSY HAT hk1) (fun a w'' hfr => ?_)
        obtain ⟨F2, rfl, hR⟩ := hfr
        rw [show w2.heap.size + 2 = w2.heap.size + 1 + 1 from rfl]
        have HR9 := hideIt hR
        clear hR HI4 HP4 HA4 HR4 HX4 HSY HAT
        as_aux_lemma =>
        go_wp2_with fail
        go_roundw
        case rel => exact ⟨k + 1, by omega, by go_num, HR9.out⟩
        case measure => simp [intOf]; omega
      · rcases two (kd.toList == [115, 116, 111, 112]) with hk2 | hk2
        · refine wp_normalAt (way_stop (by omega) hlt hrl hnk hrc hszr hDW hxa HI4 HP4 HA4 HR4 HX4 HSY HAT hk1 hk2) (fun a w'' hfr => ?_)
          obtain ⟨F2, rfl, hR⟩ := hfr
          rw [show w2.heap.size + 2 = w2.heap.size + 1 + 1 from rfl]
          have HR9 := hideIt hR
          clear hR HI4 HP4 HA4 HR4 HX4 HSY HAT
          as_aux_lemma =>
          go_wp2_with fail
          go_roundw
          case rel => exact ⟨k + 1, by omega, by go_num, HR9.out⟩
          case measure => simp [intOf]; omega
        · rcases two (kd.toList == [97, 114, 109]) with hk3 | hk3
          · refine wp_normalAt (way_arm (by omega) hlt hrl hnk hrc hszr hDW hxa HI4 HP4 HA4 HR4 HX4 HSY HAT hk1 hk2 hk3) (fun a w'' hfr => ?_)
            obtain ⟨F2, rfl, hR⟩ := hfr
            rw [show w2.heap.size + 2 = w2.heap.size + 1 + 1 from rfl]
            have HR9 := hideIt hR
            clear hR HI4 HP4 HA4 HR4 HX4 HSY HAT
            as_aux_lemma =>
            go_wp2_with fail
            go_roundw
            case rel => exact ⟨k + 1, by omega, by go_num, HR9.out⟩
            case measure => simp [intOf]; omega
          · refine wp_normalAt (way_rest (by omega) hlt hrl hnk hrc hszr hDW hxa HI4 HP4 HA4 HR4 HX4 HSY HAT hk1 hk2 hk3) (fun a w'' hfr => ?_)
            obtain ⟨F2, rfl, hR⟩ := hfr
            rw [show w2.heap.size + 2 = w2.heap.size + 1 + 1 from rfl]
            have HR9 := hideIt hR
            clear hR HI4 HP4 HA4 HR4 HX4 HSY HAT
            as_aux_lemma =>
            go_wp2_with fail
            go_roundw
            case rel => exact ⟨k + 1, by omega, by go_num, HR9.out⟩
            case measure => simp [intOf]; omega
    · have hke : k = an := by omega
      subst hke
      obtain ⟨l, d, fu, rd, n, xs, rs, hI, hsy, hpm⟩ := hrnd
      obtain ⟨ra, rc, rfl, hrc⟩ := RRow.slice hI.row
      have HB := hideIt (HB1.out.trans (hI.bel.mono HB1.out.size))
      clear hI hsy hpm
      go_wp2_with fail
      go_ret
      exact ⟨rfl, HB.out⟩
end Go.Proofs.Ythekalhceamcoaa
