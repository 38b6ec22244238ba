/- VTF -/
import Derived.Test.YtlljniaobbbjgaaGreatDoorU25
import Derived.Test.YtlljniaobbbjgaaGreatDoorU10
namespace Go.Proofs.YtlljniaobbbjgaaGreatDoor
open Go.RowKit Go.Shelf
open Sv (Gv Hd gv hd wd Tx sumTxt heldTxt heldF body readS OkL)
open S1 (Mx Tab)
theorem nil_len : (heldTxt []).length ≤ 6000 := by
  have := Sv.sumTxt_le (body [])
  have h : heldTxt [] = sumTxt (body []) := rfl
  rw [h]; omega
/-- Where a disk stands, among what came in. -/
structure Stand (w W : World) (s : Dk) (hs : List Hd) : Prop where
  dk : DkAt W w.heap.size s
  bel : Below w.heap.size w W
  holds : Holds s hs
  kn : s.k = s.n
  wt : s.wt = none
theorem Stand.below {w W W' : World} {s : Dk} {hs : List Hd} (h : Stand w W s hs) (hb : Below W.heap.size W W') : Stand w W' s hs := ⟨h.dk.below hb, h.bel.trans (hb.mono h.bel.size), h.holds, h.kn, h.wt⟩
theorem save_stand (w W : World) (s : Dk) (v : Value) (hs : List Hd) (h : DkAt W w.heap.size s) (hb : Below w.heap.size w W) (hw : s.wt = none) (hv : HldsAt w v hs) (ht : TabUp w) (h0 : (s.save hs).1 = 0) : Calls Tryz.prog 15 #[.pointer (some ⟨w.heap.size, 0, none⟩), v] W fun e w' => e = .returned .nilIface ∧ ∃ s', Stand w w' s' hs ∧ (s.d = false → s.l = -1 → s'.l = -1) := by
  obtain ⟨z1, z2, z3⟩ := save_zero hv.cps h0
  refine (save_any w.heap.size s v hs W h (.inl hw) (hv.below hb) (ht.below hb)).mono ?_
  rintro e w' ⟨rfl, hd, hg⟩
  refine ⟨by rw [h0]; rfl, _, ⟨hd, below_of_grown hb hg (Nat.le_refl _) hb.size, z1, z2, z3⟩, ?_⟩
  intro hd2 hl2
  unfold Dk.save
  rw [if_pos z1.hf]
  rcases from_cases s ⟨(heldTxt hs).toArray⟩ with ⟨h0, h1, h2, h3, e⟩ | ⟨k, _, _, h0', e⟩
  · rw [e, run_4 h0 h1 h2 h3]
    show stepN (stepN (stepN (stepN s.l s.d) false) false) false = -1
    rw [hd2, hl2]; rfl
  · unfold Dk.save at h0; rw [if_pos z1.hf, e] at h0; exact absurd h0 h0'
theorem save_other (w W : World) (s : Dk) (v : Value) (hs : List Hd) (h : DkAt W w.heap.size s) (hb : Below w.heap.size w W) (hw : s.wt = none) (hv : HldsAt w v hs) (ht : TabUp w) (h0 : (s.save hs).1 ≠ 0) : Calls Tryz.prog 15 #[.pointer (some ⟨w.heap.size, 0, none⟩), v] W fun e w' => e = .returned (.iface 80 (.int .i64 ((s.save hs).1 : Nat))) ∧ DkAt w' w.heap.size (s.save hs).2 ∧ Below w.heap.size w w' := by
  refine (save_any w.heap.size s v hs W h (.inl hw) (hv.below hb) (ht.below hb)).mono ?_
  rintro e w' ⟨rfl, hd, hg⟩
  exact ⟨by rw [errQ_pos h0], hd, below_of_grown hb hg (Nat.le_refl _) hb.size⟩
theorem load_stand (w W : World) (s : Dk) (hs : List Hd) (h : DkAt W w.heap.size s) (hb : Below w.heap.size w W) (hh : Holds s hs) (ht : TabUp w) (hm : Mx w) : Calls Tryz.prog 14 #[.pointer (some ⟨w.heap.size, 0, none⟩)] W fun e w' => ∃ a c, e = .returned (.tuple #[.slice a hs.length c, .nilIface]) ∧ HldsAt w' (.slice a hs.length c) hs ∧ Below W.heap.size W w' := by
  refine (load_any w.heap.size s W h hh.size (ht.below hb) (hm.below hb)).mono ?_
  rintro e w' ⟨v, rfl, hv, hb2⟩
  rw [hh.load] at hv ⊢
  obtain ⟨a, c, rfl, _, _⟩ := id hv
  exact ⟨a, c, rfl, hv, hb2⟩
theorem restart_stand (w W : World) (s : Dk) (keep torn : Int) (h : DkAt W w.heap.size s) (hb : Below w.heap.size w W) : Calls Tryz.prog 24 #[.pointer (some ⟨w.heap.size, 0, none⟩), .int .i64 keep, .int .i64 torn] W fun e w' => e = .returned (.tuple #[]) ∧ DkAt w' w.heap.size (s.restart keep torn) ∧ Below w.heap.size w w' := by
  refine (restart_any w.heap.size s keep torn W h).mono ?_
  rintro e w' ⟨rfl, hd, hg⟩
  exact ⟨rfl, hd, below_of_grown hb hg (Nat.le_refl _) hb.size⟩
theorem arm_stand (w W : World) (s : Dk) (hs : List Hd) (m : Int) (h : Stand w W s hs) (hm : -1 ≤ m ∧ m ≤ 20) : Calls Tryz.prog 22 #[.pointer (some ⟨w.heap.size, 0, none⟩), .int .i64 m] W fun e w' => e = .returned (.tuple #[]) ∧ Stand w w' { s with l := m } hs := by
  refine (arm_any w.heap.size s m W h.dk (by omega)).mono ?_
  rintro e w' ⟨rfl, hd, hg⟩
  exact ⟨rfl, hd, below_of_grown h.bel hg (Nat.le_refl _) h.bel.size, ⟨h.holds.up, h.holds.ft, h.holds.fb, h.holds.hf, h.holds.len, h.holds.ok⟩, h.kn, h.wt⟩
set_option maxRecDepth 100000 in
set_option maxHeartbeats 4000000 in
theorem topFile_true (v1 v2 : Value) (ls os : List Hd) (fuse keep torn : Int) (w : World) (h1 : HldsAt w v1 ls) (h2 : HldsAt w v2 os) (ht : TabUp w) (hm : Mx w) :
    Calls Tryz.prog 5 #[v1, v2, .int .i64 fuse, .int .i64 keep, .int .i64 torn] w fun e w' => e = .returned (.bool true) ∧ Below w.heap.size w w' := by
  have HT := hideIt ht
  have HM := hideIt hm
  have H1 := hideIt h1
  have H2 := hideIt h2
  have hmm : -1 ≤ min (max fuse (-1)) 20 ∧ min (max fuse (-1)) 20 ≤ 20 := by omega
  have HMM := hideIt hmm
  obtain ⟨a1, c1, rfl, m1, _⟩ := h1
  obtain ⟨a2, c2, rfl, m2, _⟩ := h2
  clear ht hm hmm m1 m2
  go_enter Tryz.func5, Tryz.ntmps5
  go_wp2_with fail
  refine (diskNew_any w).mono ?_
  rintro e w1 ⟨rfl, hd1, hb1⟩
  have HD1 := hideIt hd1
  have HB1 := hideIt hb1
  clear hd1 hb1
  go_wp2_with fail
  refine (save_stand w w1 Dk.fresh (.slice none 0 0) [] HD1.out HB1.out rfl (hlds_nil _) HT.out (save_calm (by decide) rfl rfl nil_len)).mono ?_
  rintro e w2 ⟨rfl, s1, hs1, _⟩
  have HS1 := hideIt hs1
  clear hs1 HD1 HB1
  go_wp2_with fail
  refine (load_stand w w2 _ [] HS1.out.dk HS1.out.bel HS1.out.holds HT.out HM.out).mono ?_
  rintro e w3 ⟨xa3, xc3, rfl, hx, hbx⟩
  have HX3 := hideIt hx
  have HBX3 := hideIt hbx
  clear hx hbx
  have HS3 := hideIt (HS1.out.below HBX3.out)
  clear HX3 HBX3 HS1
  go_wp2_with fail
  refine (lightHeld_any _ ls w3 (H1.out.below HS3.out.bel)).mono ?_
  rintro e w4 ⟨⟨lb1, rfl⟩, hb4⟩
  have HS4 := hideIt (HS3.out.below hb4)
  clear hb4 HS3
  cases lb1 with
  | false =>
    go_wp2_with fail
    go_ret
    exact ⟨rfl, HS4.out.bel⟩
  | true =>
    go_wp2_with fail
    refine (lightHeld_any _ os w4 (H2.out.below HS4.out.bel)).mono ?_
    rintro e w5 ⟨⟨lb2, rfl⟩, hb5⟩
    have HS5 := hideIt (HS4.out.below hb5)
    clear hb5 HS4
    cases lb2 with
    | false =>
      go_wp2_with fail
      go_ret
      exact ⟨rfl, HS5.out.bel⟩
    | true =>
      by_cases hz1 : (s1.save ls).1 = 0
      · have HZ1 := hideIt hz1
        clear hz1
        go_wp2_with fail
        refine (save_stand w w5 s1 _ ls HS5.out.dk HS5.out.bel HS5.out.wt H1.out HT.out HZ1.out).mono ?_
        rintro e w6 ⟨rfl, s2, hs6, _⟩
        have HS6 := hideIt hs6
        clear hs6 HS5 HZ1
        go_wp2_with fail
        refine (arm_stand w w6 s2 ls _ HS6.out HMM.out).mono ?_
        rintro e w7 ⟨rfl, hs7⟩
        have HS7 := hideIt hs7
        clear hs7 HS6 HMM
        generalize ({ s2 with l := min (max fuse (-1)) 20 } : Dk) = s3 at *
        by_cases hz2 : (s3.save os).1 = 0
        · have HZ2 := hideIt hz2
          have HHO := hideIt (save_again H2.out.cps hz2 keep torn)
          clear hz2
          go_wp2_with fail
          refine (save_any w.heap.size s3 _ os w7 HS7.out.dk (.inl HS7.out.wt) (H2.out.below HS7.out.bel) (HT.out.below HS7.out.bel)).mono ?_
          rintro e w8 ⟨rfl, hd8, hg8⟩
          rw [HZ2.out]
          have HD8 := hideIt hd8
          have HB8 := hideIt (below_of_grown HS7.out.bel hg8 (Nat.le_refl _) HS7.out.bel.size)
          clear hd8 hg8 HS7 HZ2
          rw [errV_0]
          go_wp2_with fail
          refine (restart_stand w _ (s3.save os).2 keep torn HD8.out HB8.out).mono ?_
          rintro e w9 ⟨rfl, hd9, hb9⟩
          have HD9 := hideIt hd9
          have HB9 := hideIt hb9
          clear hd9 hb9 HD8 HB8
          go_wp2_with fail
          refine (load_stand w w9 _ os HD9.out HB9.out HHO.out HT.out HM.out).mono ?_
          rintro e w10 ⟨xa, xc, rfl, hx, hb10⟩
          have HXA := hideIt hx
          have HB10 := hideIt (HB9.out.trans (hb10.mono HB9.out.size))
          clear hx hb10
          go_wp2_with fail
          refine (sameHeld_any _ _ os os w10 HXA.out (H2.out.below HB10.out)).mono ?_
          rintro e w11 ⟨sb, rfl, hsb, hb11⟩
          have hsb2 := hsb rfl
          subst hsb2
          have HB11 := hideIt (HB10.out.trans (hb11.mono HB10.out.size))
          clear hb11 hsb
          go_wp2_with fail
          go_ret
          exact ⟨rfl, HB11.out⟩
        · have HZ2 := hideIt hz2
          by_cases hz3 : (s3.save os).1 = 11
          · have HZ3 := hideIt hz3
            have HHO := hideIt (save_restart H2.out.cps HS7.out.holds HS7.out.kn HS7.out.wt hz2 keep torn)
            clear hz2 hz3
            go_wp2_with fail
            refine (save_other w w7 s3 _ os HS7.out.dk HS7.out.bel HS7.out.wt H2.out HT.out HZ2.out).mono ?_
            rintro e w8 ⟨rfl, hd8, hb8⟩
            rw [HZ3.out]
            have HD8 := hideIt hd8
            have HB8 := hideIt hb8
            clear hd8 hb8 HS7 HZ2 HZ3
            go_wp2_with fail
            refine (number_any _ w8).mono ?_
            rintro e w8' ⟨rfl, rfl⟩
            rcases HHO.out with hho | hho
            · have HHL := hideIt hho
              clear hho HHO
              go_wp2_with fail
              refine (restart_stand w _ (s3.save os).2 keep torn HD8.out HB8.out).mono ?_
              rintro e w9 ⟨rfl, hd9, hb9⟩
              have HD9 := hideIt hd9
              have HB9 := hideIt hb9
              clear hd9 hb9 HD8 HB8
              go_wp2_with fail
              refine (load_stand w w9 _ ls HD9.out HB9.out HHL.out HT.out HM.out).mono ?_
              rintro e w10 ⟨xa, xc, rfl, hx, hb10⟩
              have HXA := hideIt hx
              have HB10 := hideIt (HB9.out.trans (hb10.mono HB9.out.size))
              clear hx hb10
              go_wp2_with fail
              refine (sameHeld_any _ _ ls os w10 HXA.out (H2.out.below HB10.out)).mono ?_
              rintro e w11 ⟨sb, rfl, _, hb11⟩
              have HB11 := hideIt (HB10.out.trans (hb11.mono HB10.out.size))
              have HXB := hideIt (HXA.out.below hb11)
              clear hb11
              cases sb with
              | true =>
                go_wp2_with fail
                go_ret
                exact ⟨rfl, HB11.out⟩
              | false =>
                go_wp2_with fail
                refine (sameHeld_any _ _ ls ls w11 HXB.out (H1.out.below HB11.out)).mono ?_
                rintro e w12 ⟨sb, rfl, hsb, hb12⟩
                have hsb2 := hsb rfl
                subst hsb2
                have HB12 := hideIt (HB11.out.trans (hb12.mono HB11.out.size))
                clear hb12 hsb
                go_wp2_with fail
                go_ret
                exact ⟨rfl, HB12.out⟩
            · have HHN := hideIt hho
              clear hho HHO
              go_wp2_with fail
              refine (restart_stand w _ (s3.save os).2 keep torn HD8.out HB8.out).mono ?_
              rintro e w9 ⟨rfl, hd9, hb9⟩
              have HD9 := hideIt hd9
              have HB9 := hideIt hb9
              clear hd9 hb9 HD8 HB8
              go_wp2_with fail
              refine (load_stand w w9 _ os HD9.out HB9.out HHN.out HT.out HM.out).mono ?_
              rintro e w10 ⟨xa, xc, rfl, hx, hb10⟩
              have HXA := hideIt hx
              have HB10 := hideIt (HB9.out.trans (hb10.mono HB9.out.size))
              clear hx hb10
              go_wp2_with fail
              refine (sameHeld_any _ _ os os w10 HXA.out (H2.out.below HB10.out)).mono ?_
              rintro e w11 ⟨sb, rfl, hsb, hb11⟩
              have hsb2 := hsb rfl
              subst hsb2
              have HB11 := hideIt (HB10.out.trans (hb11.mono HB10.out.size))
              clear hb11 hsb
              go_wp2_with fail
              go_ret
              exact ⟨rfl, HB11.out⟩
          · have hsame := save_fault hz2 hz3
            have hne : (((s3.save os).1 : Int) == 11) = false := by simp; omega
            go_wp2_with fail
            refine (save_other w w7 s3 _ os HS7.out.dk HS7.out.bel HS7.out.wt H2.out HT.out HZ2.out).mono ?_
            rintro e w8 ⟨rfl, hd8, hb8⟩
            rw [hsame] at hd8
            have HD8 := hideIt hd8
            have HB8 := hideIt hb8
            have HHS := hideIt HS7.out.holds
            clear hd8 hb8 HS7 HZ2 hsame hz2 hz3
            generalize (s3.save os).1 = E at *
            go_wp2_with fail
            refine (number_any _ w8).mono ?_
            rintro e w8' ⟨rfl, rfl⟩
            go_wp2_with fail
            refine (load_stand w _ s3 ls HD8.out HB8.out HHS.out HT.out HM.out).mono ?_
            rintro e w10 ⟨xa, xc, rfl, hx, hb10⟩
            have HXA := hideIt hx
            have HB10 := hideIt (HB8.out.trans (hb10.mono HB8.out.size))
            clear hx hb10
            go_wp2_with fail
            refine (sameHeld_any _ _ ls ls w10 HXA.out (H1.out.below HB10.out)).mono ?_
            rintro e w11 ⟨sb, rfl, hsb, hb11⟩
            have hsb2 := hsb rfl
            subst hsb2
            have HB11 := hideIt (HB10.out.trans (hb11.mono HB10.out.size))
            clear hb11 hsb
            go_wp2_with fail
            go_ret
            exact ⟨rfl, HB11.out⟩
      · have HZ1 := hideIt hz1
        clear hz1
        go_wp2_with fail
        refine (save_other w w5 s1 _ ls HS5.out.dk HS5.out.bel HS5.out.wt H1.out HT.out HZ1.out).mono ?_
        rintro e w6 ⟨rfl, _, hb6⟩
        have HB6 := hideIt hb6
        clear hb6
        go_wp2_with fail
        go_ret
        exact ⟨rfl, HB6.out⟩
end Go.Proofs.YtlljniaobbbjgaaGreatDoor
