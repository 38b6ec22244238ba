/- A container runs: the closed fact of 'EngineSays'. -/
import Derived.Test.YthekalhceamcoaaRM1
namespace Go.Proofs.Ythekalhceamcoaa
open Go.RowKit
set_option maxHeartbeats 400000 in
theorem same_zeroE (w : World) : Calls Try.prog 19 #[.nilIface, .int .i64 0] w fun e w' => e = .returned (.bool true) ∧ w' = w := by
  go_enter Try.func19, Try.ntmps19
  go_wp2_with fail
  go_ret
  exact ⟨rfl, rfl⟩
def xE (g : Nat) : RV := ⟨⟨#[97]⟩, ⟨#[120]⟩, 0, some ⟨g, 0, none⟩, 1, 1⟩
theorem xE_short (g : Nat) : (xE g).Short := ⟨(by decide : (⟨#[97]⟩ : ByteArray).size ≤ 7000), (by decide : (⟨#[120]⟩ : ByteArray).size ≤ 7000)⟩
theorem two_devs (w : World) (g : Nat) (hg : g < w.heap.size) (h : w.cell? ⟨g, 0, none⟩ = some (.int .i64 2)) : DevsOk w (xE g) ∧ devsOf w (xE g) = [2] := by
  have hd : devAt w (xE g) 0 = 2 := by
    unfold devAt xE
    simp only
    rw [Addr.add_lit, Nat.zero_add, h]
  refine ⟨fun _ => ⟨g, 0, rfl, hg, fun k hk => ?_⟩, ?_⟩
  · have hk0 : k = 0 := by unfold xE at hk; simp only at hk; omega
    subst hk0
    rw [Nat.zero_add, hd, h]
  · unfold devsOf
    show (List.range 1).map _ = _
    simp [hd]
theorem one_of {w w' : World} {ys : List RV} {y : RV} (h : (ys.map (absR w')).Perm ([y].map (absR w))) : ys.length = 1 ∧ absR w' (rv ys 0) = absR w y := by
  have hl : ys.length = 1 := by simpa using h.length_eq
  refine ⟨hl, ?_⟩
  match ys, hl with
  | [z], _ =>
    have := List.perm_singleton.1 h
    simp at this
    simpa [rv] using this
set_option maxRecDepth 100000 in
set_option maxHeartbeats 600000 in
theorem engines_any (w : World) : Calls Try.prog 70 #[] w fun e w' => e = .returned (.bool true) ∧ Below w.heap.size w w' := by
  go_enter Try.func70, Try.ntmps70
  go_wp2_with fail
  refine (newDisk_any w).mono ?_
  rintro e w1 ⟨rfl, hz1, hb1, hs1⟩
  have HZ1 := hideIt hz1
  have HB1 := hideIt hb1
  clear hz1 hb1
  go_wp2_with fail
  refine (newEng_any w.heap.size w1).mono ?_
  rintro e w2 ⟨rfl, he2, hm2, hb2, hs2⟩
  have HE2 := hideIt he2
  have HM2 := hideIt hm2
  have HZ2 := hideIt (show DiskZ w2 w.heap.size (-1) false from (hb2.block w.heap.size (by omega)).trans HZ1.out)
  have HB2 := hideIt (HB1.out.trans (hb2.mono HB1.out.size))
  clear he2 hm2 hb2 HZ1 HB1
  rw [hs1] at HE2 HM2
  rw [hs1]
  have hba := (Below.refl w2.heap.size w2).alloc (Nat.le_refl _) (.cells #[.int .i64 2] 3)
  obtain ⟨hd1, hd2⟩ := two_devs (w2.alloc (.cells #[.int .i64 2] 3)) w2.heap.size (by simp) (by simp)
  have HST := hideIt (start_any (w.heap.size + 1 + 1) w.heap.size (w.heap.size + 1) 0 [] (xE w2.heap.size) (-1) false (w2.alloc (.cells #[.int .i64 2] 3)) (HE2.out.block (hba.block _ HE2.out.lt)) (HM2.out.block (hba.block _ HM2.out.lt)) ((hba.block _ HZ2.out.lt).trans HZ2.out) (by omega) (xE_short _) hd1 (fun _ g' o' e => by unfold xE at e; cases e; omega) (by show (1 : Nat) ≤ 1000; omega) (by omega))
  have HE3 := hideIt (HE2.out.block (hba.block _ HE2.out.lt))
  have HB3 := hideIt (HB2.out.trans (hba.mono HB2.out.size))
  have HD2 := hideIt hd2
  have hs3 : (w2.alloc (.cells #[.int .i64 2] 3)).heap.size = w.heap.size + 1 + 2 + 1 := by simp; omega
  dsimp only [xE] at HST HD2
  rw [hs2, hs1] at HST HD2
  clear hba hd1 hd2 HM2 HZ2 HE2
  go_wp2_with fail
  generalize w2.alloc (.cells #[.int .i64 2] 3) = W3 at *
  refine HST.out.mono ?_
  rintro e w4 ⟨he, hst⟩
  have he' : e = .returned .nilIface := he
  subst he'
  clear he
  obtain ⟨a, c, hm4, ho4, hd4⟩ := hst.yes rfl
  have hb4 := hst.out.below (K := w.heap.size) (Nat.le_refl _) (by omega) (by omega)
  have HB4 := hideIt (HB3.out.trans hb4)
  have he4 := HE3.out.block (hst.out.block (w.heap.size + 1 + 1) (by omega) (by omega) (by omega))
  have HLS := hideIt (list_anyR _ _ _ _ _ w4 he4 hm4 (by simp) (fun x hx => by simp at hx; subst hx; exact ⟨ho4.1, by show (1 : Nat) ≤ 1000; omega⟩))
  have HD4 := hideIt (hd4.trans HD2.out)
  clear hst hm4 ho4 hd4 hb4 he4 HST HE3 HD2
  go_wp2_with fail
  refine HLS.out.mono ?_
  rintro e w5 ⟨⟨v5, ys, rfl, hr5, hy5, hp5, _⟩, hb5⟩
  have HB5 := hideIt (HB4.out.trans (hb5.mono HB4.out.size))
  obtain ⟨hl1, habs⟩ := one_of hp5
  have hdv : devsOf w5 (rv ys 0) = [2] := by
    have := congrArg Rn.devs habs
    exact this.trans HD4.out
  obtain ⟨hk1, hk2⟩ := hy5 (rv ys 0) (rv_mem (by omega))
  obtain ⟨a5, c5, rfl, _, hrr⟩ := hr5
  obtain ⟨g5, rfl, _, hg5, hcs⟩ := hrr (by omega)
  obtain ⟨⟨x0, x1, x2, x3⟩, _⟩ := hcs 0 (by omega)
  rw [hl1]
  have HK := hideIt hk1
  have HDV := hideIt hdv
  simp only [Nat.zero_mul, Nat.zero_add] at x0 x1 x2 x3
  clear hy5 hp5 hb5 habs hdv hk1 hrr hcs HLS HD4 hl1
  go_wp2_with fail
  refine (same_zeroE w5).mono ?_
  rintro e w6 ⟨rfl, rfl⟩
  have hba := (Below.refl w6.heap.size w6).alloc (Nat.le_refl _) (.cells #[.int .i64 2] 3)
  have HB6 := hideIt (HB5.out.trans (hba.mono HB5.out.size))
  obtain ⟨hd1, hd2⟩ := two_devs (w6.alloc (.cells #[.int .i64 2] 3)) w6.heap.size (by simp) (by simp)
  obtain ⟨k1, k2⟩ := HK.out.below hba (fun _ _ _ h => h)
  have HSD := hideIt (sameDevs_any (rv ys 0) (xE w6.heap.size) _ k1 hd1 (by rw [k2, hd2]; exact HDV.out) hk2)
  dsimp only [xE] at HSD
  clear hba hd1 hd2 k1 k2
  go_wp2_with fail
  refine HSD.out.mono ?_
  rintro e w7 ⟨rfl, n7, rfl⟩
  have HB7 := hideIt (below_drewN HB6.out n7)
  go_wp2_with fail
  go_ret
  exact ⟨by simp, HB7.out⟩
theorem run_assertE (f : Int) (w : World) : (Instr.typeAssert (.iface 133 (.int .i64 f)) 30 133 true).run Try.prog w = .ok (.tuple #[.int .i64 f, .bool true]) w := by kernel_rfl
set_option maxRecDepth 100000 in
set_option maxHeartbeats 400000 in
theorem same_posE (f : Int) (w : World) (h : 0 < f) : Calls Try.prog 19 #[.iface 133 (.int .i64 f), .int .i64 f] w fun e w' => e = .returned (.bool true) ∧ w' = w := by
  have hta := run_assertE f
  go_enter Try.func19, Try.ntmps19
  go_wp2_with fail
  go_ret
  exact ⟨rfl, rfl⟩
theorem same_errE (f : Nat) (w : World) : Calls Try.prog 19 #[errV (f : Int), .int .i64 (f : Int)] w fun e w' => e = .returned (.bool true) ∧ w' = w := by
  by_cases h : f = 0
  · subst h
    exact same_zeroE w
  · rw [show errV (f : Int) = .iface 133 (.int .i64 f) from by unfold errV; rw [if_neg (by omega)]]
    exact same_posE f w (by omega)
end Go.Proofs.Ythekalhceamcoaa
