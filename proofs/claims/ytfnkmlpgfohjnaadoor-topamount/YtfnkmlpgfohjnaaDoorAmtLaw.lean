/- AmountSays: whatever the number and the text, it answers true: the walk, out of the contracts. -/
import Derived.Test.YtfnkmlpgfohjnaaDoorRef4
import Derived.Test.YtfnkmlpgfohjnaaDoorRef5
import Derived.Test.YtfnkmlpgfohjnaaDoorSame
namespace Go.Proofs.YtfnkmlpgfohjnaaDoor
open Go.RowKit
theorem milli_c (s : ByteArray) (a f : Int) (w : World) (hs : s.size < 4294967281) (hm : Mx w) (h : Ost.milliOut s.data.toList = (a, f)) :
    Calls Tryd.prog 25 #[.string s] w fun e w' => e = .returned (.tuple #[.int .i64 a, errV f]) ∧ Below w.heap.size w w' := by
  refine (milli_any s w hs hm).mono ?_
  rintro e w' ⟨he, n, rfl⟩
  exact ⟨by rw [he, h]; rfl, below_drewN (Below.refl _ w) n⟩
theorem bytes_c (s : ByteArray) (a f : Int) (w : World) (hs : s.size < 4294967281) (hu : Units w) (h : Ost.bytesOut s.data.toList = (a, f)) :
    Calls Tryd.prog 27 #[.string s] w fun e w' => e = .returned (.tuple #[.int .i64 a, errV f]) ∧ w' = w := by
  refine (bytes_any s w hs hu).mono ?_
  rintro e w' ⟨he, rfl⟩
  exact ⟨by rw [he, h]; rfl, rfl⟩
theorem refMilli_c (s : ByteArray) (a f : Int) (w : World) (hs : s.size ≤ 100) (h : Ost.milliOut s.data.toList = (a, f)) :
    Calls Tryd.prog 26 #[.string s] w fun e w' => e = .returned (.tuple #[.int .i64 a, .int .i64 f]) ∧ w' = w := by
  refine (refMilli_any s w hs).mono ?_
  rintro e w' ⟨he, rfl⟩
  exact ⟨by rw [he, h]; rfl, rfl⟩
theorem refBytes_c (s : ByteArray) (a f : Int) (w : World) (hs : s.size ≤ 100) (h : Ost.bytesOut s.data.toList = (a, f)) :
    Calls Tryd.prog 28 #[.string s] w fun e w' => e = .returned (.tuple #[.int .i64 a, .int .i64 f]) ∧ w' = w := by
  refine (refBytes_any s w hs).mono ?_
  rintro e w' ⟨he, rfl⟩
  exact ⟨by rw [he, h]; rfl, rfl⟩
theorem milliText_c (n : Int) (t : List UInt8) (f : Int) (w : World) (hn1 : -9223372036854775808 ≤ n) (hn2 : n ≤ 9223372036854775807) (ht : Tab w) (h : milliText n = (t, f)) :
    Calls Tryd.prog 29 #[.int .i64 n] w fun e w' => e = .returned (.tuple #[.string ⟨t.toArray⟩, errV f]) ∧ Below w.heap.size w w' := by
  refine (milliText_any n w hn1 hn2 ht).mono ?_
  rintro e w' ⟨he, hb⟩
  exact ⟨by rw [he, h]; rfl, hb⟩
theorem bytesText_c (n : Int) (t : List UInt8) (f : Int) (w : World) (hn1 : -9223372036854775808 ≤ n) (hn2 : n ≤ 9223372036854775807) (ht : Tab w) (hu : Units w) (h : bytesText n = (t, f)) :
    Calls Tryd.prog 31 #[.int .i64 n] w fun e w' => e = .returned (.tuple #[.string ⟨t.toArray⟩, errV f]) ∧ Below w.heap.size w w' := by
  refine (bytesText_any n w hn1 hn2 ht hu).mono ?_
  rintro e w' ⟨he, hb⟩
  exact ⟨by rw [he, h]; rfl, hb⟩
theorem refMilliText_c (n : Int) (t : List UInt8) (f : Int) (w : World) (hn1 : -9223372036854775808 ≤ n) (hn2 : n ≤ 9223372036854775807) (h : milliText n = (t, f)) :
    Calls Tryd.prog 30 #[.int .i64 n] w fun e w' => e = .returned (.tuple #[.string ⟨t.toArray⟩, .int .i64 f]) ∧ Below w.heap.size w w' := by
  refine (refMilliText_any n w hn1 hn2).mono ?_
  rintro e w' ⟨he, hb⟩
  exact ⟨by rw [he, h]; rfl, hb⟩
theorem refBytesText_c (n : Int) (t : List UInt8) (f : Int) (w : World) (hn1 : -9223372036854775808 ≤ n) (hn2 : n ≤ 9223372036854775807) (h : bytesText n = (t, f)) :
    Calls Tryd.prog 32 #[.int .i64 n] w fun e w' => e = .returned (.tuple #[.string ⟨t.toArray⟩, .int .i64 f]) ∧ Below w.heap.size w w' := by
  refine (refBytesText_any n w hn1 hn2).mono ?_
  rintro e w' ⟨he, hb⟩
  exact ⟨by rw [he, h]; rfl, hb⟩
theorem milliOut_err (l : List UInt8) : 0 ≤ (Ost.milliOut l).2 := by
  unfold Ost.milliOut Ost.bound; split
  · simp
  · split <;> simp
theorem bytesOut_err (l : List UInt8) : 0 ≤ (Ost.bytesOut l).2 := by
  unfold Ost.bytesOut; split
  · split <;> simp
  · simp
theorem milliText_err (n : Int) : 0 ≤ (milliText n).2 := by
  unfold milliText; split
  · simp
  · split <;> simp
theorem bytesText_err (n : Int) : 0 ≤ (bytesText n).2 := by
  unfold bytesText; split <;> simp
/-- All that the laws on amounts read of package-level variables. -/
structure EnvA (w : World) : Prop where
  mx : Mx w
  units : Units w
  tab : Tab w
  lt : 1 < w.heap.size
theorem EnvA.below {w w' : World} (h : EnvA w) (hb : Below w.heap.size w w') : EnvA w' :=
  ⟨h.mx.below hb, h.units.below hb, h.tab.below hb h.lt, Nat.lt_of_lt_of_le h.lt hb.size⟩
set_option maxHeartbeats 1000000 in
theorem amounts_any (w : World) (hE : EnvA w) :
    Calls Tryd.prog 24 #[] w fun e w' => e = .returned (.bool true) ∧ Below w.heap.size w w' := by
  have HE := hideIt hE
  clear hE
  go_enter Tryd.func24, Tryd.ntmps24
  go_wp2_with fail
  refine (milli_c ⟨#[49, 46, 53]⟩ 1500 0 _ (by decide) HE.out.mx (by decide +kernel)).mono ?_
  rintro e w1 ⟨rfl, hb1⟩
  rw [errV_zero]
  have HE1 := hideIt (HE.out.below hb1)
  go_wp2_with fail
  refine (bytes_c ⟨#[50, 75, 105]⟩ 2048 0 _ (by decide) HE1.out.units (by decide +kernel)).mono ?_
  rintro e w2 ⟨rfl, rfl⟩
  rw [errV_zero]
  go_wp2_with fail
  refine (same_zero _).mono ?_
  rintro e w3 ⟨rfl, rfl⟩
  go_wp2_with fail
  refine (same_zero _).mono ?_
  rintro e w4 ⟨rfl, rfl⟩
  go_wp2_with fail
  go_ret
  exact ⟨rfl, hb1⟩
set_option maxHeartbeats 2000000 in
theorem amountSays_any (n : Int) (s : ByteArray) (w : World) (hn1 : -9223372036854775808 ≤ n) (hn2 : n ≤ 9223372036854775807) (hs : s.size ≤ maxLen) (hE : EnvA w) :
    Calls Tryd.prog 5 #[.int .i64 n, .string s] w fun e w' => e = .returned (.bool true) ∧ Below w.heap.size w w' := by
  unfold maxLen at hs
  have HE := hideIt hE
  clear hE
  by_cases hl : 100 < s.size
  · go_enter Tryd.func5, Tryd.ntmps5
    go_wp2_with fail
    refine (amounts_any _ HE.out).mono ?_
    rintro e w1 ⟨rfl, hb1⟩
    go_wp2_with fail
    go_ret
    exact ⟨rfl, hb1⟩
  · have HA := hideIt (milliOut_err s.data.toList)
    have HB := hideIt (bytesOut_err s.data.toList)
    have HC := hideIt (milliText_err n)
    have HD := hideIt (bytesText_err n)
    obtain ⟨⟨a, f1⟩, h1⟩ : ∃ p, Ost.milliOut s.data.toList = p := ⟨_, rfl⟩
    obtain ⟨⟨b, f2⟩, h2⟩ : ∃ p, Ost.bytesOut s.data.toList = p := ⟨_, rfl⟩
    obtain ⟨⟨t, f3⟩, h3⟩ : ∃ p, milliText n = p := ⟨_, rfl⟩
    obtain ⟨⟨v, f4⟩, h4⟩ : ∃ p, bytesText n = p := ⟨_, rfl⟩
    rw [h1] at HA
    rw [h2] at HB
    rw [h3] at HC
    rw [h4] at HD
    have H1 := hideIt h1
    have H2 := hideIt h2
    have H3 := hideIt h3
    have H4 := hideIt h4
    clear h1 h2 h3 h4
    have hs1 : s.size < 4294967281 := by omega
    have hs2 : s.size ≤ 100 := by omega
    go_enter Tryd.func5, Tryd.ntmps5
    go_wp2_with fail
    refine (amounts_any _ HE.out).mono ?_
    rintro e w1 ⟨rfl, hb1⟩
    have HE1 := hideIt (HE.out.below hb1)
    go_wp2_with fail
    refine (milli_c s a f1 _ hs1 HE1.out.mx H1.out).mono ?_
    rintro e w2 ⟨rfl, hb2⟩
    have HE2 := hideIt (HE1.out.below hb2)
    have hB2 := hb1.trans (hb2.mono hb1.size)
    clear hb2 HE1
    go_wp2_with fail
    refine (refMilli_c s a f1 _ hs2 H1.out).mono ?_
    rintro e w3 ⟨rfl, rfl⟩
    go_wp2_with fail
    refine (bytes_c s b f2 _ hs1 HE2.out.units H2.out).mono ?_
    rintro e w4 ⟨rfl, rfl⟩
    go_wp2_with fail
    refine (refBytes_c s b f2 _ hs2 H2.out).mono ?_
    rintro e w5 ⟨rfl, rfl⟩
    go_wp2_with fail
    refine (same_any f1 _ HA.out).mono ?_
    rintro e w6 ⟨rfl, rfl⟩
    go_wp2_with fail
    refine (same_any f2 _ HB.out).mono ?_
    rintro e w7 ⟨rfl, rfl⟩
    go_wp2_with fail
    refine (milliText_c n t f3 _ hn1 hn2 HE2.out.tab H3.out).mono ?_
    rintro e w8 ⟨rfl, hb8⟩
    have HE8 := hideIt (HE2.out.below hb8)
    have hB8 := hB2.trans (hb8.mono hB2.size)
    clear hb8 HE2
    go_wp2_with fail
    refine (refMilliText_c n t f3 _ hn1 hn2 H3.out).mono ?_
    rintro e w9 ⟨rfl, hb9⟩
    have HE9 := hideIt (HE8.out.below hb9)
    have hB9 := hB8.trans (hb9.mono hB8.size)
    clear hb9 HE8
    go_wp2_with fail
    refine (bytesText_c n v f4 _ hn1 hn2 HE9.out.tab HE9.out.units H4.out).mono ?_
    rintro e w10 ⟨rfl, hb10⟩
    have hB10 := hB9.trans (hb10.mono hB9.size)
    clear hb10
    go_wp2_with fail
    refine (refBytesText_c n v f4 _ hn1 hn2 H4.out).mono ?_
    rintro e w11 ⟨rfl, hb11⟩
    have hB11 := hB10.trans (hb11.mono hB10.size)
    clear hb11
    go_wp2_with fail
    refine (same_any f3 _ HC.out).mono ?_
    rintro e w12 ⟨rfl, rfl⟩
    go_wp2_with fail
    refine (same_any f4 _ HD.out).mono ?_
    rintro e w13 ⟨rfl, rfl⟩
    go_wp2_with fail
    go_ret
    exact ⟨rfl, hB11⟩
end Go.Proofs.YtfnkmlpgfohjnaaDoor
