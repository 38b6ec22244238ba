/- TopAmount: whatever the number and the text, it answers true: the walk, out of the contracts. -/
import Derived.Test.YtfnkmlpgfohjnaaDoorAmtLaw
import Derived.Test.YtfnkmlpgfohjnaaDoorMath4
namespace Go.Proofs.YtfnkmlpgfohjnaaDoor
open Go.RowKit
theorem dec_decN (n : Int) : dec n = Ost.decN n.toNat := rfl
theorem milliText_cases (n : Int) : (∃ t, milliText n = (t, 1)) ∨ (∃ t, milliText n = (t, 0) ∧ Ost.milliOut t = (n, 0) ∧ t.length ≤ 30) := by
  unfold milliText
  by_cases h : n < 0 ∨ 1000000 < n
  · exact .inl ⟨[], by rw [if_pos h]⟩
  · right
    rw [if_neg h]
    by_cases hr : n % 1000 = 0
    · refine ⟨dec (n / 1000), by rw [if_pos hr], ?_, ?_⟩
      · rw [dec_decN, Ost.milli_whole _ (by omega)]
        rw [show ((n / 1000).toNat : Int) * 1000 = n by omega]
      · have := dec_len (n / 1000) (by omega); omega
    · refine ⟨dec n ++ [109], by rw [if_neg hr], ?_, ?_⟩
      · rw [dec_decN, Ost.milli_m _ (by omega)]
        rw [show (n.toNat : Int) = n by omega]
      · have := dec_len n (by omega); simp; omega
theorem red_val : ∀ (f : Nat) (n : Int), 0 ≤ n → 0 ≤ (red f n).1 ∧ (red f n).1 * 1024 ^ (red f n).2 = n ∧ (red f n).2 ≤ f := by
  intro f
  induction f with
  | zero => intro n h; simp [red, h]
  | succ f ih =>
    intro n h
    unfold red
    by_cases hc : n ≠ 0 ∧ n % 1024 = 0
    · rw [if_pos hc]
      obtain ⟨a, b, c⟩ := ih (n / 1024) (by omega)
      refine ⟨a, ?_, by simp; omega⟩
      show (red f (n / 1024)).1 * 1024 ^ ((red f (n / 1024)).2 + 1) = n
      rw [Int.pow_succ, ← Int.mul_assoc, b]; omega
    · rw [if_neg hc]
      exact ⟨h, by simp, by simp⟩
theorem bytesText_cases (n : Int) : (∃ t, bytesText n = (t, 1)) ∨ (∃ t, bytesText n = (t, 0) ∧ Ost.bytesOut t = (n, 0) ∧ t.length ≤ 30) := by
  unfold bytesText
  by_cases h : n < 0 ∨ 1125899906842624 < n
  · exact .inl ⟨[], by rw [if_pos h]⟩
  · right
    rw [if_neg h]
    obtain ⟨a, b, c⟩ := red_val 4 n (by omega)
    refine ⟨_, rfl, ?_, ?_⟩
    · generalize (red 4 n).1 = v at *
      generalize (red 4 n).2 = k at *
      have hz : (1024 : Int) ^ k = if k = 0 then 1 else if k = 1 then 1024 else if k = 2 then 1048576 else if k = 3 then 1073741824 else 1099511627776 := by
        have : k = 0 ∨ k = 1 ∨ k = 2 ∨ k = 3 ∨ k = 4 := by omega
        rcases this with e | e | e | e | e <;> subst e <;> rfl
      rw [dec_decN]
      have key := Ost.bytes_unit v.toNat k (unitTxt k) ((1024 : Int) ^ k) (by
        rw [hz]
        have : k = 0 ∨ k = 1 ∨ k = 2 ∨ k = 3 ∨ k = 4 := by omega
        rcases this with e | e | e | e | e <;> subst e <;> simp [unitTxt]) (by rw [show (v.toNat : Int) = v by omega, b]; omega)
      rw [key, show (v.toNat : Int) = v by omega, b]
    · have h1 : (red 4 n).1 ≤ 9223372036854775807 := by
        have hp : (1 : Int) ≤ 1024 ^ (red 4 n).2 := by
          have : (0 : Int) < 1024 ^ (red 4 n).2 := Int.pow_pos (by omega)
          omega
        have : (red 4 n).1 * 1 ≤ (red 4 n).1 * 1024 ^ (red 4 n).2 := Int.mul_le_mul_of_nonneg_left hp a
        omega
      have := dec_len (red 4 n).1 h1
      have := unitTxt_len (red 4 n).2
      simp; omega
theorem size_mk (t : List UInt8) : (ByteArray.mk t.toArray).size = t.length := by simp [ByteArray.size]
theorem milliText_read (k : Int) (h0 : 0 ≤ k) (h1 : k ≤ 1000000) : ∃ t, milliText k = (t, 0) ∧ Ost.milliOut t = (k, 0) ∧ t.length ≤ 30 := by
  rcases milliText_cases k with ⟨t, h⟩ | h
  · exfalso
    unfold milliText at h
    rw [if_neg (by omega)] at h
    split at h <;> simp at h
  · exact h
theorem bytesText_read (k : Int) (h0 : 0 ≤ k) (h1 : k ≤ 1125899906842624) : ∃ t, bytesText k = (t, 0) ∧ Ost.bytesOut t = (k, 0) ∧ t.length ≤ 30 := by
  rcases bytesText_cases k with ⟨t, h⟩ | h
  · exfalso
    unfold bytesText at h
    rw [if_neg (by omega)] at h
    simp at h
  · exact h
theorem mt1500 : milliText 1500 = ([49, 53, 48, 48, 109], 0) := by
  have e : dec 1500 = [49, 53, 48, 48] := by
    rw [dec_big 1500 (by omega), dec_big (1500 / 10) (by omega), dec_big (1500 / 10 / 10) (by omega), dec_small (1500 / 10 / 10 / 10) (by omega) (by omega)]
    decide
  unfold milliText
  rw [if_neg (by omega), if_neg (by omega), e]; rfl
set_option maxHeartbeats 4000000 in
theorem topAmount_any (n : Int) (s : ByteArray) (w : World) (hn1 : -9223372036854775808 ≤ n) (hn2 : n ≤ 9223372036854775807) (hs : s.size ≤ maxLen) (hE : EnvA w) :
    Calls Tryd.prog 7 #[.int .i64 n, .string s] w fun e w' => e = .returned (.bool true) ∧ Below w.heap.size w w' := by
  unfold maxLen at hs
  have HE := hideIt hE
  clear hE
  go_enter Tryd.func7, Tryd.ntmps7
  go_wp2_with fail
  refine (milliText_c 1500 _ 0 _ (by omega) (by omega) HE.out.tab mt1500).mono ?_
  rintro e w1 ⟨rfl, hB⟩
  rw [errV_zero]
  have HE1 := hideIt (HE.out.below hB)
  clear HE
  go_wp2_with fail
  rcases milliText_cases n with ⟨t, h⟩ | ⟨t, h, ho, hlen⟩
  · have H := hideIt h
    clear h
    refine (milliText_c n t 1 _ hn1 hn2 HE1.out.tab H.out).mono ?_
    rintro e w2 ⟨rfl, hb2⟩
    rw [errV_pos (by omega)]
    have HEx := hideIt (HE1.out.below hb2)
    have hBx := hB.trans (hb2.mono hB.size)
    clear hb2 HE1 hB H
    go_wp2_with fail
    rcases bytesText_cases n with ⟨t, h⟩ | ⟨t, h, ho, hlen⟩
    · have H := hideIt h
      clear h
      refine (bytesText_c n t 1 _ hn1 hn2 HEx.out.tab HEx.out.units H.out).mono ?_
      rintro e w4 ⟨rfl, hb4⟩
      rw [errV_pos (by omega)]
      have HEy := hideIt (HEx.out.below hb4)
      have hBy := hBx.trans (hb4.mono hBx.size)
      clear hb4 HEx hBx H
      by_cases hl : 100 < s.size
      · go_wp2_with fail
        go_ret
        exact ⟨rfl, hBy⟩
      · have hs1 : s.size < 4294967281 := by omega
        go_wp2_with fail
        obtain ⟨⟨a, f⟩, hq⟩ : ∃ p, Ost.milliOut s.data.toList = p := ⟨_, rfl⟩
        have hf0 := milliOut_err s.data.toList
        rw [hq] at hf0
        have HQ := hideIt hq
        clear hq
        refine (milli_c s a f _ hs1 HEy.out.mx HQ.out).mono ?_
        rintro e w6 ⟨rfl, hb6⟩
        have HE6 := hideIt (HEy.out.below hb6)
        have hB6 := hBy.trans (hb6.mono hBy.size)
        clear hb6 HEy hBy
        by_cases hfz : f = 0
        · subst hfz
          rw [errV_zero]
          have hok := Ost.milliOut_ok _ _ HQ.out
          have ha1 := hok.1
          have ha2 := hok.2
          obtain ⟨t, ht, hot, htl⟩ := milliText_read a ha1 ha2
          have HT := hideIt ht
          have HOT := hideIt hot
          have HTL := hideIt htl
          clear ht hot htl hok HQ
          have ha3 : -9223372036854775808 ≤ a := by omega
          have ha4 : a ≤ 9223372036854775807 := by omega
          go_wp2_with fail
          refine (milliText_c a t 0 _ ha3 ha4 HE6.out.tab HT.out).mono ?_
          rintro e w7 ⟨rfl, hb7⟩
          rw [errV_zero]
          have HE7 := hideIt (HE6.out.below hb7)
          have hB7 := hB6.trans (hb7.mono hB6.size)
          clear hb7 HE6 hB6 HT
          go_wp2_with fail
          refine (milli_c ⟨t.toArray⟩ a 0 _ (by rw [size_mk]; have := HTL.out; omega) HE7.out.mx HOT.out).mono ?_
          rintro e w8 ⟨rfl, hb8⟩
          rw [errV_zero]
          have HEz := hideIt (HE7.out.below hb8)
          have hBz := hB7.trans (hb8.mono hB7.size)
          clear hb8 HE7 hB7 HOT HTL
          go_wp2_with fail
          obtain ⟨⟨b, g⟩, hq2⟩ : ∃ p, Ost.bytesOut s.data.toList = p := ⟨_, rfl⟩
          have hg0 := bytesOut_err s.data.toList
          rw [hq2] at hg0
          have HQ2 := hideIt hq2
          clear hq2
          refine (bytes_c s b g _ hs1 HEz.out.units HQ2.out).mono ?_
          rintro e w9 ⟨rfl, rfl⟩
          by_cases hgz : g = 0
          · subst hgz
            rw [errV_zero]
            have hok2 := Ost.bytesOut_ok _ _ HQ2.out (cutUnit_size _)
            have hb1 := hok2.1
            have hb2 := hok2.2
            obtain ⟨u, hu, hou, hul⟩ := bytesText_read b hb1 hb2
            have HU := hideIt hu
            have HOU := hideIt hou
            have HUL := hideIt hul
            clear hu hou hul hok2 HQ2
            have hb3 : -9223372036854775808 ≤ b := by omega
            have hb4 : b ≤ 9223372036854775807 := by omega
            go_wp2_with fail
            refine (bytesText_c b u 0 _ hb3 hb4 HEz.out.tab HEz.out.units HU.out).mono ?_
            rintro e w10 ⟨rfl, hb10⟩
            rw [errV_zero]
            have HE10 := hideIt (HEz.out.below hb10)
            have hB10 := hBz.trans (hb10.mono hBz.size)
            clear hb10
            go_wp2_with fail
            refine (bytes_c ⟨u.toArray⟩ b 0 _ (by rw [size_mk]; have := HUL.out; omega) HE10.out.units HOU.out).mono ?_
            rintro e w11 ⟨rfl, rfl⟩
            rw [errV_zero]
            go_wp2_with fail
            go_ret
            exact ⟨rfl, hB10⟩
          · rw [errV_pos (by omega)]
            go_wp2_with fail
            go_ret
            exact ⟨rfl, hBz⟩
        · rw [errV_pos (by omega)]
          have HEz := HE6
          have hBz := hB6
          go_wp2_with fail
          obtain ⟨⟨b, g⟩, hq2⟩ : ∃ p, Ost.bytesOut s.data.toList = p := ⟨_, rfl⟩
          have hg0 := bytesOut_err s.data.toList
          rw [hq2] at hg0
          have HQ2 := hideIt hq2
          clear hq2
          refine (bytes_c s b g _ hs1 HEz.out.units HQ2.out).mono ?_
          rintro e w9 ⟨rfl, rfl⟩
          by_cases hgz : g = 0
          · subst hgz
            rw [errV_zero]
            have hok2 := Ost.bytesOut_ok _ _ HQ2.out (cutUnit_size _)
            have hb1 := hok2.1
            have hb2 := hok2.2
            obtain ⟨u, hu, hou, hul⟩ := bytesText_read b hb1 hb2
            have HU := hideIt hu
            have HOU := hideIt hou
            have HUL := hideIt hul
            clear hu hou hul hok2 HQ2
            have hb3 : -9223372036854775808 ≤ b := by omega
            have hb4 : b ≤ 9223372036854775807 := by omega
            go_wp2_with fail
            refine (bytesText_c b u 0 _ hb3 hb4 HEz.out.tab HEz.out.units HU.out).mono ?_
            rintro e w10 ⟨rfl, hb10⟩
            rw [errV_zero]
            have HE10 := hideIt (HEz.out.below hb10)
            have hB10 := hBz.trans (hb10.mono hBz.size)
            clear hb10
            go_wp2_with fail
            refine (bytes_c ⟨u.toArray⟩ b 0 _ (by rw [size_mk]; have := HUL.out; omega) HE10.out.units HOU.out).mono ?_
            rintro e w11 ⟨rfl, rfl⟩
            rw [errV_zero]
            go_wp2_with fail
            go_ret
            exact ⟨rfl, hB10⟩
          · rw [errV_pos (by omega)]
            go_wp2_with fail
            go_ret
            exact ⟨rfl, hBz⟩
    · have H := hideIt h
      have HO := hideIt ho
      have HLn := hideIt hlen
      clear h ho hlen
      refine (bytesText_c n t 0 _ hn1 hn2 HEx.out.tab HEx.out.units H.out).mono ?_
      rintro e w4 ⟨rfl, hb4⟩
      rw [errV_zero]
      have HEy := hideIt (HEx.out.below hb4)
      have hBy := hBx.trans (hb4.mono hBx.size)
      clear hb4 HEx hBx H
      go_wp2_with fail
      refine (bytes_c ⟨t.toArray⟩ n 0 _ (by rw [size_mk]; have := HLn.out; omega) HEy.out.units HO.out).mono ?_
      rintro e w5 ⟨rfl, rfl⟩
      rw [errV_zero]
      clear HO HLn
      by_cases hl : 100 < s.size
      · go_wp2_with fail
        go_ret
        exact ⟨rfl, hBy⟩
      · have hs1 : s.size < 4294967281 := by omega
        go_wp2_with fail
        obtain ⟨⟨a, f⟩, hq⟩ : ∃ p, Ost.milliOut s.data.toList = p := ⟨_, rfl⟩
        have hf0 := milliOut_err s.data.toList
        rw [hq] at hf0
        have HQ := hideIt hq
        clear hq
        refine (milli_c s a f _ hs1 HEy.out.mx HQ.out).mono ?_
        rintro e w6 ⟨rfl, hb6⟩
        have HE6 := hideIt (HEy.out.below hb6)
        have hB6 := hBy.trans (hb6.mono hBy.size)
        clear hb6 HEy hBy
        by_cases hfz : f = 0
        · subst hfz
          rw [errV_zero]
          have hok := Ost.milliOut_ok _ _ HQ.out
          have ha1 := hok.1
          have ha2 := hok.2
          obtain ⟨t, ht, hot, htl⟩ := milliText_read a ha1 ha2
          have HT := hideIt ht
          have HOT := hideIt hot
          have HTL := hideIt htl
          clear ht hot htl hok HQ
          have ha3 : -9223372036854775808 ≤ a := by omega
          have ha4 : a ≤ 9223372036854775807 := by omega
          go_wp2_with fail
          refine (milliText_c a t 0 _ ha3 ha4 HE6.out.tab HT.out).mono ?_
          rintro e w7 ⟨rfl, hb7⟩
          rw [errV_zero]
          have HE7 := hideIt (HE6.out.below hb7)
          have hB7 := hB6.trans (hb7.mono hB6.size)
          clear hb7 HE6 hB6 HT
          go_wp2_with fail
          refine (milli_c ⟨t.toArray⟩ a 0 _ (by rw [size_mk]; have := HTL.out; omega) HE7.out.mx HOT.out).mono ?_
          rintro e w8 ⟨rfl, hb8⟩
          rw [errV_zero]
          have HEz := hideIt (HE7.out.below hb8)
          have hBz := hB7.trans (hb8.mono hB7.size)
          clear hb8 HE7 hB7 HOT HTL
          go_wp2_with fail
          obtain ⟨⟨b, g⟩, hq2⟩ : ∃ p, Ost.bytesOut s.data.toList = p := ⟨_, rfl⟩
          have hg0 := bytesOut_err s.data.toList
          rw [hq2] at hg0
          have HQ2 := hideIt hq2
          clear hq2
          refine (bytes_c s b g _ hs1 HEz.out.units HQ2.out).mono ?_
          rintro e w9 ⟨rfl, rfl⟩
          by_cases hgz : g = 0
          · subst hgz
            rw [errV_zero]
            have hok2 := Ost.bytesOut_ok _ _ HQ2.out (cutUnit_size _)
            have hb1 := hok2.1
            have hb2 := hok2.2
            obtain ⟨u, hu, hou, hul⟩ := bytesText_read b hb1 hb2
            have HU := hideIt hu
            have HOU := hideIt hou
            have HUL := hideIt hul
            clear hu hou hul hok2 HQ2
            have hb3 : -9223372036854775808 ≤ b := by omega
            have hb4 : b ≤ 9223372036854775807 := by omega
            go_wp2_with fail
            refine (bytesText_c b u 0 _ hb3 hb4 HEz.out.tab HEz.out.units HU.out).mono ?_
            rintro e w10 ⟨rfl, hb10⟩
            rw [errV_zero]
            have HE10 := hideIt (HEz.out.below hb10)
            have hB10 := hBz.trans (hb10.mono hBz.size)
            clear hb10
            go_wp2_with fail
            refine (bytes_c ⟨u.toArray⟩ b 0 _ (by rw [size_mk]; have := HUL.out; omega) HE10.out.units HOU.out).mono ?_
            rintro e w11 ⟨rfl, rfl⟩
            rw [errV_zero]
            go_wp2_with fail
            go_ret
            exact ⟨rfl, hB10⟩
          · rw [errV_pos (by omega)]
            go_wp2_with fail
            go_ret
            exact ⟨rfl, hBz⟩
        · rw [errV_pos (by omega)]
          have HEz := HE6
          have hBz := hB6
          go_wp2_with fail
          obtain ⟨⟨b, g⟩, hq2⟩ : ∃ p, Ost.bytesOut s.data.toList = p := ⟨_, rfl⟩
          have hg0 := bytesOut_err s.data.toList
          rw [hq2] at hg0
          have HQ2 := hideIt hq2
          clear hq2
          refine (bytes_c s b g _ hs1 HEz.out.units HQ2.out).mono ?_
          rintro e w9 ⟨rfl, rfl⟩
          by_cases hgz : g = 0
          · subst hgz
            rw [errV_zero]
            have hok2 := Ost.bytesOut_ok _ _ HQ2.out (cutUnit_size _)
            have hb1 := hok2.1
            have hb2 := hok2.2
            obtain ⟨u, hu, hou, hul⟩ := bytesText_read b hb1 hb2
            have HU := hideIt hu
            have HOU := hideIt hou
            have HUL := hideIt hul
            clear hu hou hul hok2 HQ2
            have hb3 : -9223372036854775808 ≤ b := by omega
            have hb4 : b ≤ 9223372036854775807 := by omega
            go_wp2_with fail
            refine (bytesText_c b u 0 _ hb3 hb4 HEz.out.tab HEz.out.units HU.out).mono ?_
            rintro e w10 ⟨rfl, hb10⟩
            rw [errV_zero]
            have HE10 := hideIt (HEz.out.below hb10)
            have hB10 := hBz.trans (hb10.mono hBz.size)
            clear hb10
            go_wp2_with fail
            refine (bytes_c ⟨u.toArray⟩ b 0 _ (by rw [size_mk]; have := HUL.out; omega) HE10.out.units HOU.out).mono ?_
            rintro e w11 ⟨rfl, rfl⟩
            rw [errV_zero]
            go_wp2_with fail
            go_ret
            exact ⟨rfl, hB10⟩
          · rw [errV_pos (by omega)]
            go_wp2_with fail
            go_ret
            exact ⟨rfl, hBz⟩
  · have H := hideIt h
    have HO := hideIt ho
    have HLn := hideIt hlen
    clear h ho hlen
    refine (milliText_c n t 0 _ hn1 hn2 HE1.out.tab H.out).mono ?_
    rintro e w2 ⟨rfl, hb2⟩
    rw [errV_zero]
    have HE2 := hideIt (HE1.out.below hb2)
    have hB2 := hB.trans (hb2.mono hB.size)
    clear hb2 HE1 hB H
    go_wp2_with fail
    refine (milli_c ⟨t.toArray⟩ n 0 _ (by rw [size_mk]; have := HLn.out; omega) HE2.out.mx HO.out).mono ?_
    rintro e w3 ⟨rfl, hb3⟩
    rw [errV_zero]
    have HEx := hideIt (HE2.out.below hb3)
    have hBx := hB2.trans (hb3.mono hB2.size)
    clear hb3 HE2 hB2 HO HLn
    go_wp2_with fail
    rcases bytesText_cases n with ⟨t, h⟩ | ⟨t, h, ho, hlen⟩
    · have H := hideIt h
      clear h
      refine (bytesText_c n t 1 _ hn1 hn2 HEx.out.tab HEx.out.units H.out).mono ?_
      rintro e w4 ⟨rfl, hb4⟩
      rw [errV_pos (by omega)]
      have HEy := hideIt (HEx.out.below hb4)
      have hBy := hBx.trans (hb4.mono hBx.size)
      clear hb4 HEx hBx H
      by_cases hl : 100 < s.size
      · go_wp2_with fail
        go_ret
        exact ⟨rfl, hBy⟩
      · have hs1 : s.size < 4294967281 := by omega
        go_wp2_with fail
        obtain ⟨⟨a, f⟩, hq⟩ : ∃ p, Ost.milliOut s.data.toList = p := ⟨_, rfl⟩
        have hf0 := milliOut_err s.data.toList
        rw [hq] at hf0
        have HQ := hideIt hq
        clear hq
        refine (milli_c s a f _ hs1 HEy.out.mx HQ.out).mono ?_
        rintro e w6 ⟨rfl, hb6⟩
        have HE6 := hideIt (HEy.out.below hb6)
        have hB6 := hBy.trans (hb6.mono hBy.size)
        clear hb6 HEy hBy
        by_cases hfz : f = 0
        · subst hfz
          rw [errV_zero]
          have hok := Ost.milliOut_ok _ _ HQ.out
          have ha1 := hok.1
          have ha2 := hok.2
          obtain ⟨t, ht, hot, htl⟩ := milliText_read a ha1 ha2
          have HT := hideIt ht
          have HOT := hideIt hot
          have HTL := hideIt htl
          clear ht hot htl hok HQ
          have ha3 : -9223372036854775808 ≤ a := by omega
          have ha4 : a ≤ 9223372036854775807 := by omega
          go_wp2_with fail
          refine (milliText_c a t 0 _ ha3 ha4 HE6.out.tab HT.out).mono ?_
          rintro e w7 ⟨rfl, hb7⟩
          rw [errV_zero]
          have HE7 := hideIt (HE6.out.below hb7)
          have hB7 := hB6.trans (hb7.mono hB6.size)
          clear hb7 HE6 hB6 HT
          go_wp2_with fail
          refine (milli_c ⟨t.toArray⟩ a 0 _ (by rw [size_mk]; have := HTL.out; omega) HE7.out.mx HOT.out).mono ?_
          rintro e w8 ⟨rfl, hb8⟩
          rw [errV_zero]
          have HEz := hideIt (HE7.out.below hb8)
          have hBz := hB7.trans (hb8.mono hB7.size)
          clear hb8 HE7 hB7 HOT HTL
          go_wp2_with fail
          obtain ⟨⟨b, g⟩, hq2⟩ : ∃ p, Ost.bytesOut s.data.toList = p := ⟨_, rfl⟩
          have hg0 := bytesOut_err s.data.toList
          rw [hq2] at hg0
          have HQ2 := hideIt hq2
          clear hq2
          refine (bytes_c s b g _ hs1 HEz.out.units HQ2.out).mono ?_
          rintro e w9 ⟨rfl, rfl⟩
          by_cases hgz : g = 0
          · subst hgz
            rw [errV_zero]
            have hok2 := Ost.bytesOut_ok _ _ HQ2.out (cutUnit_size _)
            have hb1 := hok2.1
            have hb2 := hok2.2
            obtain ⟨u, hu, hou, hul⟩ := bytesText_read b hb1 hb2
            have HU := hideIt hu
            have HOU := hideIt hou
            have HUL := hideIt hul
            clear hu hou hul hok2 HQ2
            have hb3 : -9223372036854775808 ≤ b := by omega
            have hb4 : b ≤ 9223372036854775807 := by omega
            go_wp2_with fail
            refine (bytesText_c b u 0 _ hb3 hb4 HEz.out.tab HEz.out.units HU.out).mono ?_
            rintro e w10 ⟨rfl, hb10⟩
            rw [errV_zero]
            have HE10 := hideIt (HEz.out.below hb10)
            have hB10 := hBz.trans (hb10.mono hBz.size)
            clear hb10
            go_wp2_with fail
            refine (bytes_c ⟨u.toArray⟩ b 0 _ (by rw [size_mk]; have := HUL.out; omega) HE10.out.units HOU.out).mono ?_
            rintro e w11 ⟨rfl, rfl⟩
            rw [errV_zero]
            go_wp2_with fail
            go_ret
            exact ⟨rfl, hB10⟩
          · rw [errV_pos (by omega)]
            go_wp2_with fail
            go_ret
            exact ⟨rfl, hBz⟩
        · rw [errV_pos (by omega)]
          have HEz := HE6
          have hBz := hB6
          go_wp2_with fail
          obtain ⟨⟨b, g⟩, hq2⟩ : ∃ p, Ost.bytesOut s.data.toList = p := ⟨_, rfl⟩
          have hg0 := bytesOut_err s.data.toList
          rw [hq2] at hg0
          have HQ2 := hideIt hq2
          clear hq2
          refine (bytes_c s b g _ hs1 HEz.out.units HQ2.out).mono ?_
          rintro e w9 ⟨rfl, rfl⟩
          by_cases hgz : g = 0
          · subst hgz
            rw [errV_zero]
            have hok2 := Ost.bytesOut_ok _ _ HQ2.out (cutUnit_size _)
            have hb1 := hok2.1
            have hb2 := hok2.2
            obtain ⟨u, hu, hou, hul⟩ := bytesText_read b hb1 hb2
            have HU := hideIt hu
            have HOU := hideIt hou
            have HUL := hideIt hul
            clear hu hou hul hok2 HQ2
            have hb3 : -9223372036854775808 ≤ b := by omega
            have hb4 : b ≤ 9223372036854775807 := by omega
            go_wp2_with fail
            refine (bytesText_c b u 0 _ hb3 hb4 HEz.out.tab HEz.out.units HU.out).mono ?_
            rintro e w10 ⟨rfl, hb10⟩
            rw [errV_zero]
            have HE10 := hideIt (HEz.out.below hb10)
            have hB10 := hBz.trans (hb10.mono hBz.size)
            clear hb10
            go_wp2_with fail
            refine (bytes_c ⟨u.toArray⟩ b 0 _ (by rw [size_mk]; have := HUL.out; omega) HE10.out.units HOU.out).mono ?_
            rintro e w11 ⟨rfl, rfl⟩
            rw [errV_zero]
            go_wp2_with fail
            go_ret
            exact ⟨rfl, hB10⟩
          · rw [errV_pos (by omega)]
            go_wp2_with fail
            go_ret
            exact ⟨rfl, hBz⟩
    · have H := hideIt h
      have HO := hideIt ho
      have HLn := hideIt hlen
      clear h ho hlen
      refine (bytesText_c n t 0 _ hn1 hn2 HEx.out.tab HEx.out.units H.out).mono ?_
      rintro e w4 ⟨rfl, hb4⟩
      rw [errV_zero]
      have HEy := hideIt (HEx.out.below hb4)
      have hBy := hBx.trans (hb4.mono hBx.size)
      clear hb4 HEx hBx H
      go_wp2_with fail
      refine (bytes_c ⟨t.toArray⟩ n 0 _ (by rw [size_mk]; have := HLn.out; omega) HEy.out.units HO.out).mono ?_
      rintro e w5 ⟨rfl, rfl⟩
      rw [errV_zero]
      clear HO HLn
      by_cases hl : 100 < s.size
      · go_wp2_with fail
        go_ret
        exact ⟨rfl, hBy⟩
      · have hs1 : s.size < 4294967281 := by omega
        go_wp2_with fail
        obtain ⟨⟨a, f⟩, hq⟩ : ∃ p, Ost.milliOut s.data.toList = p := ⟨_, rfl⟩
        have hf0 := milliOut_err s.data.toList
        rw [hq] at hf0
        have HQ := hideIt hq
        clear hq
        refine (milli_c s a f _ hs1 HEy.out.mx HQ.out).mono ?_
        rintro e w6 ⟨rfl, hb6⟩
        have HE6 := hideIt (HEy.out.below hb6)
        have hB6 := hBy.trans (hb6.mono hBy.size)
        clear hb6 HEy hBy
        by_cases hfz : f = 0
        · subst hfz
          rw [errV_zero]
          have hok := Ost.milliOut_ok _ _ HQ.out
          have ha1 := hok.1
          have ha2 := hok.2
          obtain ⟨t, ht, hot, htl⟩ := milliText_read a ha1 ha2
          have HT := hideIt ht
          have HOT := hideIt hot
          have HTL := hideIt htl
          clear ht hot htl hok HQ
          have ha3 : -9223372036854775808 ≤ a := by omega
          have ha4 : a ≤ 9223372036854775807 := by omega
          go_wp2_with fail
          refine (milliText_c a t 0 _ ha3 ha4 HE6.out.tab HT.out).mono ?_
          rintro e w7 ⟨rfl, hb7⟩
          rw [errV_zero]
          have HE7 := hideIt (HE6.out.below hb7)
          have hB7 := hB6.trans (hb7.mono hB6.size)
          clear hb7 HE6 hB6 HT
          go_wp2_with fail
          refine (milli_c ⟨t.toArray⟩ a 0 _ (by rw [size_mk]; have := HTL.out; omega) HE7.out.mx HOT.out).mono ?_
          rintro e w8 ⟨rfl, hb8⟩
          rw [errV_zero]
          have HEz := hideIt (HE7.out.below hb8)
          have hBz := hB7.trans (hb8.mono hB7.size)
          clear hb8 HE7 hB7 HOT HTL
          go_wp2_with fail
          obtain ⟨⟨b, g⟩, hq2⟩ : ∃ p, Ost.bytesOut s.data.toList = p := ⟨_, rfl⟩
          have hg0 := bytesOut_err s.data.toList
          rw [hq2] at hg0
          have HQ2 := hideIt hq2
          clear hq2
          refine (bytes_c s b g _ hs1 HEz.out.units HQ2.out).mono ?_
          rintro e w9 ⟨rfl, rfl⟩
          by_cases hgz : g = 0
          · subst hgz
            rw [errV_zero]
            have hok2 := Ost.bytesOut_ok _ _ HQ2.out (cutUnit_size _)
            have hb1 := hok2.1
            have hb2 := hok2.2
            obtain ⟨u, hu, hou, hul⟩ := bytesText_read b hb1 hb2
            have HU := hideIt hu
            have HOU := hideIt hou
            have HUL := hideIt hul
            clear hu hou hul hok2 HQ2
            have hb3 : -9223372036854775808 ≤ b := by omega
            have hb4 : b ≤ 9223372036854775807 := by omega
            go_wp2_with fail
            refine (bytesText_c b u 0 _ hb3 hb4 HEz.out.tab HEz.out.units HU.out).mono ?_
            rintro e w10 ⟨rfl, hb10⟩
            rw [errV_zero]
            have HE10 := hideIt (HEz.out.below hb10)
            have hB10 := hBz.trans (hb10.mono hBz.size)
            clear hb10
            go_wp2_with fail
            refine (bytes_c ⟨u.toArray⟩ b 0 _ (by rw [size_mk]; have := HUL.out; omega) HE10.out.units HOU.out).mono ?_
            rintro e w11 ⟨rfl, rfl⟩
            rw [errV_zero]
            go_wp2_with fail
            go_ret
            exact ⟨rfl, hB10⟩
          · rw [errV_pos (by omega)]
            go_wp2_with fail
            go_ret
            exact ⟨rfl, hBz⟩
        · rw [errV_pos (by omega)]
          have HEz := HE6
          have hBz := hB6
          go_wp2_with fail
          obtain ⟨⟨b, g⟩, hq2⟩ : ∃ p, Ost.bytesOut s.data.toList = p := ⟨_, rfl⟩
          have hg0 := bytesOut_err s.data.toList
          rw [hq2] at hg0
          have HQ2 := hideIt hq2
          clear hq2
          refine (bytes_c s b g _ hs1 HEz.out.units HQ2.out).mono ?_
          rintro e w9 ⟨rfl, rfl⟩
          by_cases hgz : g = 0
          · subst hgz
            rw [errV_zero]
            have hok2 := Ost.bytesOut_ok _ _ HQ2.out (cutUnit_size _)
            have hb1 := hok2.1
            have hb2 := hok2.2
            obtain ⟨u, hu, hou, hul⟩ := bytesText_read b hb1 hb2
            have HU := hideIt hu
            have HOU := hideIt hou
            have HUL := hideIt hul
            clear hu hou hul hok2 HQ2
            have hb3 : -9223372036854775808 ≤ b := by omega
            have hb4 : b ≤ 9223372036854775807 := by omega
            go_wp2_with fail
            refine (bytesText_c b u 0 _ hb3 hb4 HEz.out.tab HEz.out.units HU.out).mono ?_
            rintro e w10 ⟨rfl, hb10⟩
            rw [errV_zero]
            have HE10 := hideIt (HEz.out.below hb10)
            have hB10 := hBz.trans (hb10.mono hBz.size)
            clear hb10
            go_wp2_with fail
            refine (bytes_c ⟨u.toArray⟩ b 0 _ (by rw [size_mk]; have := HUL.out; omega) HE10.out.units HOU.out).mono ?_
            rintro e w11 ⟨rfl, rfl⟩
            rw [errV_zero]
            go_wp2_with fail
            go_ret
            exact ⟨rfl, hB10⟩
          · rw [errV_pos (by omega)]
            go_wp2_with fail
            go_ret
            exact ⟨rfl, hBz⟩
end Go.Proofs.YtfnkmlpgfohjnaaDoor
