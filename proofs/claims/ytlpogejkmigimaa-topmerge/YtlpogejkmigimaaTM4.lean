/- What 'TopMerge' answers: true. -/
import Derived.Test.YtlpogejkmigimaaMW4
import Derived.Test.YtlpogejkmigimaaTM3
namespace Go.Proofs.Ytlpogejkmigimaa
open Go.RowKit
open Ost (Hi Wi wi0 Low key com reach told)
theorem one_told : told 2 3 [⟨true, []⟩] = (3, true) := by decide +kernel
/-- One wish, just made. -/
theorem oneWish (w : World) (any : Bool) (t : TypeId) : WishesAt (w.alloc (.cells #[.bool any, .slice none 0 0] t)) (.slice (some ⟨w.heap.size, 0, none⟩) 1 1) [⟨any, []⟩] :=
  .inr ⟨w.heap.size, 0, 1, rfl, by simp, fun k hk => by
    have : k = 0 := by simpa using hk
    subst this
    exact ⟨by simp, .slice none 0 0, by simp, .inl ⟨rfl, none, 0, rfl⟩⟩⟩
theorem oneWish_light (any : Bool) : Light [⟨any, []⟩] := fun y hy => by
  have : y = ⟨any, []⟩ := by simpa using hy
  subst this
  exact ⟨fun x hx => by simp at hx, by simp⟩
theorem merge_first (w : World) : Calls Try.prog 33 #[.int .i64 2, .int .u8 3, .slice (some ⟨w.heap.size, 0, none⟩) 1 1] (w.alloc (.cells #[.bool true, .slice none 0 0] 53)) fun e w' => e = .returned (.tuple #[.agg #[.int .u8 3, .bool true], .bool true, .nilIface]) ∧ Below (w.heap.size + 1) (w.alloc (.cells #[.bool true, .slice none 0 0] 53)) w' :=
  (merge_main 2 3 _ [⟨true, []⟩] _ (oneWish w true _) (oneWish_light true) (by decide) (by decide) (by decide)).mono fun e w' h => by
    rw [one_told] at h
    exact ⟨h.1.trans rfl, by simpa using h.2⟩
theorem merge_two (nodes : Nat) (v : Value) (ws : List Wi) (w : World) (hv : WishesAt w v ws) (hw : Light ws) (hl : ws.length ≤ 4) (hn : 1 ≤ nodes ∧ nodes ≤ 15) :
    Calls Try.prog 33 #[.int .i64 2, .int .u8 nodes, v] w fun e w' => e = .returned (.tuple #[vH (told 2 nodes ws), .bool (told 2 nodes ws).2, .nilIface]) ∧ Below w.heap.size w w' :=
  (merge_main 2 nodes v ws w hv hw hl hn (by decide)).mono fun e w' h => by
    rw [show decide ((2 : Int) = 1) = false from rfl, Bool.or_false] at h
    exact h
theorem merge_three (nodes : Nat) (v : Value) (ws : List Wi) (w : World) (hv : WishesAt w v ws) (hw : Light ws) (hl : ws.length ≤ 4) (hn : 1 ≤ nodes ∧ nodes ≤ 15) :
    Calls Try.prog 33 #[.int .i64 3, .int .u8 nodes, v] w fun e w' => e = .returned (.tuple #[vH (told 3 nodes ws), .bool (told 3 nodes ws).2, .nilIface]) ∧ Below w.heap.size w w' :=
  (merge_main 3 nodes v ws w hv hw hl hn (by decide)).mono fun e w' h => by
    rw [show decide ((3 : Int) = 1) = false from rfl, Bool.or_false] at h
    exact h
theorem merge_one (nodes : Nat) (v : Value) (ws : List Wi) (w : World) (hv : WishesAt w v ws) (hw : Light ws) (hl : ws.length ≤ 4) (hn : 1 ≤ nodes ∧ nodes ≤ 15) :
    Calls Try.prog 33 #[.int .i64 1, .int .u8 nodes, v] w fun e w' => e = .returned (.tuple #[vH (told 1 nodes ws), .bool true, .nilIface]) ∧ Below w.heap.size w w' :=
  (merge_main 1 nodes v ws w hv hw hl hn (by decide)).mono fun e w' h => by
    rw [show decide ((1 : Int) = 1) = true from rfl, Bool.or_true] at h
    exact h
set_option maxRecDepth 100000 in
set_option maxHeartbeats 2000000 in
theorem topMerge_any (nodes : Nat) (ao : Option Addr) (c : Nat) (ws : List Wi) (w : World) (hv : WishesAt w (.slice ao ws.length c) ws) (hlow : ∀ y, y ∈ ws → Low y.hs) (hcap : ws.length ≤ c) (hn : nodes < 256) :
    Calls Try.prog 8 #[.int .u8 nodes, .slice ao ws.length c] w fun e w' => e = .returned (.bool true) ∧ Below w.heap.size w w' := by
  have HB0 := hideIt ((Below.refl w.heap.size w).alloc (Nat.le_refl _) (.cells #[.bool true, .slice none 0 0] 53))
  have HM := hideIt (merge_first w)
  have HV := hideIt hv
  have HLo := hideIt hlow
  clear hv hlow
  go_enter Try.func8, Try.ntmps8
  go_wp2_with fail
  refine HM.out.mono ?_
  rintro e w1 ⟨rfl, hb1⟩
  have HB1 := hideIt (HB0.out.trans (hb1.mono (by omega)))
  have HB2 := hideIt (HB1.out.alloc HB1.out.size (.cells #[.int .u8 3, .bool true] 60))
  have HL := hideIt (light_any _ ws _ (HV.out.below HB2.out))
  clear hb1 HB0 HM
  go_wp2_with fail
  refine HL.out.mono ?_
  rintro e w3 ⟨b, rfl, hlt, hb3⟩
  have HB3 := hideIt (HB2.out.trans (hb3.mono HB2.out.size))
  have HLt := hideIt hlt
  clear hb3 hlt HL HB1 HB2
  rcases two b with hb | hb
  · subst hb
    have HLi : Hid (Light ws) := fun y hy => ⟨HLo.out y hy, HLt.out rfl y hy⟩
    clear HLt HLo
    by_cases h1 : nodes < 1
    · go_wp2_with fail
      go_ret
      exact ⟨rfl, HB3.out⟩
    · by_cases h2 : 15 < nodes
      · go_wp2_with fail
        go_ret
        exact ⟨rfl, HB3.out⟩
      · by_cases h4 : 4 < ws.length
        · go_wp2_with fail
          go_ret
          exact ⟨rfl, HB3.out⟩
        · have HM2 := hideIt (merge_two nodes _ ws w3 (HV.out.below HB3.out) HLi.out (by omega) (by omega))
          have HCo := hideIt fun W (hW : Below w.heap.size w W) => combine_all nodes ws HLi.out (by omega) hn ws.length 0 (nodes, true) W (.slice ao ws.length c) (by omega) (HV.out.below hW) (fun a r c' h => by simp at h; omega) hn (.inr rfl)
          have HM3 := hideIt fun W (hW : Below w.heap.size w W) => merge_three nodes _ ws W (HV.out.below hW) HLi.out (by omega) (by omega)
          have HM1 := hideIt fun W (hW : Below w.heap.size w W) => merge_one nodes _ ws W (HV.out.below hW) HLi.out (by omega) (by omega)
          have HM0 := hideIt fun W => merge_zero nodes ao ws.length c W (by omega) (by omega)
          have HSt := hideIt (Ost.told_strict (nodes := nodes) (ws := ws) hn)
          unfold vH at *
          generalize told 2 nodes ws = T2 at *
          generalize told 3 nodes ws = T3 at *
          generalize told 1 nodes ws = T1 at *
          obtain ⟨m2, g2⟩ := T2
          obtain ⟨m3, g3⟩ := T3
          obtain ⟨m1, g1⟩ := T1
          simp only at HM2 HCo HM3 HM1 HSt
          go_wp2_with fail
          refine HM2.out.mono ?_
          rintro e w4 ⟨rfl, hb4⟩
          have HB4 := hideIt (HB3.out.trans (hb4.mono HB3.out.size))
          have HB4a := hideIt (HB4.out.alloc HB4.out.size (.cells #[.int .u8 (m2 : Nat), .bool g2] 60))
          clear hb4 HM2 HB3
          go_wp2_with fail
          refine (HCo.out _ HB4a.out).mono ?_
          rintro e w5 ⟨rfl, hb5⟩
          have HB5 := hideIt (HB4a.out.trans (hb5.mono HB4a.out.size))
          clear hb5 HB4 HB4a HCo
          go_wp2_with fail
          refine (HM3.out _ HB5.out).mono ?_
          rintro e w6 ⟨rfl, hb6⟩
          have HB6 := hideIt (HB5.out.trans (hb6.mono HB5.out.size))
          have HB6a := hideIt (HB6.out.alloc HB6.out.size (.cells #[.int .u8 (m3 : Nat), .bool g3] 60))
          clear hb6 HB5 HM3 HB6
          go_wp2_with fail
          refine (HM1.out _ HB6a.out).mono ?_
          rintro e w7 ⟨rfl, hb7⟩
          have HB7 := hideIt (HB6a.out.trans (hb7.mono HB6a.out.size))
          have HB7a := hideIt (HB7.out.alloc HB7.out.size (.cells #[.int .u8 (m1 : Nat), .bool g1] 60))
          clear hb7 HB6a HM1 HB7
          go_wp2_with fail
          refine (HM0.out _).mono ?_
          rintro e w8 ⟨rfl, hb8⟩
          have HB8 := hideIt (HB7a.out.trans (hb8.mono HB7a.out.size))
          have HB8a := hideIt (HB8.out.alloc HB8.out.size (.cells #[.int .u8 (nodes : Nat), .bool true] 60))
          clear hb8 HB7a HM0 HB8
          rcases two g3 with h3 | h3
          · have hg2 := HSt.out h3
            subst h3
            subst hg2
            go_wp2_with fail
            go_ret
            exact ⟨rfl, HB8a.out⟩
          · subst h3
            go_wp2_with fail
            go_ret
            exact ⟨rfl, HB8a.out⟩
  · subst hb
    go_wp2_with fail
    go_ret
    exact ⟨rfl, HB3.out⟩
end Go.Proofs.Ytlpogejkmigimaa
