/- What the document's some and Take answer: contracts. -/
import Derived.Test.YthekalhceamcoaaPBase
import Derived.Test.YthekalhceamcoaaPMath2
import Derived.Deep.RegionHeld3
namespace Go.Proofs.Ythekalhceamcoaa
open Go.RowKit
open Ost (Cpu cpu0 chosen cnt dif wholesTo wholes sockAt coreAt some1 some2 someOf singles takeOut order orB rest bestToP acc base fam)
theorem chosenLt (p : Cpu → Bool) {l : List Cpu} (h : l.length ≤ 64) : chosen p l < 18446744073709551616 := Ost.chosenTo_lt p l _ h
theorem shiftBit (A n : Nat) (hA : A < 18446744073709551616) : (bits BinOp.and IntKind.u64 ((A : Int) / 2 ^ n) 1 == 0) = !A.testBit n := by
  have h := bit_eq A n hA
  have e : ((A : Int) / 2 ^ n) = ((A / 2 ^ n : Nat) : Int) := by simp
  have hlt : A / 2 ^ n < 18446744073709551616 := Nat.lt_of_le_of_lt (Nat.div_le_self _ _) hA
  have e2 : bits BinOp.and IntKind.u64 ((A : Int) / 2 ^ n) 1 = ((A / 2 ^ n % 2 : Nat) : Int) := by
    rw [e, show (1 : Int) = ((1 : Nat) : Int) from rfl, bits_and_u64_nat _ _ hlt (by omega), Nat.and_one_is_mod]
  rw [e2] at h ⊢
  rw [← h]
  have : A / 2 ^ n % 2 = 0 ∨ A / 2 ^ n % 2 = 1 := by omega
  rcases this with h | h <;> rw [h] <;> rfl
set_option maxRecDepth 100000 in
set_option maxHeartbeats 4000000 in
theorem refSome_any (b o c F : Nat) (L : Int) (l : List Cpu) (w : World) (hc : CellsAt w b o l) (hlb : b < w.heap.size) (h64 : l.length ≤ 64) (hF : F < 18446744073709551616) (hFl : ∀ i, F.testBit i = true → i < l.length) (h0 : 0 ≤ L) (hL : L ≤ 64) :
    Calls Try.prog 87 #[.slice (some ⟨b, o, none⟩) l.length c, .int .u64 F, .int .i64 L] w fun e w' => e = .returned (.int .u64 (someOf l F L : Nat)) ∧ Below w.heap.size w w' := by
  have HC := hideIt hc
  have HLB := hideIt hlb
  have HFl := hideIt hFl
  clear hc hlb hFl
  have HI : Hid (base l F L 0 = 0 ∧ dif F (base l F L 0) = F ∧ L - (cnt (base l F L 0) : Int) = L) := ⟨rfl, Ost.dif_zero F, by show L - (cnt 0 : Int) = L; rw [Ost.cnt_0]; omega⟩
  go_enter Try.func87, Try.ntmps87
  go_wp2_with fail
  go_loopw [1, 2, 7, 8] (fun f v t i wr => ∃ k : Nat, k ≤ 2 ∧ i = .int .i64 k ∧ t = .int .u64 (base l F L k : Nat) ∧ f = .int .u64 (dif F (base l F L k) : Nat) ∧ v = .int .i64 (L - cnt (base l F L k)) ∧ Below w.heap.size w wr) (fun _ _ _ i _ => 2 - (intOf i).toNat)
  case atStart => exact ⟨0, by omega, rfl, by rw [HI.out.1]; rfl, by rw [HI.out.2.1], by rw [HI.out.2.2], Below.refl _ _⟩
  case round =>
    obtain ⟨k, hk, hi, rfl, rfl, rfl, hB⟩ := hrel
    clear HI
    have hk3 : k = 0 ∨ k = 1 ∨ k = 2 := by omega
    rcases hk3 with rfl | rfl | rfl
    · clear hk
      have hi2 : _ = Value.int .i64 0 := hi
      clear hi
      subst hi2
      go_wp2_with fail
      go_loopw [1, 2, 7, 9] (fun f v t i wr => ∃ n : Nat, n ≤ 64 ∧ i = .int .i64 n ∧ t = .int .u64 (acc l F L 0 n : Nat) ∧ f = .int .u64 (dif F (acc l F L 0 n) : Nat) ∧ v = .int .i64 (L - cnt (acc l F L 0 n)) ∧ Below w.heap.size w wr) (fun _ _ _ i _ => 64 - (intOf i).toNat)
      case atStart => exact ⟨0, by omega, rfl, by rw [Ost.acc_zero], by rw [Ost.acc_zero], by rw [Ost.acc_zero], hB⟩
      case round =>
        clear hB
        obtain ⟨n, hn, rfl, rfl, rfl, rfl, hB⟩ := hrel
        by_cases hlt : n < 64
        · have hcw := HC.out.below HLB.out hB
          have hs := Ost.fam_lt h64 0 n
          have ha := Ost.sub_lt hF (Ost.acc_sub l F L 0 n)
          have hca := Ost.acc_cnt l F L h0 0 n
          have HYes := hideIt (@Ost.acc_yes l F L 0 n)
          have HNo := hideIt (@Ost.acc_no l F L 0 n)
          have HLeft := hideIt (@Ost.acc_left l F L 0 n)
          have HSo : Hid (∀ W, CellsAt W b o l → Calls Try.prog 131 #[.slice (some ⟨b, o, none⟩) l.length c, .int .i64 n] W fun e w' => e = .returned (.int .u64 (sockAt l n : Nat)) ∧ w' = W) := fun W hW => refSocket_some b o c l n W hW h64
          have HCo : Hid (∀ W, CellsAt W b o l → Calls Try.prog 132 #[.slice (some ⟨b, o, none⟩) l.length c, .int .i64 n] W fun e w' => e = .returned (.int .u64 (coreAt l n : Nat)) ∧ w' = W) := fun W hW => refCore_some b o c l n W hW h64
          have hcw := hideIt hcw
          have HAnd := hideIt (bits_and_u64_nat (fam l 0 n) (dif F (acc l F L 0 n)) hs (Ost.dif_lt _ hF))
          have HOr := hideIt (bits_or_u64_nat (acc l F L 0 n) (fam l 0 n) ha hs)
          have HAN := hideIt (andNot64 (dif F (acc l F L 0 n)) (fam l 0 n) (Ost.dif_lt _ hF) hs)
          have HCn : Hid (∀ W, Calls Try.prog 86 #[.int .u64 (fam l 0 n : Nat)] W fun e w' => e = .returned (.int .i64 (cnt (fam l 0 n) : Nat)) ∧ Below W.heap.size W w') := fun W => refCnt_any (fam l 0 n) W hs
          have hcs : cnt (fam l 0 n) ≤ 64 := listTo_le _ 64
          have HSF : Hid (sockAt l n = fam l 0 n) := rfl
          rw [HSF.out] at HSo
          clear HSF
          generalize fam l 0 n = s at *
          go_wp2_with fail
          refine (HSo.out _ hcw.out).mono ?_
          rintro e w1 ⟨rfl, rfl⟩
          by_cases hs0 : s = 0
          · have q1 : ((s : Int) != 0) = false := by rw [hs0]; rfl
            have HE : Hid (acc l F L 0 (n + 1) = acc l F L 0 n) := HNo.out (.inl hs0)
            clear hs0
            go_wp2_with fail
            go_roundw
            case rel => exact ⟨n + 1, by omega, by go_num, by rw [HE.out], by rw [HE.out], by rw [HE.out], hB⟩
            case measure => simp [intOf]; omega
          · have q1 : ((s : Int) != 0) = true := by rw [bne_iff_ne]; omega
            by_cases hs1 : s &&& dif F (acc l F L 0 n) = s
            · have q2 : bits BinOp.and IntKind.u64 (s : Int) (dif F (acc l F L 0 n) : Nat) = (s : Int) := by rw [HAnd.out, hs1]
              by_cases hs2 : (cnt s : Int) ≤ L - cnt (acc l F L 0 n)
              · have HE := hideIt (HYes.out hs0 hs1 hs2)
                have HEl := hideIt (HLeft.out hs0 hs1 hs2)
                have o1 := HOr.out
                have o2 := HAN.out
                clear hs0 hs1
                go_wp2_with fail
                refine (HCn.out _).mono ?_
                rintro e w1 ⟨rfl, hb⟩
                have hB1 := hB.trans (hb.mono hB.size)
                clear hb hB
                go_wp2_with fail
                refine (HCn.out _).mono ?_
                rintro e w2 ⟨rfl, hb⟩
                have hB2 := hB1.trans (hb.mono hB1.size)
                clear hb hB1
                go_wp2_with fail
                go_roundw
                case rel => exact ⟨n + 1, by omega, by go_num, by rw [HE.out, ← o1], by rw [← HEl.out.1, ← o2], by rw [← HEl.out.2], hB2⟩
                case measure => simp [intOf]; omega
              · have HE : Hid (acc l F L 0 (n + 1) = acc l F L 0 n) := HNo.out (.inr (.inr (by omega)))
                have hs3 : L - cnt (acc l F L 0 n) < (cnt s : Int) := by omega
                clear hs0 hs1 hs2
                go_wp2_with fail
                refine (HCn.out _).mono ?_
                rintro e w1 ⟨rfl, hb⟩
                have hB1 := hB.trans (hb.mono hB.size)
                clear hb hB
                go_wp2_with fail
                go_roundw
                case rel => exact ⟨n + 1, by omega, by go_num, by rw [HE.out], by rw [HE.out], by rw [HE.out], hB1⟩
                case measure => simp [intOf]; omega
            · have q2 : (bits BinOp.and IntKind.u64 (s : Int) (dif F (acc l F L 0 n) : Nat) == (s : Int)) = false := by rw [HAnd.out, beq_eq_false_iff_ne]; omega
              have HE : Hid (acc l F L 0 (n + 1) = acc l F L 0 n) := HNo.out (.inr (.inl hs1))
              clear hs0 hs1
              go_wp2_with fail
              go_roundw
              case rel => exact ⟨n + 1, by omega, by go_num, by rw [HE.out], by rw [HE.out], by rw [HE.out], hB⟩
              case measure => simp [intOf]; omega
        · have hn64 : n = 64 := by omega
          subst hn64
          clear hn hlt
          have HE := hideIt (Ost.acc_end l F L 0 (by omega))
          go_wp2_with fail
          go_roundw
          case rel => exact ⟨0 + 1, by omega, rfl, by rw [HE.out], by rw [HE.out], by rw [HE.out], hB⟩
          case measure => simp [intOf]
    · clear hk
      have hi2 : _ = Value.int .i64 1 := hi
      clear hi
      subst hi2
      go_wp2_with fail
      go_loopw [1, 2, 7, 9] (fun f v t i wr => ∃ n : Nat, n ≤ 64 ∧ i = .int .i64 n ∧ t = .int .u64 (acc l F L 1 n : Nat) ∧ f = .int .u64 (dif F (acc l F L 1 n) : Nat) ∧ v = .int .i64 (L - cnt (acc l F L 1 n)) ∧ Below w.heap.size w wr) (fun _ _ _ i _ => 64 - (intOf i).toNat)
      case atStart => exact ⟨0, by omega, rfl, by rw [Ost.acc_zero], by rw [Ost.acc_zero], by rw [Ost.acc_zero], hB⟩
      case round =>
        clear hB
        obtain ⟨n, hn, rfl, rfl, rfl, rfl, hB⟩ := hrel
        by_cases hlt : n < 64
        · have hcw := HC.out.below HLB.out hB
          have hs := Ost.fam_lt h64 1 n
          have ha := Ost.sub_lt hF (Ost.acc_sub l F L 1 n)
          have hca := Ost.acc_cnt l F L h0 1 n
          have HYes := hideIt (@Ost.acc_yes l F L 1 n)
          have HNo := hideIt (@Ost.acc_no l F L 1 n)
          have HLeft := hideIt (@Ost.acc_left l F L 1 n)
          have HSo : Hid (∀ W, CellsAt W b o l → Calls Try.prog 131 #[.slice (some ⟨b, o, none⟩) l.length c, .int .i64 n] W fun e w' => e = .returned (.int .u64 (sockAt l n : Nat)) ∧ w' = W) := fun W hW => refSocket_some b o c l n W hW h64
          have HCo : Hid (∀ W, CellsAt W b o l → Calls Try.prog 132 #[.slice (some ⟨b, o, none⟩) l.length c, .int .i64 n] W fun e w' => e = .returned (.int .u64 (coreAt l n : Nat)) ∧ w' = W) := fun W hW => refCore_some b o c l n W hW h64
          have hcw := hideIt hcw
          have HAnd := hideIt (bits_and_u64_nat (fam l 1 n) (dif F (acc l F L 1 n)) hs (Ost.dif_lt _ hF))
          have HOr := hideIt (bits_or_u64_nat (acc l F L 1 n) (fam l 1 n) ha hs)
          have HAN := hideIt (andNot64 (dif F (acc l F L 1 n)) (fam l 1 n) (Ost.dif_lt _ hF) hs)
          have HCn : Hid (∀ W, Calls Try.prog 86 #[.int .u64 (fam l 1 n : Nat)] W fun e w' => e = .returned (.int .i64 (cnt (fam l 1 n) : Nat)) ∧ Below W.heap.size W w') := fun W => refCnt_any (fam l 1 n) W hs
          have hcs : cnt (fam l 1 n) ≤ 64 := listTo_le _ 64
          have HSF : Hid (coreAt l n = fam l 1 n) := rfl
          rw [HSF.out] at HCo
          clear HSF
          generalize fam l 1 n = s at *
          go_wp2_with fail
          refine (HSo.out _ hcw.out).mono ?_
          rintro e w1 ⟨rfl, rfl⟩
          go_wp2_with fail
          refine (HCo.out _ hcw.out).mono ?_
          rintro e w1 ⟨rfl, rfl⟩
          by_cases hs0 : s = 0
          · have q1 : ((s : Int) != 0) = false := by rw [hs0]; rfl
            have HE : Hid (acc l F L 1 (n + 1) = acc l F L 1 n) := HNo.out (.inl hs0)
            clear hs0
            go_wp2_with fail
            go_roundw
            case rel => exact ⟨n + 1, by omega, by go_num, by rw [HE.out], by rw [HE.out], by rw [HE.out], hB⟩
            case measure => simp [intOf]; omega
          · have q1 : ((s : Int) != 0) = true := by rw [bne_iff_ne]; omega
            by_cases hs1 : s &&& dif F (acc l F L 1 n) = s
            · have q2 : bits BinOp.and IntKind.u64 (s : Int) (dif F (acc l F L 1 n) : Nat) = (s : Int) := by rw [HAnd.out, hs1]
              by_cases hs2 : (cnt s : Int) ≤ L - cnt (acc l F L 1 n)
              · have HE := hideIt (HYes.out hs0 hs1 hs2)
                have HEl := hideIt (HLeft.out hs0 hs1 hs2)
                have o1 := HOr.out
                have o2 := HAN.out
                clear hs0 hs1
                go_wp2_with fail
                refine (HCn.out _).mono ?_
                rintro e w1 ⟨rfl, hb⟩
                have hB1 := hB.trans (hb.mono hB.size)
                clear hb hB
                go_wp2_with fail
                refine (HCn.out _).mono ?_
                rintro e w2 ⟨rfl, hb⟩
                have hB2 := hB1.trans (hb.mono hB1.size)
                clear hb hB1
                go_wp2_with fail
                go_roundw
                case rel => exact ⟨n + 1, by omega, by go_num, by rw [HE.out, ← o1], by rw [← HEl.out.1, ← o2], by rw [← HEl.out.2], hB2⟩
                case measure => simp [intOf]; omega
              · have HE : Hid (acc l F L 1 (n + 1) = acc l F L 1 n) := HNo.out (.inr (.inr (by omega)))
                have hs3 : L - cnt (acc l F L 1 n) < (cnt s : Int) := by omega
                clear hs0 hs1 hs2
                go_wp2_with fail
                refine (HCn.out _).mono ?_
                rintro e w1 ⟨rfl, hb⟩
                have hB1 := hB.trans (hb.mono hB.size)
                clear hb hB
                go_wp2_with fail
                go_roundw
                case rel => exact ⟨n + 1, by omega, by go_num, by rw [HE.out], by rw [HE.out], by rw [HE.out], hB1⟩
                case measure => simp [intOf]; omega
            · have q2 : (bits BinOp.and IntKind.u64 (s : Int) (dif F (acc l F L 1 n) : Nat) == (s : Int)) = false := by rw [HAnd.out, beq_eq_false_iff_ne]; omega
              have HE : Hid (acc l F L 1 (n + 1) = acc l F L 1 n) := HNo.out (.inr (.inl hs1))
              clear hs0 hs1
              go_wp2_with fail
              go_roundw
              case rel => exact ⟨n + 1, by omega, by go_num, by rw [HE.out], by rw [HE.out], by rw [HE.out], hB⟩
              case measure => simp [intOf]; omega
        · have hn64 : n = 64 := by omega
          subst hn64
          clear hn hlt
          have HE := hideIt (Ost.acc_end l F L 1 (by omega))
          go_wp2_with fail
          go_roundw
          case rel => exact ⟨1 + 1, by omega, rfl, by rw [HE.out], by rw [HE.out], by rw [HE.out], hB⟩
          case measure => simp [intOf]
    · clear hk
      have hi2 : _ = Value.int .i64 2 := hi
      clear hi
      subst hi2
      have HSo := hideIt (Ost.someOf_base l F L)
      have hS := Ost.sub_lt hF (Ost.base_sub l F L 2)
      have hLn := Ost.base_cnt l F L h0 2
      have hN := Ost.dif_lt (A := F) (base l F L 2) hF
      have HNl : Hid (∀ i, (dif F (base l F L 2)).testBit i = true → i < l.length) := fun i hi => HFl.out i (by rw [Ost.dif_bit, Bool.and_eq_true] at hi; exact hi.1)
      generalize base l F L 2 = S2 at *
      generalize hL2 : L - (cnt S2 : Int) = L2 at *
      have hL20 : 0 ≤ L2 := by omega
      have hL26 : L2 ≤ 64 := by omega
      have HCl : Hid (∀ i, Ost.leftOf l (dif F S2) i = cnt (chosen (fun x => x.core == (l.getD i cpu0).core) l &&& dif F S2)) := fun _ => rfl
      generalize dif F S2 = N0 at *
      have HR0 : Hid (rest (Ost.leftOf l N0) N0 0 = N0 ∧ S2 ||| orB ((order (Ost.leftOf l N0) N0).take 0) = S2) := ⟨by simp [rest, orB, Ost.dif_zero], by simp [orB]⟩
      generalize hcl : Ost.leftOf l N0 = cl at *
      clear hcl hL2 hLn
      have hlen : (order cl N0).length ≤ 64 := by rw [Ost.order_length]; exact listTo_le N0 64
      go_wp2_with fail
      go_loopw [1, 2, 7] (fun f v t wr => ∃ j : Nat, j ≤ (order cl N0).length ∧ (j : Int) ≤ L2 ∧ f = .int .u64 (rest cl N0 j : Nat) ∧ v = .int .i64 (L2 - j) ∧ t = .int .u64 (S2 ||| orB ((order cl N0).take j) : Nat) ∧ Below w.heap.size w wr) (fun _ v _ _ => (intOf v).toNat)
      case atStart => exact ⟨0, by omega, by omega, by rw [HR0.out.1], by rw [show L2 - ((0 : Nat) : Int) = L2 by omega], by rw [HR0.out.2], hB⟩
      case round =>
        clear hB HR0
        obtain ⟨j, hj, hjL, rfl, rfl, rfl, hB⟩ := hrel
        have hR := Ost.rest_lt (c := cl) hN j
        by_cases hgo : j < (order cl N0).length ∧ (j : Int) < L2
        · obtain ⟨hjl, hjL2⟩ := hgo
          have q1 : ((rest cl N0 j : Int) != 0) = true := by
            rw [bne_iff_ne]
            have := (not_congr (Ost.rest_zero (c := cl) hN j)).2 (by omega)
            omega
          have HBest := hideIt (Ost.bestTo_next (K := l.length) hN HNl.out hjl)
          have HStep := hideIt (Ost.rest_step hjl)
          have HTk := hideIt (Ost.take_orB hjl S2)
          have h64b := Ost.order_lt hjl
          have hT := or_lt S2 (orB ((order cl N0).take j)) hS (Ost.orB_lt hN j)
          generalize (order cl N0)[j] = bj at *
          have HOr := hideIt (or_step (S2 ||| orB ((order cl N0).take j)) bj hT h64b)
          have HAn : Hid (bits BinOp.andNot IntKind.u64 (rest cl N0 j : Nat) (IntKind.u64.wrap (2 ^ bj)) = ((dif (rest cl N0 j) (2 ^ bj) : Nat) : Int)) := by
            have hp := pow_lt64 bj h64b
            have h2 := andNot64 (rest cl N0 j) (2 ^ bj) hR hp
            unfold Hid
            rw [← h2, show (2 ^ bj : Int) = ((2 ^ bj : Nat) : Int) by simp]
            generalize 2 ^ bj = q at hp ⊢
            rw [IntKind.wrap_u64, show (q : Int) % 18446744073709551616 = (q : Int) by omega]
          rw [← HStep.out] at HAn
          rw [← HTk.out] at HOr
          clear HStep HTk
          go_wp2_with fail
          go_loopw [12, 13] (fun bst i wi => ∃ k : Nat, k ≤ l.length ∧ i = .int .i64 k ∧ bst = .int .i64 (bestToP cl (rest cl N0 j) k) ∧ Below w.heap.size w wi) (fun _ i _ => l.length - (intOf i).toNat)
          case atStart => exact ⟨0, by omega, rfl, rfl, hB⟩
          case round =>
            clear hB
            obtain ⟨k, hk, rfl, rfl, hB⟩ := hrel
            by_cases hlt : k < l.length
            · have hbit := shiftBit (rest cl N0 j) k hR
              rcases two ((rest cl N0 j).testBit k) with hb | hb
              · rw [hb] at hbit
                have hbit2 : (bits BinOp.and IntKind.u64 ((rest cl N0 j : Int) / 2 ^ k) 1 == 0) = false := hbit
                clear hbit
                by_cases hbst : bestToP cl (rest cl N0 j) k = -1
                · have HE := hideIt (Ost.bestTo_first (c := cl) hb hbst)
                  rw [hbst]
                  clear hb hbst
                  go_wp2_with fail
                  refine wp_region_held_drew (S := fun _ => True) (by kernel_rfl) trivial (fun hHeld => ?_)
                  refine wpAnyH_take (i := 0) (oi := { dst := some 74, op := Op.move (Operand.tmp 12), type := 3, pos := "parts.go:516", after := #[], guard := none }) (v := ?v1x0) rfl (by kernel_rfl) (by kernel_rfl) (by kernel_rfl) (fun _ _ _ h => h) (Or.inl ⟨by rfl, ?h1x0⟩) (by assumption) ?r1x0
                  case h1x0 =>
                    intro w' hSw
                    (try dsimp only at hSw)
                    go_simp
                    first | done | with_reducible rfl | rfl
                  (try simp only [Act.put, List.setIfInBounds_toArray, List.set_cons_zero, List.set_cons_succ])
                  refine wpAnyH_take (i := 1) (oi := { dst := some 75, op := Op.binOp BinOp.lss 3 (Operand.tmp 74) (Operand.const (Value.int IntKind.i64 0)) 3, type := 4, pos := "parts.go:516", after := #[{ on := 0, ground := Ground.data }], guard := none }) (v := ?v2x1) rfl (by kernel_rfl) (by kernel_rfl) (by kernel_rfl) (fun _ _ _ h => h) (Or.inl ⟨by rfl, ?h2x1⟩) (by assumption) ?r2x1
                  case h2x1 =>
                    intro w' hSw
                    (try dsimp only at hSw)
                    go_simp
                    first | done | with_reducible rfl | rfl
                  (try simp only [Act.put, List.setIfInBounds_toArray, List.set_cons_zero, List.set_cons_succ])
                  refine wpAnyH_take (i := 2) (oi := { dst := some 76, op := Op.move (Operand.tmp 75), type := 4, pos := "parts.go:516", after := #[{ on := 1, ground := Ground.data }], guard := none }) (v := ?v3x2) rfl (by kernel_rfl) (by kernel_rfl) (by kernel_rfl) (fun _ _ _ h => h) (Or.inl ⟨by rfl, ?h3x2⟩) (by assumption) ?r3x2
                  case h3x2 =>
                    intro w' hSw
                    (try dsimp only at hSw)
                    go_simp
                    first | done | with_reducible rfl | rfl
                  (try simp only [Act.put, List.setIfInBounds_toArray, List.set_cons_zero, List.set_cons_succ])
                  refine wpAnyH_take (i := 3) (oi := { dst := some 77, op := Op.move (Operand.tmp 0), type := 22, pos := "parts.go:516", after := #[{ on := 2, ground := Ground.guard }], guard := some (2, false) }) (v := undef) rfl (by kernel_rfl) (by kernel_rfl) (by kernel_rfl) (fun _ _ _ h => h) (Or.inr ⟨by rfl, rfl⟩) (by assumption) ?_
                  (try simp only [Act.put, List.setIfInBounds_toArray, List.set_cons_zero, List.set_cons_succ])
                  refine wpAnyH_take (i := 4) (oi := { dst := some 78, op := Op.move (Operand.tmp 0), type := 22, pos := "parts.go:516", after := #[{ on := 2, ground := Ground.guard }], guard := some (2, false) }) (v := undef) rfl (by kernel_rfl) (by kernel_rfl) (by kernel_rfl) (fun _ _ _ h => h) (Or.inr ⟨by rfl, rfl⟩) (by assumption) ?_
                  (try simp only [Act.put, List.setIfInBounds_toArray, List.set_cons_zero, List.set_cons_succ])
                  refine wpAnyH_take (i := 5) (oi := { dst := some 79, op := Op.move (Operand.tmp 13), type := 3, pos := "parts.go:516", after := #[{ on := 2, ground := Ground.guard }], guard := some (2, false) }) (v := undef) rfl (by kernel_rfl) (by kernel_rfl) (by kernel_rfl) (fun _ _ _ h => h) (Or.inr ⟨by rfl, rfl⟩) (by assumption) ?_
                  (try simp only [Act.put, List.setIfInBounds_toArray, List.set_cons_zero, List.set_cons_succ])
                  refine wpAnyH_take (i := 6) (oi := { dst := some 80, op := Op.indexAddr 22 (Operand.tmp 78) (Operand.tmp 79), type := 0, pos := "parts.go:516", after := #[{ on := 4, ground := Ground.data }, { on := 5, ground := Ground.data }, { on := 2, ground := Ground.guard }], guard := some (2, false) }) (v := undef) rfl (by kernel_rfl) (by kernel_rfl) (by kernel_rfl) (fun _ _ _ h => h) (Or.inr ⟨by rfl, rfl⟩) (by assumption) ?_
                  (try simp only [Act.put, List.setIfInBounds_toArray, List.set_cons_zero, List.set_cons_succ])
                  refine wpAnyH_take (i := 7) (oi := { dst := some 81, op := Op.fieldAddr 40 (Operand.tmp 80) 0, type := 0, pos := "parts.go:516", after := #[{ on := 6, ground := Ground.data }, { on := 2, ground := Ground.guard }], guard := some (2, false) }) (v := undef) rfl (by kernel_rfl) (by kernel_rfl) (by kernel_rfl) (fun _ _ _ h => h) (Or.inr ⟨by rfl, rfl⟩) (by assumption) ?_
                  (try simp only [Act.put, List.setIfInBounds_toArray, List.set_cons_zero, List.set_cons_succ])
                  refine wpAnyH_take (i := 8) (oi := { dst := some 82, op := Op.load 3 (Operand.tmp 81), type := 3, pos := "parts.go:516", after := #[{ on := 7, ground := Ground.data }, { on := 2, ground := Ground.guard }], guard := some (2, false) }) (v := undef) rfl (by kernel_rfl) (by kernel_rfl) (by kernel_rfl) (fun _ _ _ h => h) (Or.inr ⟨by rfl, rfl⟩) (by assumption) ?_
                  (try simp only [Act.put, List.setIfInBounds_toArray, List.set_cons_zero, List.set_cons_succ])
                  refine wpAnyH_take (i := 9) (oi := { dst := some 83, op := Op.call { callee := Callee.value (Operand.func 132), args := #[Operand.tmp 77, Operand.tmp 82], argTypes := #[22, 3] }, type := 24, pos := "parts.go:516", after := #[{ on := 3, ground := Ground.data }, { on := 8, ground := Ground.data }, { on := 2, ground := Ground.chain }, { on := 2, ground := Ground.guard }], guard := some (2, false) }) (v := undef) rfl (by kernel_rfl) (by kernel_rfl) (by kernel_rfl) (fun _ _ _ h => h) (Or.inr ⟨by rfl, rfl⟩) (by assumption) ?_
                  (try simp only [Act.put, List.setIfInBounds_toArray, List.set_cons_zero, List.set_cons_succ])
                  refine wpAnyH_take (i := 10) (oi := { dst := some 84, op := Op.move (Operand.tmp 11), type := 24, pos := "parts.go:516", after := #[{ on := 2, ground := Ground.guard }], guard := some (2, false) }) (v := undef) rfl (by kernel_rfl) (by kernel_rfl) (by kernel_rfl) (fun _ _ _ h => h) (Or.inr ⟨by rfl, rfl⟩) (by assumption) ?_
                  (try simp only [Act.put, List.setIfInBounds_toArray, List.set_cons_zero, List.set_cons_succ])
                  refine wpAnyH_take (i := 11) (oi := { dst := some 85, op := Op.binOp BinOp.and 24 (Operand.tmp 83) (Operand.tmp 84) 24, type := 24, pos := "parts.go:516", after := #[{ on := 9, ground := Ground.data }, { on := 10, ground := Ground.data }, { on := 2, ground := Ground.guard }], guard := some (2, false) }) (v := undef) rfl (by kernel_rfl) (by kernel_rfl) (by kernel_rfl) (fun _ _ _ h => h) (Or.inr ⟨by rfl, rfl⟩) (by assumption) ?_
                  (try simp only [Act.put, List.setIfInBounds_toArray, List.set_cons_zero, List.set_cons_succ])
                  refine wpAnyH_take (i := 12) (oi := { dst := some 86, op := Op.call { callee := Callee.value (Operand.func 86), args := #[Operand.tmp 85], argTypes := #[24] }, type := 3, pos := "parts.go:516", after := #[{ on := 11, ground := Ground.data }, { on := 9, ground := Ground.chain }, { on := 2, ground := Ground.guard }], guard := some (2, false) }) (v := undef) rfl (by kernel_rfl) (by kernel_rfl) (by kernel_rfl) (fun _ _ _ h => h) (Or.inr ⟨by rfl, rfl⟩) (by assumption) ?_
                  (try simp only [Act.put, List.setIfInBounds_toArray, List.set_cons_zero, List.set_cons_succ])
                  refine wpAnyH_take (i := 13) (oi := { dst := some 87, op := Op.move (Operand.tmp 0), type := 22, pos := "parts.go:516", after := #[{ on := 2, ground := Ground.guard }], guard := some (2, false) }) (v := undef) rfl (by kernel_rfl) (by kernel_rfl) (by kernel_rfl) (fun _ _ _ h => h) (Or.inr ⟨by rfl, rfl⟩) (by assumption) ?_
                  (try simp only [Act.put, List.setIfInBounds_toArray, List.set_cons_zero, List.set_cons_succ])
                  refine wpAnyH_take (i := 14) (oi := { dst := some 88, op := Op.move (Operand.tmp 0), type := 22, pos := "parts.go:516", after := #[{ on := 2, ground := Ground.guard }], guard := some (2, false) }) (v := undef) rfl (by kernel_rfl) (by kernel_rfl) (by kernel_rfl) (fun _ _ _ h => h) (Or.inr ⟨by rfl, rfl⟩) (by assumption) ?_
                  (try simp only [Act.put, List.setIfInBounds_toArray, List.set_cons_zero, List.set_cons_succ])
                  refine wpAnyH_take (i := 15) (oi := { dst := some 89, op := Op.move (Operand.tmp 12), type := 3, pos := "parts.go:516", after := #[{ on := 2, ground := Ground.guard }], guard := some (2, false) }) (v := undef) rfl (by kernel_rfl) (by kernel_rfl) (by kernel_rfl) (fun _ _ _ h => h) (Or.inr ⟨by rfl, rfl⟩) (by assumption) ?_
                  (try simp only [Act.put, List.setIfInBounds_toArray, List.set_cons_zero, List.set_cons_succ])
                  refine wpAnyH_take (i := 16) (oi := { dst := some 90, op := Op.indexAddr 22 (Operand.tmp 88) (Operand.tmp 89), type := 0, pos := "parts.go:516", after := #[{ on := 14, ground := Ground.data }, { on := 15, ground := Ground.data }, { on := 2, ground := Ground.guard }], guard := some (2, false) }) (v := undef) rfl (by kernel_rfl) (by kernel_rfl) (by kernel_rfl) (fun _ _ _ h => h) (Or.inr ⟨by rfl, rfl⟩) (by assumption) ?_
                  (try simp only [Act.put, List.setIfInBounds_toArray, List.set_cons_zero, List.set_cons_succ])
                  refine wpAnyH_take (i := 17) (oi := { dst := some 91, op := Op.fieldAddr 40 (Operand.tmp 90) 0, type := 0, pos := "parts.go:516", after := #[{ on := 16, ground := Ground.data }, { on := 2, ground := Ground.guard }], guard := some (2, false) }) (v := undef) rfl (by kernel_rfl) (by kernel_rfl) (by kernel_rfl) (fun _ _ _ h => h) (Or.inr ⟨by rfl, rfl⟩) (by assumption) ?_
                  (try simp only [Act.put, List.setIfInBounds_toArray, List.set_cons_zero, List.set_cons_succ])
                  refine wpAnyH_take (i := 18) (oi := { dst := some 92, op := Op.load 3 (Operand.tmp 91), type := 3, pos := "parts.go:516", after := #[{ on := 17, ground := Ground.data }, { on := 2, ground := Ground.guard }], guard := some (2, false) }) (v := undef) rfl (by kernel_rfl) (by kernel_rfl) (by kernel_rfl) (fun _ _ _ h => h) (Or.inr ⟨by rfl, rfl⟩) (by assumption) ?_
                  (try simp only [Act.put, List.setIfInBounds_toArray, List.set_cons_zero, List.set_cons_succ])
                  refine wpAnyH_take (i := 19) (oi := { dst := some 93, op := Op.call { callee := Callee.value (Operand.func 132), args := #[Operand.tmp 87, Operand.tmp 92], argTypes := #[22, 3] }, type := 24, pos := "parts.go:516", after := #[{ on := 13, ground := Ground.data }, { on := 18, ground := Ground.data }, { on := 12, ground := Ground.chain }, { on := 2, ground := Ground.guard }], guard := some (2, false) }) (v := undef) rfl (by kernel_rfl) (by kernel_rfl) (by kernel_rfl) (fun _ _ _ h => h) (Or.inr ⟨by rfl, rfl⟩) (by assumption) ?_
                  (try simp only [Act.put, List.setIfInBounds_toArray, List.set_cons_zero, List.set_cons_succ])
                  refine wpAnyH_take (i := 20) (oi := { dst := some 94, op := Op.move (Operand.tmp 11), type := 24, pos := "parts.go:516", after := #[{ on := 2, ground := Ground.guard }], guard := some (2, false) }) (v := undef) rfl (by kernel_rfl) (by kernel_rfl) (by kernel_rfl) (fun _ _ _ h => h) (Or.inr ⟨by rfl, rfl⟩) (by assumption) ?_
                  (try simp only [Act.put, List.setIfInBounds_toArray, List.set_cons_zero, List.set_cons_succ])
                  refine wpAnyH_take (i := 21) (oi := { dst := some 95, op := Op.binOp BinOp.and 24 (Operand.tmp 93) (Operand.tmp 94) 24, type := 24, pos := "parts.go:516", after := #[{ on := 19, ground := Ground.data }, { on := 20, ground := Ground.data }, { on := 2, ground := Ground.guard }], guard := some (2, false) }) (v := undef) rfl (by kernel_rfl) (by kernel_rfl) (by kernel_rfl) (fun _ _ _ h => h) (Or.inr ⟨by rfl, rfl⟩) (by assumption) ?_
                  (try simp only [Act.put, List.setIfInBounds_toArray, List.set_cons_zero, List.set_cons_succ])
                  refine wpAnyH_take (i := 22) (oi := { dst := some 96, op := Op.call { callee := Callee.value (Operand.func 86), args := #[Operand.tmp 95], argTypes := #[24] }, type := 3, pos := "parts.go:516", after := #[{ on := 21, ground := Ground.data }, { on := 19, ground := Ground.chain }, { on := 2, ground := Ground.guard }], guard := some (2, false) }) (v := undef) rfl (by kernel_rfl) (by kernel_rfl) (by kernel_rfl) (fun _ _ _ h => h) (Or.inr ⟨by rfl, rfl⟩) (by assumption) ?_
                  (try simp only [Act.put, List.setIfInBounds_toArray, List.set_cons_zero, List.set_cons_succ])
                  refine wpAnyH_take (i := 23) (oi := { dst := some 97, op := Op.binOp BinOp.lss 3 (Operand.tmp 86) (Operand.tmp 96) 3, type := 4, pos := "parts.go:516", after := #[{ on := 12, ground := Ground.data }, { on := 22, ground := Ground.data }, { on := 2, ground := Ground.guard }], guard := some (2, false) }) (v := undef) rfl (by kernel_rfl) (by kernel_rfl) (by kernel_rfl) (fun _ _ _ h => h) (Or.inr ⟨by rfl, rfl⟩) (by assumption) ?_
                  (try simp only [Act.put, List.setIfInBounds_toArray, List.set_cons_zero, List.set_cons_succ])
                  refine wpAnyH_take (i := 24) (oi := { dst := some 98, op := Op.pick (Operand.tmp 76) (Operand.const (Value.bool true)) (Operand.tmp 97), type := 4, pos := "parts.go:516", after := #[{ on := 2, ground := Ground.data }, { on := 23, ground := Ground.data }], guard := none }) (v := ?v4x24) rfl (by kernel_rfl) (by kernel_rfl) (by kernel_rfl) (fun _ _ _ h => h) (Or.inl ⟨by rfl, ?h4x24⟩) (by assumption) ?r4x24
                  case h4x24 =>
                    intro w' hSw
                    (try dsimp only at hSw)
                    go_simp
                    first | done | with_reducible rfl | rfl
                  (try simp only [Act.put, List.setIfInBounds_toArray, List.set_cons_zero, List.set_cons_succ])
                  refine wpAnyH_done (by kernel_rfl) ?_ _
                  have hBd := below_drewN hB 1
                  change Below w.heap.size w _ at hBd
                  go_wp2_with fail
                  go_roundw
                  case rel => exact ⟨k + 1, by omega, by go_num, by rw [HE.out], hBd⟩
                  case measure => simp [intOf]; omega
                · obtain ⟨bb, hbb, hbk⟩ := Ost.bestTo_in hbst
                  have HLs := hideIt (fun h => Ost.bestTo_less (c := cl) hb hbb h)
                  have HMr := hideIt (fun h => Ost.bestTo_more (c := cl) (i := k) hbb h)
                  rw [hbb]
                  clear hb hbst hbb
                  go_wp2_with fail
                  have hbl : bb < l.length := by omega
                  have hBd := below_drewN hB 1
                  change Below w.heap.size w wr.drew at hBd
                  have HCk := hideIt (fun W hW => refCore_some b o c l (l.getD k cpu0).core W hW h64)
                  have HCb := hideIt (fun W hW => refCore_some b o c l (l.getD bb cpu0).core W hW h64)
                  have HNk : Hid (∀ W, Calls Try.prog 86 #[.int .u64 (bits BinOp.and IntKind.u64 (chosen (fun x => x.core == (l.getD k cpu0).core) l : Nat) (N0 : Nat))] W fun e w' => e = .returned (.int .i64 (cl k : Nat)) ∧ Below W.heap.size W w') := fun W => by
                    rw [bits_and_u64_nat _ _ (chosenLt _ h64) hN, HCl.out k]
                    exact refCnt_any _ W (Ost.sub_lt (chosenLt _ h64) (Ost.and_sub _ N0))
                  have HNb : Hid (∀ W, Calls Try.prog 86 #[.int .u64 (bits BinOp.and IntKind.u64 (chosen (fun x => x.core == (l.getD bb cpu0).core) l : Nat) (N0 : Nat))] W fun e w' => e = .returned (.int .i64 (cl bb : Nat)) ∧ Below W.heap.size W w') := fun W => by
                    rw [bits_and_u64_nat _ _ (chosenLt _ h64) hN, HCl.out bb]
                    exact refCnt_any _ W (Ost.sub_lt (chosenLt _ h64) (Ost.and_sub _ N0))
                  have HXk : Hid (∀ W, CellsAt W b o l → W.cell? ⟨b, o + k * 3, none⟩ = some (.int .i64 (l.getD k cpu0).core)) := fun W hW => (hW k hlt).1
                  have HXb : Hid (∀ W, CellsAt W b o l → W.cell? ⟨b, o + bb * 3, none⟩ = some (.int .i64 (l.getD bb cpu0).core)) := fun W hW => (hW bb hbl).1
                  generalize (l.getD k cpu0).core = xk at HCk HNk HXk
                  generalize (l.getD bb cpu0).core = xb at HCb HNb HXb
                  generalize chosen (fun x => x.core == xk) l = vk at HCk HNk
                  generalize chosen (fun x => x.core == xb) l = vb at HCb HNb
                  generalize cl k = ck at *
                  generalize cl bb = cb at *
                  by_cases hcc : ck < cb
                  · have HE := hideIt (HLs.out hcc)
                    have hc1 : (ck : Int) < (cb : Int) := by omega
                    clear HLs HMr hcc
                    refine wp_region_held_drew (S := (fun w' => Hid (CellsAt w' b o l) ∧ w'.cell? ⟨b, o + k * 3, none⟩ = some (.int .i64 xk) ∧ w'.cell? ⟨b, o + bb * 3, none⟩ = some (.int .i64 xb))) (by kernel_rfl) ⟨HC.out.below HLB.out hBd, HXk.out _ (HC.out.below HLB.out hBd), HXb.out _ (HC.out.below HLB.out hBd)⟩ (fun hHeld => ?_)
                    refine wpAnyH_take (i := 0) (oi := { dst := some 74, op := Op.move (Operand.tmp 12), type := 3, pos := "parts.go:516", after := #[], guard := none }) (v := ?v5x0) rfl (by kernel_rfl) (by kernel_rfl) (by kernel_rfl) (fun _ _ _ h => h) (Or.inl ⟨by rfl, ?h5x0⟩) (by assumption) ?r5x0
                    case h5x0 =>
                      intro w' hSw
                      (try dsimp only at hSw)
                      go_simp
                      first | done | with_reducible rfl | rfl
                    (try simp only [Act.put, List.setIfInBounds_toArray, List.set_cons_zero, List.set_cons_succ])
                    refine wpAnyH_take (i := 1) (oi := { dst := some 75, op := Op.binOp BinOp.lss 3 (Operand.tmp 74) (Operand.const (Value.int IntKind.i64 0)) 3, type := 4, pos := "parts.go:516", after := #[{ on := 0, ground := Ground.data }], guard := none }) (v := ?v6x1) rfl (by kernel_rfl) (by kernel_rfl) (by kernel_rfl) (fun _ _ _ h => h) (Or.inl ⟨by rfl, ?h6x1⟩) (by assumption) ?r6x1
                    case h6x1 =>
                      intro w' hSw
                      (try dsimp only at hSw)
                      go_simp
                      first | done | with_reducible rfl | rfl
                    (try simp only [Act.put, List.setIfInBounds_toArray, List.set_cons_zero, List.set_cons_succ])
                    refine wpAnyH_take (i := 2) (oi := { dst := some 76, op := Op.move (Operand.tmp 75), type := 4, pos := "parts.go:516", after := #[{ on := 1, ground := Ground.data }], guard := none }) (v := ?v7x2) rfl (by kernel_rfl) (by kernel_rfl) (by kernel_rfl) (fun _ _ _ h => h) (Or.inl ⟨by rfl, ?h7x2⟩) (by assumption) ?r7x2
                    case h7x2 =>
                      intro w' hSw
                      (try dsimp only at hSw)
                      go_simp
                      first | done | with_reducible rfl | rfl
                    (try simp only [Act.put, List.setIfInBounds_toArray, List.set_cons_zero, List.set_cons_succ])
                    refine wpAnyH_take (i := 3) (oi := { dst := some 77, op := Op.move (Operand.tmp 0), type := 22, pos := "parts.go:516", after := #[{ on := 2, ground := Ground.guard }], guard := some (2, false) }) (v := ?v8x3) rfl (by kernel_rfl) (by kernel_rfl) (by kernel_rfl) (fun _ _ _ h => h) (Or.inl ⟨by rfl, ?h8x3⟩) (by assumption) ?r8x3
                    case h8x3 =>
                      intro w' hSw
                      (try dsimp only at hSw)
                      go_simp
                      first | done | with_reducible rfl | rfl
                    (try simp only [Act.put, List.setIfInBounds_toArray, List.set_cons_zero, List.set_cons_succ])
                    refine wpAnyH_take (i := 4) (oi := { dst := some 78, op := Op.move (Operand.tmp 0), type := 22, pos := "parts.go:516", after := #[{ on := 2, ground := Ground.guard }], guard := some (2, false) }) (v := ?v9x4) rfl (by kernel_rfl) (by kernel_rfl) (by kernel_rfl) (fun _ _ _ h => h) (Or.inl ⟨by rfl, ?h9x4⟩) (by assumption) ?r9x4
                    case h9x4 =>
                      intro w' hSw
                      (try dsimp only at hSw)
                      go_simp
                      first | done | with_reducible rfl | rfl
                    (try simp only [Act.put, List.setIfInBounds_toArray, List.set_cons_zero, List.set_cons_succ])
                    refine wpAnyH_take (i := 5) (oi := { dst := some 79, op := Op.move (Operand.tmp 13), type := 3, pos := "parts.go:516", after := #[{ on := 2, ground := Ground.guard }], guard := some (2, false) }) (v := ?v10x5) rfl (by kernel_rfl) (by kernel_rfl) (by kernel_rfl) (fun _ _ _ h => h) (Or.inl ⟨by rfl, ?h10x5⟩) (by assumption) ?r10x5
                    case h10x5 =>
                      intro w' hSw
                      (try dsimp only at hSw)
                      go_simp
                      first | done | with_reducible rfl | rfl
                    (try simp only [Act.put, List.setIfInBounds_toArray, List.set_cons_zero, List.set_cons_succ])
                    refine wpAnyH_take (i := 6) (oi := { dst := some 80, op := Op.indexAddr 22 (Operand.tmp 78) (Operand.tmp 79), type := 0, pos := "parts.go:516", after := #[{ on := 4, ground := Ground.data }, { on := 5, ground := Ground.data }, { on := 2, ground := Ground.guard }], guard := some (2, false) }) (v := ?v11x6) rfl (by kernel_rfl) (by kernel_rfl) (by kernel_rfl) (fun _ _ _ h => h) (Or.inl ⟨by rfl, ?h11x6⟩) (by assumption) ?r11x6
                    case h11x6 =>
                      intro w' hSw
                      (try dsimp only at hSw)
                      go_simp
                      first | done | with_reducible rfl | rfl
                    (try simp only [Act.put, List.setIfInBounds_toArray, List.set_cons_zero, List.set_cons_succ])
                    refine wpAnyH_take (i := 7) (oi := { dst := some 81, op := Op.fieldAddr 40 (Operand.tmp 80) 0, type := 0, pos := "parts.go:516", after := #[{ on := 6, ground := Ground.data }, { on := 2, ground := Ground.guard }], guard := some (2, false) }) (v := ?v12x7) rfl (by kernel_rfl) (by kernel_rfl) (by kernel_rfl) (fun _ _ _ h => h) (Or.inl ⟨by rfl, ?h12x7⟩) (by assumption) ?r12x7
                    case h12x7 =>
                      intro w' hSw
                      (try dsimp only at hSw)
                      go_simp
                      first | done | with_reducible rfl | rfl
                    (try simp only [Act.put, List.setIfInBounds_toArray, List.set_cons_zero, List.set_cons_succ])
                    refine wpAnyH_take (i := 8) (oi := { dst := some 82, op := Op.load 3 (Operand.tmp 81), type := 3, pos := "parts.go:516", after := #[{ on := 7, ground := Ground.data }, { on := 2, ground := Ground.guard }], guard := some (2, false) }) (v := ?v13x8) rfl (by kernel_rfl) (by kernel_rfl) (by kernel_rfl) (fun _ _ _ h => h) (Or.inl ⟨by rfl, ?h13x8⟩) (by assumption) ?r13x8
                    case h13x8 =>
                      intro w' hSw
                      (try dsimp only at hSw)
                      go_simp
                      first | done | with_reducible rfl | rfl
                    (try simp only [Act.put, List.setIfInBounds_toArray, List.set_cons_zero, List.set_cons_succ])
                    refine wpAnyH_take (i := 10) (oi := { dst := some 84, op := Op.move (Operand.tmp 11), type := 24, pos := "parts.go:516", after := #[{ on := 2, ground := Ground.guard }], guard := some (2, false) }) (v := ?v14x10) rfl (by kernel_rfl) (by kernel_rfl) (by kernel_rfl) (fun _ _ _ h => h) (Or.inl ⟨by rfl, ?h14x10⟩) (by assumption) ?r14x10
                    case h14x10 =>
                      intro w' hSw
                      (try dsimp only at hSw)
                      go_simp
                      first | done | with_reducible rfl | rfl
                    (try simp only [Act.put, List.setIfInBounds_toArray, List.set_cons_zero, List.set_cons_succ])
                    refine wpAnyH_take (i := 13) (oi := { dst := some 87, op := Op.move (Operand.tmp 0), type := 22, pos := "parts.go:516", after := #[{ on := 2, ground := Ground.guard }], guard := some (2, false) }) (v := ?v15x13) rfl (by kernel_rfl) (by kernel_rfl) (by kernel_rfl) (fun _ _ _ h => h) (Or.inl ⟨by rfl, ?h15x13⟩) (by assumption) ?r15x13
                    case h15x13 =>
                      intro w' hSw
                      (try dsimp only at hSw)
                      go_simp
                      first | done | with_reducible rfl | rfl
                    (try simp only [Act.put, List.setIfInBounds_toArray, List.set_cons_zero, List.set_cons_succ])
                    refine wpAnyH_take (i := 14) (oi := { dst := some 88, op := Op.move (Operand.tmp 0), type := 22, pos := "parts.go:516", after := #[{ on := 2, ground := Ground.guard }], guard := some (2, false) }) (v := ?v16x14) rfl (by kernel_rfl) (by kernel_rfl) (by kernel_rfl) (fun _ _ _ h => h) (Or.inl ⟨by rfl, ?h16x14⟩) (by assumption) ?r16x14
                    case h16x14 =>
                      intro w' hSw
                      (try dsimp only at hSw)
                      go_simp
                      first | done | with_reducible rfl | rfl
                    (try simp only [Act.put, List.setIfInBounds_toArray, List.set_cons_zero, List.set_cons_succ])
                    refine wpAnyH_take (i := 15) (oi := { dst := some 89, op := Op.move (Operand.tmp 12), type := 3, pos := "parts.go:516", after := #[{ on := 2, ground := Ground.guard }], guard := some (2, false) }) (v := ?v17x15) rfl (by kernel_rfl) (by kernel_rfl) (by kernel_rfl) (fun _ _ _ h => h) (Or.inl ⟨by rfl, ?h17x15⟩) (by assumption) ?r17x15
                    case h17x15 =>
                      intro w' hSw
                      (try dsimp only at hSw)
                      go_simp
                      first | done | with_reducible rfl | rfl
                    (try simp only [Act.put, List.setIfInBounds_toArray, List.set_cons_zero, List.set_cons_succ])
                    refine wpAnyH_take (i := 16) (oi := { dst := some 90, op := Op.indexAddr 22 (Operand.tmp 88) (Operand.tmp 89), type := 0, pos := "parts.go:516", after := #[{ on := 14, ground := Ground.data }, { on := 15, ground := Ground.data }, { on := 2, ground := Ground.guard }], guard := some (2, false) }) (v := ?v18x16) rfl (by kernel_rfl) (by kernel_rfl) (by kernel_rfl) (fun _ _ _ h => h) (Or.inl ⟨by rfl, ?h18x16⟩) (by assumption) ?r18x16
                    case h18x16 =>
                      intro w' hSw
                      (try dsimp only at hSw)
                      go_simp
                      first | done | with_reducible rfl | rfl
                    (try simp only [Act.put, List.setIfInBounds_toArray, List.set_cons_zero, List.set_cons_succ])
                    refine wpAnyH_take (i := 17) (oi := { dst := some 91, op := Op.fieldAddr 40 (Operand.tmp 90) 0, type := 0, pos := "parts.go:516", after := #[{ on := 16, ground := Ground.data }, { on := 2, ground := Ground.guard }], guard := some (2, false) }) (v := ?v19x17) rfl (by kernel_rfl) (by kernel_rfl) (by kernel_rfl) (fun _ _ _ h => h) (Or.inl ⟨by rfl, ?h19x17⟩) (by assumption) ?r19x17
                    case h19x17 =>
                      intro w' hSw
                      (try dsimp only at hSw)
                      go_simp
                      first | done | with_reducible rfl | rfl
                    (try simp only [Act.put, List.setIfInBounds_toArray, List.set_cons_zero, List.set_cons_succ])
                    refine wpAnyH_take (i := 18) (oi := { dst := some 92, op := Op.load 3 (Operand.tmp 91), type := 3, pos := "parts.go:516", after := #[{ on := 17, ground := Ground.data }, { on := 2, ground := Ground.guard }], guard := some (2, false) }) (v := ?v20x18) rfl (by kernel_rfl) (by kernel_rfl) (by kernel_rfl) (fun _ _ _ h => h) (Or.inl ⟨by rfl, ?h20x18⟩) (by assumption) ?r20x18
                    case h20x18 =>
                      intro w' hSw
                      (try dsimp only at hSw)
                      go_simp
                      first | done | with_reducible rfl | rfl
                    (try simp only [Act.put, List.setIfInBounds_toArray, List.set_cons_zero, List.set_cons_succ])
                    refine wpAnyH_take (i := 20) (oi := { dst := some 94, op := Op.move (Operand.tmp 11), type := 24, pos := "parts.go:516", after := #[{ on := 2, ground := Ground.guard }], guard := some (2, false) }) (v := ?v21x20) rfl (by kernel_rfl) (by kernel_rfl) (by kernel_rfl) (fun _ _ _ h => h) (Or.inl ⟨by rfl, ?h21x20⟩) (by assumption) ?r21x20
                    case h21x20 =>
                      intro w' hSw
                      (try dsimp only at hSw)
                      go_simp
                      first | done | with_reducible rfl | rfl
                    (try simp only [Act.put, List.setIfInBounds_toArray, List.set_cons_zero, List.set_cons_succ])
                    refine wpAnyH_ready (rs := [9]) (by kernel_rfl) (by simp) (AllReadyH.cons rfl (fun K hK => ?_) AllReadyH.nil)
                    go_simp
                    go_wp2_with fail
                    refine (HCk.out _ hHeld.1.out).mono ?_
                    rintro e w9 ⟨rfl, rfl⟩
                    go_wp2_with fail
                    refine hK.out _ _ hHeld (fun hHeld => ?_)
                    clear hK K
                    refine wpAnyH_take (i := 11) (oi := { dst := some 85, op := Op.binOp BinOp.and 24 (Operand.tmp 83) (Operand.tmp 84) 24, type := 24, pos := "parts.go:516", after := #[{ on := 9, ground := Ground.data }, { on := 10, ground := Ground.data }, { on := 2, ground := Ground.guard }], guard := some (2, false) }) (v := ?v22x11) rfl (by kernel_rfl) (by kernel_rfl) (by kernel_rfl) (fun _ _ _ h => h) (Or.inl ⟨by rfl, ?h22x11⟩) (by assumption) ?r22x11
                    case h22x11 =>
                      intro w' hSw
                      (try dsimp only at hSw)
                      go_simp
                      first | done | with_reducible rfl | rfl
                    (try simp only [Act.put, List.setIfInBounds_toArray, List.set_cons_zero, List.set_cons_succ])
                    refine wpAnyH_ready (rs := [12]) (by kernel_rfl) (by simp) (AllReadyH.cons rfl (fun K hK => ?_) AllReadyH.nil)
                    go_simp
                    go_wp2_with fail
                    refine (HNk.out _).mono ?_
                    rintro e w10 ⟨rfl, hb10⟩
                    have hB10 := hBd.trans (hb10.mono hBd.size)
                    clear hb10
                    go_wp2_with fail
                    refine hK.out _ _ ⟨HC.out.below HLB.out hB10, HXk.out _ (HC.out.below HLB.out hB10), HXb.out _ (HC.out.below HLB.out hB10)⟩ (fun hHeld => ?_)
                    clear hK K
                    refine wpAnyH_ready (rs := [19]) (by kernel_rfl) (by simp) (AllReadyH.cons rfl (fun K hK => ?_) AllReadyH.nil)
                    go_simp
                    go_wp2_with fail
                    refine (HCb.out _ hHeld.1.out).mono ?_
                    rintro e w11 ⟨rfl, rfl⟩
                    go_wp2_with fail
                    refine hK.out _ _ hHeld (fun hHeld => ?_)
                    clear hK K
                    refine wpAnyH_take (i := 21) (oi := { dst := some 95, op := Op.binOp BinOp.and 24 (Operand.tmp 93) (Operand.tmp 94) 24, type := 24, pos := "parts.go:516", after := #[{ on := 19, ground := Ground.data }, { on := 20, ground := Ground.data }, { on := 2, ground := Ground.guard }], guard := some (2, false) }) (v := ?v23x21) rfl (by kernel_rfl) (by kernel_rfl) (by kernel_rfl) (fun _ _ _ h => h) (Or.inl ⟨by rfl, ?h23x21⟩) (by assumption) ?r23x21
                    case h23x21 =>
                      intro w' hSw
                      (try dsimp only at hSw)
                      go_simp
                      first | done | with_reducible rfl | rfl
                    (try simp only [Act.put, List.setIfInBounds_toArray, List.set_cons_zero, List.set_cons_succ])
                    refine wpAnyH_ready (rs := [22]) (by kernel_rfl) (by simp) (AllReadyH.cons rfl (fun K hK => ?_) AllReadyH.nil)
                    go_simp
                    go_wp2_with fail
                    refine (HNb.out _).mono ?_
                    rintro e w12 ⟨rfl, hb12⟩
                    have hB12 := hB10.trans (hb12.mono hB10.size)
                    clear hb12
                    go_wp2_with fail
                    refine hK.out _ _ ⟨HC.out.below HLB.out hB12, HXk.out _ (HC.out.below HLB.out hB12), HXb.out _ (HC.out.below HLB.out hB12)⟩ (fun hHeld => ?_)
                    clear hK K
                    refine wpAnyH_take (i := 23) (oi := { dst := some 97, op := Op.binOp BinOp.lss 3 (Operand.tmp 86) (Operand.tmp 96) 3, type := 4, pos := "parts.go:516", after := #[{ on := 12, ground := Ground.data }, { on := 22, ground := Ground.data }, { on := 2, ground := Ground.guard }], guard := some (2, false) }) (v := ?v24x23) rfl (by kernel_rfl) (by kernel_rfl) (by kernel_rfl) (fun _ _ _ h => h) (Or.inl ⟨by rfl, ?h24x23⟩) (by assumption) ?r24x23
                    case h24x23 =>
                      intro w' hSw
                      (try dsimp only at hSw)
                      go_simp
                      first | done | with_reducible rfl | rfl
                    (try simp only [Act.put, List.setIfInBounds_toArray, List.set_cons_zero, List.set_cons_succ])
                    refine wpAnyH_take (i := 24) (oi := { dst := some 98, op := Op.pick (Operand.tmp 76) (Operand.const (Value.bool true)) (Operand.tmp 97), type := 4, pos := "parts.go:516", after := #[{ on := 2, ground := Ground.data }, { on := 23, ground := Ground.data }], guard := none }) (v := ?v25x24) rfl (by kernel_rfl) (by kernel_rfl) (by kernel_rfl) (fun _ _ _ h => h) (Or.inl ⟨by rfl, ?h25x24⟩) (by assumption) ?r25x24
                    case h25x24 =>
                      intro w' hSw
                      (try dsimp only at hSw)
                      go_simp
                      first | done | with_reducible rfl | rfl
                    (try simp only [Act.put, List.setIfInBounds_toArray, List.set_cons_zero, List.set_cons_succ])
                    refine wpAnyH_done (by kernel_rfl) ?_ _
                    go_wp2_with fail
                    go_roundw
                    case rel => exact ⟨k + 1, by omega, by go_num, by rw [HE.out], hB12⟩
                    case measure => simp [intOf]; omega
                  · have HE := hideIt (HMr.out (by omega))
                    have hc1 : (cb : Int) ≤ (ck : Int) := by omega
                    clear HLs HMr hcc
                    refine wp_region_held_drew (S := (fun w' => Hid (CellsAt w' b o l) ∧ w'.cell? ⟨b, o + k * 3, none⟩ = some (.int .i64 xk) ∧ w'.cell? ⟨b, o + bb * 3, none⟩ = some (.int .i64 xb))) (by kernel_rfl) ⟨HC.out.below HLB.out hBd, HXk.out _ (HC.out.below HLB.out hBd), HXb.out _ (HC.out.below HLB.out hBd)⟩ (fun hHeld => ?_)
                    refine wpAnyH_take (i := 0) (oi := { dst := some 74, op := Op.move (Operand.tmp 12), type := 3, pos := "parts.go:516", after := #[], guard := none }) (v := ?v26x0) rfl (by kernel_rfl) (by kernel_rfl) (by kernel_rfl) (fun _ _ _ h => h) (Or.inl ⟨by rfl, ?h26x0⟩) (by assumption) ?r26x0
                    case h26x0 =>
                      intro w' hSw
                      (try dsimp only at hSw)
                      go_simp
                      first | done | with_reducible rfl | rfl
                    (try simp only [Act.put, List.setIfInBounds_toArray, List.set_cons_zero, List.set_cons_succ])
                    refine wpAnyH_take (i := 1) (oi := { dst := some 75, op := Op.binOp BinOp.lss 3 (Operand.tmp 74) (Operand.const (Value.int IntKind.i64 0)) 3, type := 4, pos := "parts.go:516", after := #[{ on := 0, ground := Ground.data }], guard := none }) (v := ?v27x1) rfl (by kernel_rfl) (by kernel_rfl) (by kernel_rfl) (fun _ _ _ h => h) (Or.inl ⟨by rfl, ?h27x1⟩) (by assumption) ?r27x1
                    case h27x1 =>
                      intro w' hSw
                      (try dsimp only at hSw)
                      go_simp
                      first | done | with_reducible rfl | rfl
                    (try simp only [Act.put, List.setIfInBounds_toArray, List.set_cons_zero, List.set_cons_succ])
                    refine wpAnyH_take (i := 2) (oi := { dst := some 76, op := Op.move (Operand.tmp 75), type := 4, pos := "parts.go:516", after := #[{ on := 1, ground := Ground.data }], guard := none }) (v := ?v28x2) rfl (by kernel_rfl) (by kernel_rfl) (by kernel_rfl) (fun _ _ _ h => h) (Or.inl ⟨by rfl, ?h28x2⟩) (by assumption) ?r28x2
                    case h28x2 =>
                      intro w' hSw
                      (try dsimp only at hSw)
                      go_simp
                      first | done | with_reducible rfl | rfl
                    (try simp only [Act.put, List.setIfInBounds_toArray, List.set_cons_zero, List.set_cons_succ])
                    refine wpAnyH_take (i := 3) (oi := { dst := some 77, op := Op.move (Operand.tmp 0), type := 22, pos := "parts.go:516", after := #[{ on := 2, ground := Ground.guard }], guard := some (2, false) }) (v := ?v29x3) rfl (by kernel_rfl) (by kernel_rfl) (by kernel_rfl) (fun _ _ _ h => h) (Or.inl ⟨by rfl, ?h29x3⟩) (by assumption) ?r29x3
                    case h29x3 =>
                      intro w' hSw
                      (try dsimp only at hSw)
                      go_simp
                      first | done | with_reducible rfl | rfl
                    (try simp only [Act.put, List.setIfInBounds_toArray, List.set_cons_zero, List.set_cons_succ])
                    refine wpAnyH_take (i := 4) (oi := { dst := some 78, op := Op.move (Operand.tmp 0), type := 22, pos := "parts.go:516", after := #[{ on := 2, ground := Ground.guard }], guard := some (2, false) }) (v := ?v30x4) rfl (by kernel_rfl) (by kernel_rfl) (by kernel_rfl) (fun _ _ _ h => h) (Or.inl ⟨by rfl, ?h30x4⟩) (by assumption) ?r30x4
                    case h30x4 =>
                      intro w' hSw
                      (try dsimp only at hSw)
                      go_simp
                      first | done | with_reducible rfl | rfl
                    (try simp only [Act.put, List.setIfInBounds_toArray, List.set_cons_zero, List.set_cons_succ])
                    refine wpAnyH_take (i := 5) (oi := { dst := some 79, op := Op.move (Operand.tmp 13), type := 3, pos := "parts.go:516", after := #[{ on := 2, ground := Ground.guard }], guard := some (2, false) }) (v := ?v31x5) rfl (by kernel_rfl) (by kernel_rfl) (by kernel_rfl) (fun _ _ _ h => h) (Or.inl ⟨by rfl, ?h31x5⟩) (by assumption) ?r31x5
                    case h31x5 =>
                      intro w' hSw
                      (try dsimp only at hSw)
                      go_simp
                      first | done | with_reducible rfl | rfl
                    (try simp only [Act.put, List.setIfInBounds_toArray, List.set_cons_zero, List.set_cons_succ])
                    refine wpAnyH_take (i := 6) (oi := { dst := some 80, op := Op.indexAddr 22 (Operand.tmp 78) (Operand.tmp 79), type := 0, pos := "parts.go:516", after := #[{ on := 4, ground := Ground.data }, { on := 5, ground := Ground.data }, { on := 2, ground := Ground.guard }], guard := some (2, false) }) (v := ?v32x6) rfl (by kernel_rfl) (by kernel_rfl) (by kernel_rfl) (fun _ _ _ h => h) (Or.inl ⟨by rfl, ?h32x6⟩) (by assumption) ?r32x6
                    case h32x6 =>
                      intro w' hSw
                      (try dsimp only at hSw)
                      go_simp
                      first | done | with_reducible rfl | rfl
                    (try simp only [Act.put, List.setIfInBounds_toArray, List.set_cons_zero, List.set_cons_succ])
                    refine wpAnyH_take (i := 7) (oi := { dst := some 81, op := Op.fieldAddr 40 (Operand.tmp 80) 0, type := 0, pos := "parts.go:516", after := #[{ on := 6, ground := Ground.data }, { on := 2, ground := Ground.guard }], guard := some (2, false) }) (v := ?v33x7) rfl (by kernel_rfl) (by kernel_rfl) (by kernel_rfl) (fun _ _ _ h => h) (Or.inl ⟨by rfl, ?h33x7⟩) (by assumption) ?r33x7
                    case h33x7 =>
                      intro w' hSw
                      (try dsimp only at hSw)
                      go_simp
                      first | done | with_reducible rfl | rfl
                    (try simp only [Act.put, List.setIfInBounds_toArray, List.set_cons_zero, List.set_cons_succ])
                    refine wpAnyH_take (i := 8) (oi := { dst := some 82, op := Op.load 3 (Operand.tmp 81), type := 3, pos := "parts.go:516", after := #[{ on := 7, ground := Ground.data }, { on := 2, ground := Ground.guard }], guard := some (2, false) }) (v := ?v34x8) rfl (by kernel_rfl) (by kernel_rfl) (by kernel_rfl) (fun _ _ _ h => h) (Or.inl ⟨by rfl, ?h34x8⟩) (by assumption) ?r34x8
                    case h34x8 =>
                      intro w' hSw
                      (try dsimp only at hSw)
                      go_simp
                      first | done | with_reducible rfl | rfl
                    (try simp only [Act.put, List.setIfInBounds_toArray, List.set_cons_zero, List.set_cons_succ])
                    refine wpAnyH_take (i := 10) (oi := { dst := some 84, op := Op.move (Operand.tmp 11), type := 24, pos := "parts.go:516", after := #[{ on := 2, ground := Ground.guard }], guard := some (2, false) }) (v := ?v35x10) rfl (by kernel_rfl) (by kernel_rfl) (by kernel_rfl) (fun _ _ _ h => h) (Or.inl ⟨by rfl, ?h35x10⟩) (by assumption) ?r35x10
                    case h35x10 =>
                      intro w' hSw
                      (try dsimp only at hSw)
                      go_simp
                      first | done | with_reducible rfl | rfl
                    (try simp only [Act.put, List.setIfInBounds_toArray, List.set_cons_zero, List.set_cons_succ])
                    refine wpAnyH_take (i := 13) (oi := { dst := some 87, op := Op.move (Operand.tmp 0), type := 22, pos := "parts.go:516", after := #[{ on := 2, ground := Ground.guard }], guard := some (2, false) }) (v := ?v36x13) rfl (by kernel_rfl) (by kernel_rfl) (by kernel_rfl) (fun _ _ _ h => h) (Or.inl ⟨by rfl, ?h36x13⟩) (by assumption) ?r36x13
                    case h36x13 =>
                      intro w' hSw
                      (try dsimp only at hSw)
                      go_simp
                      first | done | with_reducible rfl | rfl
                    (try simp only [Act.put, List.setIfInBounds_toArray, List.set_cons_zero, List.set_cons_succ])
                    refine wpAnyH_take (i := 14) (oi := { dst := some 88, op := Op.move (Operand.tmp 0), type := 22, pos := "parts.go:516", after := #[{ on := 2, ground := Ground.guard }], guard := some (2, false) }) (v := ?v37x14) rfl (by kernel_rfl) (by kernel_rfl) (by kernel_rfl) (fun _ _ _ h => h) (Or.inl ⟨by rfl, ?h37x14⟩) (by assumption) ?r37x14
                    case h37x14 =>
                      intro w' hSw
                      (try dsimp only at hSw)
                      go_simp
                      first | done | with_reducible rfl | rfl
                    (try simp only [Act.put, List.setIfInBounds_toArray, List.set_cons_zero, List.set_cons_succ])
                    refine wpAnyH_take (i := 15) (oi := { dst := some 89, op := Op.move (Operand.tmp 12), type := 3, pos := "parts.go:516", after := #[{ on := 2, ground := Ground.guard }], guard := some (2, false) }) (v := ?v38x15) rfl (by kernel_rfl) (by kernel_rfl) (by kernel_rfl) (fun _ _ _ h => h) (Or.inl ⟨by rfl, ?h38x15⟩) (by assumption) ?r38x15
                    case h38x15 =>
                      intro w' hSw
                      (try dsimp only at hSw)
                      go_simp
                      first | done | with_reducible rfl | rfl
                    (try simp only [Act.put, List.setIfInBounds_toArray, List.set_cons_zero, List.set_cons_succ])
                    refine wpAnyH_take (i := 16) (oi := { dst := some 90, op := Op.indexAddr 22 (Operand.tmp 88) (Operand.tmp 89), type := 0, pos := "parts.go:516", after := #[{ on := 14, ground := Ground.data }, { on := 15, ground := Ground.data }, { on := 2, ground := Ground.guard }], guard := some (2, false) }) (v := ?v39x16) rfl (by kernel_rfl) (by kernel_rfl) (by kernel_rfl) (fun _ _ _ h => h) (Or.inl ⟨by rfl, ?h39x16⟩) (by assumption) ?r39x16
                    case h39x16 =>
                      intro w' hSw
                      (try dsimp only at hSw)
                      go_simp
                      first | done | with_reducible rfl | rfl
                    (try simp only [Act.put, List.setIfInBounds_toArray, List.set_cons_zero, List.set_cons_succ])
                    refine wpAnyH_take (i := 17) (oi := { dst := some 91, op := Op.fieldAddr 40 (Operand.tmp 90) 0, type := 0, pos := "parts.go:516", after := #[{ on := 16, ground := Ground.data }, { on := 2, ground := Ground.guard }], guard := some (2, false) }) (v := ?v40x17) rfl (by kernel_rfl) (by kernel_rfl) (by kernel_rfl) (fun _ _ _ h => h) (Or.inl ⟨by rfl, ?h40x17⟩) (by assumption) ?r40x17
                    case h40x17 =>
                      intro w' hSw
                      (try dsimp only at hSw)
                      go_simp
                      first | done | with_reducible rfl | rfl
                    (try simp only [Act.put, List.setIfInBounds_toArray, List.set_cons_zero, List.set_cons_succ])
                    refine wpAnyH_take (i := 18) (oi := { dst := some 92, op := Op.load 3 (Operand.tmp 91), type := 3, pos := "parts.go:516", after := #[{ on := 17, ground := Ground.data }, { on := 2, ground := Ground.guard }], guard := some (2, false) }) (v := ?v41x18) rfl (by kernel_rfl) (by kernel_rfl) (by kernel_rfl) (fun _ _ _ h => h) (Or.inl ⟨by rfl, ?h41x18⟩) (by assumption) ?r41x18
                    case h41x18 =>
                      intro w' hSw
                      (try dsimp only at hSw)
                      go_simp
                      first | done | with_reducible rfl | rfl
                    (try simp only [Act.put, List.setIfInBounds_toArray, List.set_cons_zero, List.set_cons_succ])
                    refine wpAnyH_take (i := 20) (oi := { dst := some 94, op := Op.move (Operand.tmp 11), type := 24, pos := "parts.go:516", after := #[{ on := 2, ground := Ground.guard }], guard := some (2, false) }) (v := ?v42x20) rfl (by kernel_rfl) (by kernel_rfl) (by kernel_rfl) (fun _ _ _ h => h) (Or.inl ⟨by rfl, ?h42x20⟩) (by assumption) ?r42x20
                    case h42x20 =>
                      intro w' hSw
                      (try dsimp only at hSw)
                      go_simp
                      first | done | with_reducible rfl | rfl
                    (try simp only [Act.put, List.setIfInBounds_toArray, List.set_cons_zero, List.set_cons_succ])
                    refine wpAnyH_ready (rs := [9]) (by kernel_rfl) (by simp) (AllReadyH.cons rfl (fun K hK => ?_) AllReadyH.nil)
                    go_simp
                    go_wp2_with fail
                    refine (HCk.out _ hHeld.1.out).mono ?_
                    rintro e w9 ⟨rfl, rfl⟩
                    go_wp2_with fail
                    refine hK.out _ _ hHeld (fun hHeld => ?_)
                    clear hK K
                    refine wpAnyH_take (i := 11) (oi := { dst := some 85, op := Op.binOp BinOp.and 24 (Operand.tmp 83) (Operand.tmp 84) 24, type := 24, pos := "parts.go:516", after := #[{ on := 9, ground := Ground.data }, { on := 10, ground := Ground.data }, { on := 2, ground := Ground.guard }], guard := some (2, false) }) (v := ?v43x11) rfl (by kernel_rfl) (by kernel_rfl) (by kernel_rfl) (fun _ _ _ h => h) (Or.inl ⟨by rfl, ?h43x11⟩) (by assumption) ?r43x11
                    case h43x11 =>
                      intro w' hSw
                      (try dsimp only at hSw)
                      go_simp
                      first | done | with_reducible rfl | rfl
                    (try simp only [Act.put, List.setIfInBounds_toArray, List.set_cons_zero, List.set_cons_succ])
                    refine wpAnyH_ready (rs := [12]) (by kernel_rfl) (by simp) (AllReadyH.cons rfl (fun K hK => ?_) AllReadyH.nil)
                    go_simp
                    go_wp2_with fail
                    refine (HNk.out _).mono ?_
                    rintro e w10 ⟨rfl, hb10⟩
                    have hB10 := hBd.trans (hb10.mono hBd.size)
                    clear hb10
                    go_wp2_with fail
                    refine hK.out _ _ ⟨HC.out.below HLB.out hB10, HXk.out _ (HC.out.below HLB.out hB10), HXb.out _ (HC.out.below HLB.out hB10)⟩ (fun hHeld => ?_)
                    clear hK K
                    refine wpAnyH_ready (rs := [19]) (by kernel_rfl) (by simp) (AllReadyH.cons rfl (fun K hK => ?_) AllReadyH.nil)
                    go_simp
                    go_wp2_with fail
                    refine (HCb.out _ hHeld.1.out).mono ?_
                    rintro e w11 ⟨rfl, rfl⟩
                    go_wp2_with fail
                    refine hK.out _ _ hHeld (fun hHeld => ?_)
                    clear hK K
                    refine wpAnyH_take (i := 21) (oi := { dst := some 95, op := Op.binOp BinOp.and 24 (Operand.tmp 93) (Operand.tmp 94) 24, type := 24, pos := "parts.go:516", after := #[{ on := 19, ground := Ground.data }, { on := 20, ground := Ground.data }, { on := 2, ground := Ground.guard }], guard := some (2, false) }) (v := ?v44x21) rfl (by kernel_rfl) (by kernel_rfl) (by kernel_rfl) (fun _ _ _ h => h) (Or.inl ⟨by rfl, ?h44x21⟩) (by assumption) ?r44x21
                    case h44x21 =>
                      intro w' hSw
                      (try dsimp only at hSw)
                      go_simp
                      first | done | with_reducible rfl | rfl
                    (try simp only [Act.put, List.setIfInBounds_toArray, List.set_cons_zero, List.set_cons_succ])
                    refine wpAnyH_ready (rs := [22]) (by kernel_rfl) (by simp) (AllReadyH.cons rfl (fun K hK => ?_) AllReadyH.nil)
                    go_simp
                    go_wp2_with fail
                    refine (HNb.out _).mono ?_
                    rintro e w12 ⟨rfl, hb12⟩
                    have hB12 := hB10.trans (hb12.mono hB10.size)
                    clear hb12
                    go_wp2_with fail
                    refine hK.out _ _ ⟨HC.out.below HLB.out hB12, HXk.out _ (HC.out.below HLB.out hB12), HXb.out _ (HC.out.below HLB.out hB12)⟩ (fun hHeld => ?_)
                    clear hK K
                    refine wpAnyH_take (i := 23) (oi := { dst := some 97, op := Op.binOp BinOp.lss 3 (Operand.tmp 86) (Operand.tmp 96) 3, type := 4, pos := "parts.go:516", after := #[{ on := 12, ground := Ground.data }, { on := 22, ground := Ground.data }, { on := 2, ground := Ground.guard }], guard := some (2, false) }) (v := ?v45x23) rfl (by kernel_rfl) (by kernel_rfl) (by kernel_rfl) (fun _ _ _ h => h) (Or.inl ⟨by rfl, ?h45x23⟩) (by assumption) ?r45x23
                    case h45x23 =>
                      intro w' hSw
                      (try dsimp only at hSw)
                      go_simp
                      first | done | with_reducible rfl | rfl
                    (try simp only [Act.put, List.setIfInBounds_toArray, List.set_cons_zero, List.set_cons_succ])
                    refine wpAnyH_take (i := 24) (oi := { dst := some 98, op := Op.pick (Operand.tmp 76) (Operand.const (Value.bool true)) (Operand.tmp 97), type := 4, pos := "parts.go:516", after := #[{ on := 2, ground := Ground.data }, { on := 23, ground := Ground.data }], guard := none }) (v := ?v46x24) rfl (by kernel_rfl) (by kernel_rfl) (by kernel_rfl) (fun _ _ _ h => h) (Or.inl ⟨by rfl, ?h46x24⟩) (by assumption) ?r46x24
                    case h46x24 =>
                      intro w' hSw
                      (try dsimp only at hSw)
                      go_simp
                      first | done | with_reducible rfl | rfl
                    (try simp only [Act.put, List.setIfInBounds_toArray, List.set_cons_zero, List.set_cons_succ])
                    refine wpAnyH_done (by kernel_rfl) ?_ _
                    go_wp2_with fail
                    go_roundw
                    case rel => exact ⟨k + 1, by omega, by go_num, by rw [HE.out], hB12⟩
                    case measure => simp [intOf]; omega
              · rw [hb] at hbit
                have hbit2 : (bits BinOp.and IntKind.u64 ((rest cl N0 j : Int) / 2 ^ k) 1 == 0) = true := hbit
                have HE := hideIt (Ost.bestTo_out (c := cl) hb)
                clear hbit hb
                go_wp2_with fail
                go_roundw
                case rel => exact ⟨k + 1, by omega, by go_num, by rw [HE.out], hB⟩
                case measure => simp [intOf]; omega
            · have hkl : k = l.length := by omega
              have HE : Hid (bestToP cl (rest cl N0 j) k = (bj : Int)) := by unfold Hid; rw [hkl]; exact HBest.out
              rw [HE.out]
              have o1 := HOr.out
              have o2 := HAn.out
              clear HE hkl
              go_wp2_with fail
              go_roundw
              case rel => exact ⟨j + 1, by omega, by omega, by rw [← o2], by rw [show L2 - ((j + 1 : Nat) : Int) = L2 - (j : Int) - 1 by omega], by rw [← o1], hB⟩
              case measure => simp [intOf]; omega
        · have HE : Hid (orB ((order cl N0).take j) = singles cl N0 L2.toNat) := Ost.singles_end hjL hj (by omega)
          have HR : Hid (S2 ||| orB ((order cl N0).take j) = someOf l F L) := by unfold Hid; rw [HE.out, HSo.out]
          clear HE HSo
          rw [HR.out]
          by_cases hd : L2 - (j : Int) ≤ 0
          · clear hgo
            go_wp2_with fail
            go_ret
            exact ⟨rfl, hB⟩
          · have q1 : ((rest cl N0 j : Int) != 0) = false := by
              have := (Ost.rest_zero (c := cl) hN j).2 (by omega)
              rw [this]; rfl
            have hd2 : 0 < L2 - (j : Int) := by omega
            clear hgo hd
            go_wp2_with fail
            go_ret
            exact ⟨rfl, hB⟩
end Go.Proofs.Ythekalhceamcoaa
