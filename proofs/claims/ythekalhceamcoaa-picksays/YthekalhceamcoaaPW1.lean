/- What package pick's wholes answers: contracts. -/
import Derived.Test.YthekalhceamcoaaPMap
namespace Go.Proofs.Ythekalhceamcoaa
open Go.RowKit
open Ost (Cpu cpu0 chosen cnt dif wholesTo wholes sockAt coreAt)
set_option maxHeartbeats 1000000 in
theorem wholesSock (tb b o c F : Nat) (L : Int) (l : List Cpu) (w : World) (ht : TopoAt w tb b o c l) (hF : F < 18446744073709551616) (h0 : 0 ≤ L) (hL : L ≤ 64) :
    Calls Try.prog 127 #[.func (.func 128) #[.pointer (some ⟨tb, 0, none⟩)] #[], .int .u64 F, .int .i64 L] w fun e w' => e = .returned (.int .u64 (wholes (sockAt l) F L : Nat)) ∧ Below w.heap.size w w' := by
  have HT := hideIt ht
  have h64 := ht.len
  clear ht
  go_enter Try.func127, Try.ntmps127
  go_wp2_with fail
  go_loopw [7, 10] (fun t i wr => ∃ k : Nat, k ≤ 64 ∧ i = .int .i64 k ∧ t = .int .u64 (wholesTo (sockAt l) F L k : Nat) ∧ Hid (TopoAt wr tb b o c l) ∧ Below w.heap.size w wr) (fun _ i _ => 64 - (intOf i).toNat)
  case atStart => exact ⟨0, by omega, rfl, rfl, HT, Below.refl _ _⟩
  case round =>
    obtain ⟨k, hk, rfl, rfl, HTr, hB⟩ := hrel
    by_cases hlt : k < 64
    · have HS : Hid (Calls Try.prog 128 #[.pointer (some ⟨tb, 0, none⟩), .int .i64 k] wr fun e w' => e = .returned (.int .u64 (sockAt l k : Nat)) ∧ Below wr.heap.size wr w') := sock_any tb b o c l k wr HTr.out
      have hs := Ost.at_lt (·.sock) h64 k
      change sockAt l k < _ at hs
      have ht := Ost.wholesTo_lt (sockAt l) F L k hF
      have HC1 := hideIt (fun W => bitsCount_any (sockAt l k) W hs)
      have HC2 := hideIt (fun W => bitsCount_any (wholesTo (sockAt l) F L k) W ht)
      have hc2 := Ost.wholesTo_cnt (Ost.at_parts (·.sock) l) F L h0 k
      change (cnt (wholesTo (sockAt l) F L k) : Int) ≤ L at hc2
      have HI := hideIt (fun W => inside_any (sockAt l k) F W hs hF)
      have HY := hideIt (fun h1 h2 => Ost.wholesTo_yes (f := sockAt l) (free := F) (many := L) (k := k) h1 h2)
      have HN1 := hideIt (fun h1 => Ost.wholesTo_no1 (f := sockAt l) (free := F) (many := L) (k := k) h1)
      have HN2 := hideIt (fun h1 => Ost.wholesTo_no2 (f := sockAt l) (free := F) (many := L) (k := k) h1)
      have HO := hideIt (bits_or_u64_nat (wholesTo (sockAt l) F L k) (sockAt l k) ht hs)
      change Hid (∀ W, Calls _ _ _ W fun e w' => e = .returned (.int .i64 (cnt (sockAt l k) : Nat)) ∧ w' = W) at HC1
      change Hid (∀ W, Calls _ _ _ W fun e w' => e = .returned (.int .i64 (cnt (wholesTo (sockAt l) F L k) : Nat)) ∧ w' = W) at HC2
      generalize sockAt l k = s at *
      go_wp2_with (go_at_call 128; refine HS.out.mono ?_; rintro e w1 ⟨rfl, hb⟩)
      have hB1 := hB.trans (hb.mono hB.size)
      have HT1 := hideIt (HTr.out.below hb)
      clear HTr hb hB HS
      by_cases h1 : s &&& F = s
      · have e1 : decide (s &&& F = s) = true := decide_eq_true h1
        by_cases h2 : (cnt s : Int) ≤ L - cnt (wholesTo (sockAt l) F L k)
        · have HE : Hid (wholesTo (sockAt l) F L (k + 1) = wholesTo (sockAt l) F L k ||| s) := HY.out h1 h2
          rw [e1] at HI
          clear h1 e1
          refine (HI.out w1).mono ?_
          rintro e w2 ⟨rfl, rfl⟩
          go_wp2_with fail
          refine (HC1.out _).mono ?_
          rintro e w2 ⟨rfl, rfl⟩
          go_wp2_with fail
          refine (HC2.out _).mono ?_
          rintro e w2 ⟨rfl, rfl⟩
          go_wp2_with fail
          go_roundw
          case rel => exact ⟨k + 1, by omega, by go_num, by rw [HE.out, ← HO.out], HT1, hB1⟩
          case measure => simp [intOf]; omega
        · have HE : Hid (wholesTo (sockAt l) F L (k + 1) = wholesTo (sockAt l) F L k) := HN2.out (by omega)
          have h3 : L - cnt (wholesTo (sockAt l) F L k) < (cnt s : Int) := by omega
          rw [e1] at HI
          clear h1 e1 h2
          refine (HI.out w1).mono ?_
          rintro e w2 ⟨rfl, rfl⟩
          go_wp2_with fail
          refine (HC1.out _).mono ?_
          rintro e w2 ⟨rfl, rfl⟩
          go_wp2_with fail
          refine (HC2.out _).mono ?_
          rintro e w2 ⟨rfl, rfl⟩
          go_wp2_with fail
          go_roundw
          case rel => exact ⟨k + 1, by omega, by go_num, by rw [HE.out], HT1, hB1⟩
          case measure => simp [intOf]; omega
      · have e1 : decide (s &&& F = s) = false := decide_eq_false h1
        have HE : Hid (wholesTo (sockAt l) F L (k + 1) = wholesTo (sockAt l) F L k) := HN1.out h1
        rw [e1] at HI
        clear h1 e1
        refine (HI.out w1).mono ?_
        rintro e w2 ⟨rfl, rfl⟩
        go_wp2_with fail
        go_roundw
        case rel => exact ⟨k + 1, by omega, by go_num, by rw [HE.out], HT1, hB1⟩
        case measure => simp [intOf]; omega
    · have hk64 : k = 64 := by omega
      subst hk64
      clear hk hlt
      go_wp2_with fail
      go_ret
      exact ⟨rfl, hB⟩
set_option maxHeartbeats 1000000 in
theorem wholesCore (tb b o c F : Nat) (L : Int) (l : List Cpu) (w : World) (ht : TopoAt w tb b o c l) (hF : F < 18446744073709551616) (h0 : 0 ≤ L) (hL : L ≤ 64) :
    Calls Try.prog 127 #[.func (.func 24) #[.pointer (some ⟨tb, 0, none⟩)] #[], .int .u64 F, .int .i64 L] w fun e w' => e = .returned (.int .u64 (wholes (coreAt l) F L : Nat)) ∧ Below w.heap.size w w' := by
  have HT := hideIt ht
  have h64 := ht.len
  clear ht
  go_enter Try.func127, Try.ntmps127
  go_wp2_with fail
  go_loopw [7, 10] (fun t i wr => ∃ k : Nat, k ≤ 64 ∧ i = .int .i64 k ∧ t = .int .u64 (wholesTo (coreAt l) F L k : Nat) ∧ Hid (TopoAt wr tb b o c l) ∧ Below w.heap.size w wr) (fun _ i _ => 64 - (intOf i).toNat)
  case atStart => exact ⟨0, by omega, rfl, rfl, HT, Below.refl _ _⟩
  case round =>
    obtain ⟨k, hk, rfl, rfl, HTr, hB⟩ := hrel
    by_cases hlt : k < 64
    · have HS : Hid (Calls Try.prog 24 #[.pointer (some ⟨tb, 0, none⟩), .int .i64 k] wr fun e w' => e = .returned (.int .u64 (coreAt l k : Nat)) ∧ Below wr.heap.size wr w') := core_any tb b o c l k wr HTr.out
      have hs := Ost.at_lt (·.core) h64 k
      change coreAt l k < _ at hs
      have ht := Ost.wholesTo_lt (coreAt l) F L k hF
      have HC1 := hideIt (fun W => bitsCount_any (coreAt l k) W hs)
      have HC2 := hideIt (fun W => bitsCount_any (wholesTo (coreAt l) F L k) W ht)
      have hc2 := Ost.wholesTo_cnt (Ost.at_parts (·.core) l) F L h0 k
      change (cnt (wholesTo (coreAt l) F L k) : Int) ≤ L at hc2
      have HI := hideIt (fun W => inside_any (coreAt l k) F W hs hF)
      have HY := hideIt (fun h1 h2 => Ost.wholesTo_yes (f := coreAt l) (free := F) (many := L) (k := k) h1 h2)
      have HN1 := hideIt (fun h1 => Ost.wholesTo_no1 (f := coreAt l) (free := F) (many := L) (k := k) h1)
      have HN2 := hideIt (fun h1 => Ost.wholesTo_no2 (f := coreAt l) (free := F) (many := L) (k := k) h1)
      have HO := hideIt (bits_or_u64_nat (wholesTo (coreAt l) F L k) (coreAt l k) ht hs)
      change Hid (∀ W, Calls _ _ _ W fun e w' => e = .returned (.int .i64 (cnt (coreAt l k) : Nat)) ∧ w' = W) at HC1
      change Hid (∀ W, Calls _ _ _ W fun e w' => e = .returned (.int .i64 (cnt (wholesTo (coreAt l) F L k) : Nat)) ∧ w' = W) at HC2
      generalize coreAt l k = s at *
      go_wp2_with (go_at_call 24; refine HS.out.mono ?_; rintro e w1 ⟨rfl, hb⟩)
      have hB1 := hB.trans (hb.mono hB.size)
      have HT1 := hideIt (HTr.out.below hb)
      clear HTr hb hB HS
      by_cases h1 : s &&& F = s
      · have e1 : decide (s &&& F = s) = true := decide_eq_true h1
        by_cases h2 : (cnt s : Int) ≤ L - cnt (wholesTo (coreAt l) F L k)
        · have HE : Hid (wholesTo (coreAt l) F L (k + 1) = wholesTo (coreAt l) F L k ||| s) := HY.out h1 h2
          rw [e1] at HI
          clear h1 e1
          refine (HI.out w1).mono ?_
          rintro e w2 ⟨rfl, rfl⟩
          go_wp2_with fail
          refine (HC1.out _).mono ?_
          rintro e w2 ⟨rfl, rfl⟩
          go_wp2_with fail
          refine (HC2.out _).mono ?_
          rintro e w2 ⟨rfl, rfl⟩
          go_wp2_with fail
          go_roundw
          case rel => exact ⟨k + 1, by omega, by go_num, by rw [HE.out, ← HO.out], HT1, hB1⟩
          case measure => simp [intOf]; omega
        · have HE : Hid (wholesTo (coreAt l) F L (k + 1) = wholesTo (coreAt l) F L k) := HN2.out (by omega)
          have h3 : L - cnt (wholesTo (coreAt l) F L k) < (cnt s : Int) := by omega
          rw [e1] at HI
          clear h1 e1 h2
          refine (HI.out w1).mono ?_
          rintro e w2 ⟨rfl, rfl⟩
          go_wp2_with fail
          refine (HC1.out _).mono ?_
          rintro e w2 ⟨rfl, rfl⟩
          go_wp2_with fail
          refine (HC2.out _).mono ?_
          rintro e w2 ⟨rfl, rfl⟩
          go_wp2_with fail
          go_roundw
          case rel => exact ⟨k + 1, by omega, by go_num, by rw [HE.out], HT1, hB1⟩
          case measure => simp [intOf]; omega
      · have e1 : decide (s &&& F = s) = false := decide_eq_false h1
        have HE : Hid (wholesTo (coreAt l) F L (k + 1) = wholesTo (coreAt l) F L k) := HN1.out h1
        rw [e1] at HI
        clear h1 e1
        refine (HI.out w1).mono ?_
        rintro e w2 ⟨rfl, rfl⟩
        go_wp2_with fail
        go_roundw
        case rel => exact ⟨k + 1, by omega, by go_num, by rw [HE.out], HT1, hB1⟩
        case measure => simp [intOf]; omega
    · have hk64 : k = 64 := by omega
      subst hk64
      clear hk hlt
      go_wp2_with fail
      go_ret
      exact ⟨rfl, hB⟩
end Go.Proofs.Ythekalhceamcoaa
