/- What package pick's some and Take answer, over what its singles answers: contracts. -/
import Derived.Test.YthekalhceamcoaaPSing
namespace Go.Proofs.Ythekalhceamcoaa
open Go.RowKit
open Ost (Cpu cpu0 chosen cnt dif wholesTo wholes sockAt coreAt some1 some2 someOf singles takeOut)
theorem or64' (a b : Nat) (ha : a < 18446744073709551616) (hb : b < 18446744073709551616) : bits BinOp.or IntKind.u64 (a : Int) (b : Int) = ((a ||| b : Nat) : Int) := bits_or_u64_nat a b ha hb
set_option maxHeartbeats 1000000 in
theorem some_any (tb b o c F : Nat) (L : Int) (l : List Cpu) (w : World) (ht : TopoAt w tb b o c l) (hg : Good l) (hF : F < 18446744073709551616) (h0 : 0 ≤ L) (hL : L ≤ 64) :
    Calls Try.prog 84 #[.pointer (some ⟨tb, 0, none⟩), .int .u64 F, .int .i64 L] w fun e w' => e = .returned (.int .u64 (someOf l F L : Nat)) ∧ Below w.heap.size w w' := by
  have HT := hideIt ht
  have h64 := ht.len
  have HG := hideIt hg
  clear ht hg
  have hmf : ∀ (fn : Fn) (first cap : Array Value) (w : World), (Instr.makeFunc fn first cap).run Try.prog w = .ok (.func fn first cap) w := fun _ _ _ _ => rfl
  have k1 := Ost.some1_cnt l F L h0
  have s1 := Ost.sub_lt hF (Ost.some1_sub l F L)
  have HW1 : Hid (Calls Try.prog 127 #[.func (.func 128) #[.pointer (some ⟨tb, 0, none⟩)] #[], .int .u64 F, .int .i64 L] w fun e w' => e = .returned (.int .u64 (some1 l F L : Nat)) ∧ Below w.heap.size w w') := wholesSock tb b o c F L l w HT.out hF h0 hL
  have HE1 : Hid (some2 l F L = some1 l F L ||| wholes (coreAt l) (dif F (some1 l F L)) (L - cnt (some1 l F L))) := rfl
  have HE2 : Hid (someOf l F L = some2 l F L ||| singles (Ost.leftOf l (dif F (some2 l F L))) (dif F (some2 l F L)) (L - cnt (some2 l F L)).toNat) := rfl
  have k2 := Ost.some2_cnt l F L h0
  have s2 := Ost.sub_lt hF (Ost.some2_sub l F L)
  generalize someOf l F L = s3 at *
  generalize some2 l F L = sb at *
  generalize some1 l F L = sa at *
  have HN1 := hideIt (andNot64 F sa hF s1)
  have d1 := Ost.dif_lt (A := F) sa hF
  have HC1 : Hid (∀ W, Calls Try.prog 22 #[.int .u64 sa] W fun e w' => e = .returned (.int .i64 (cnt sa : Nat)) ∧ w' = W) := fun W => bitsCount_any sa W s1
  have HN2 := hideIt (andNot64 F sb hF s2)
  have d2 := Ost.dif_lt (A := F) sb hF
  have HC2 : Hid (∀ W, Calls Try.prog 22 #[.int .u64 sb] W fun e w' => e = .returned (.int .i64 (cnt sb : Nat)) ∧ w' = W) := fun W => bitsCount_any sb W s2
  have hw2 : wholes (coreAt l) (dif F sa) (L - cnt sa) < 18446744073709551616 := Ost.wholesTo_lt _ _ _ _ d1
  have HO1 := hideIt (or64' sa (wholes (coreAt l) (dif F sa) (L - cnt sa)) s1 hw2)
  have hw3 : singles (Ost.leftOf l (dif F sb)) (dif F sb) (L - cnt sb).toNat < 18446744073709551616 := Ost.sub_lt d2 (Ost.singles_sub _ _ _)
  have HO2 := hideIt (or64' sb (singles (Ost.leftOf l (dif F sb)) (dif F sb) (L - cnt sb).toNat) s2 hw3)
  rw [← HE1.out] at HO1
  rw [← HE2.out] at HO2
  clear HE1 HE2
  generalize cnt sa = ca at *
  generalize cnt sb = cb at *
  have HK1 : Hid (∀ W, TopoAt W tb b o c l → Calls Try.prog 127 #[.func (.func 24) #[.pointer (some ⟨tb, 0, none⟩)] #[], .int .u64 (dif F sa : Nat), .int .i64 (L - ca)] W fun e w' => e = .returned (.int .u64 (wholes (coreAt l) (dif F sa) (L - ca) : Nat)) ∧ Below W.heap.size W w') := fun W hW => wholesCore tb b o c (dif F sa) (L - ca) l W hW d1 (by omega) (by omega)
  have HK2 : Hid (∀ W, TopoAt W tb b o c l → Calls Try.prog 129 #[.pointer (some ⟨tb, 0, none⟩), .int .u64 (dif F sb : Nat), .int .i64 (L - cb)] W fun e w' => e = .returned (.int .u64 (singles (Ost.leftOf l (dif F sb)) (dif F sb) (L - cb).toNat : Nat)) ∧ Below W.heap.size W w') := fun W hW => singles_any tb b o c (dif F sb) (L - cb) l W hW HG.out d2 (by omega) (by omega)
  generalize wholes (coreAt l) (dif F sa) (L - ca) = ws at *
  generalize singles (Ost.leftOf l (dif F sb)) (dif F sb) (L - cb).toNat = ss at *
  go_enter Try.func84, Try.ntmps84
  go_wp2_with fail
  refine HW1.out.mono ?_
  rintro e w1 ⟨rfl, hb⟩
  have HT1 := hideIt (HT.out.below hb)
  have hB1 := hideIt hb
  clear HT hb HW1
  have n1 := HN1.out
  go_wp2_with fail
  refine (HC1.out _).mono ?_
  rintro e w2 ⟨rfl, rfl⟩
  go_wp2_with fail
  refine (HK1.out _ HT1.out).mono ?_
  rintro e w3 ⟨rfl, hb⟩
  have HT2 := hideIt (HT1.out.below hb)
  have hB2 := hideIt (hB1.out.trans (hb.mono hB1.out.size))
  clear HT1 hB1 hb n1 HN1
  have n2 := HN2.out
  have o1 := HO1.out
  go_wp2_with fail
  refine (HC2.out _).mono ?_
  rintro e w2 ⟨rfl, rfl⟩
  go_wp2_with fail
  refine (HK2.out _ HT2.out).mono ?_
  rintro e w4 ⟨rfl, hb⟩
  have hB3 := hideIt (hB2.out.trans (hb.mono hB2.out.size))
  clear HT2 hB2 hb n2 HN2
  have o2 := HO2.out
  go_wp2_with fail
  go_ret
  exact ⟨rfl, hB3.out⟩
/-- What Take leaves: the set and the error. -/
def tookV (r : Nat × Int) : Value := .tuple #[.int .u64 (r.1 : Nat), errV r.2]
theorem tookV_0 (s : Nat) : tookV (s, 0) = .tuple #[.int .u64 s, .nilIface] := rfl
theorem tookV_1 : tookV (0, 1) = .tuple #[.int .u64 0, .iface 133 (.int .i64 1)] := rfl
theorem tookV_8 : tookV (0, 8) = .tuple #[.int .u64 0, .iface 133 (.int .i64 8)] := rfl
set_option maxHeartbeats 1000000 in
theorem take_out (tb F on : Nat) (L : Int) (l : List Cpu) (w : World) (h : L < 0 ∨ 64 < L) :
    Calls Try.prog 17 #[.pointer (some ⟨tb, 0, none⟩), .int .u64 F, .int .i64 L, .int .u8 on] w fun e w' => e = .returned (tookV (takeOut l F L (chosen (onMask on) l))) ∧ Below w.heap.size w w' := by
  have HE : Hid (takeOut l F L (chosen (onMask on) l) = (0, 1)) := by unfold Hid takeOut; rw [if_pos (by omega)]
  rw [HE.out, tookV_1]
  have key : L < 0 ∨ (0 ≤ L ∧ 64 < L) := by omega
  clear h HE
  rcases key with h | ⟨h, h2⟩
  all_goals
    go_enter Try.func17, Try.ntmps17
    go_wp2_with fail
    go_ret2
    exact ⟨rfl, Below.refl _ _⟩
set_option maxHeartbeats 1000000 in
theorem take_strange (tb b o c F on : Nat) (L : Int) (l : List Cpu) (w : World) (ht : TopoAt w tb b o c l) (hF : F < 18446744073709551616) (h0 : 0 ≤ L) (hL : L ≤ 64) (h : ¬ F &&& chosen anyCpu l = F) :
    Calls Try.prog 17 #[.pointer (some ⟨tb, 0, none⟩), .int .u64 F, .int .i64 L, .int .u8 on] w fun e w' => e = .returned (tookV (takeOut l F L (chosen (onMask on) l))) ∧ Below w.heap.size w w' := by
  have HE : Hid (takeOut l F L (chosen (onMask on) l) = (0, 1)) := by unfold Hid takeOut; rw [if_pos (.inr (.inr h))]
  rw [HE.out, tookV_1]
  have HA := hideIt (all_any tb b o c l w ht)
  have hA : chosen anyCpu l < 18446744073709551616 := Ost.chosenTo_lt anyCpu l _ ht.len
  have HI := hideIt (fun W => inside_any F (chosen anyCpu l) W hF hA)
  rw [decide_eq_false h] at HI
  clear h HE ht
  go_enter Try.func17, Try.ntmps17
  go_wp2_with fail
  refine HA.out.mono ?_
  rintro e w1 ⟨rfl, hb⟩
  go_wp2_with fail
  refine (HI.out _).mono ?_
  rintro e w2 ⟨rfl, rfl⟩
  go_wp2_with fail
  go_ret2
  exact ⟨rfl, hb⟩
set_option maxHeartbeats 1000000 in
theorem take_few (tb b o c F on : Nat) (L : Int) (l : List Cpu) (w : World) (ht : TopoAt w tb b o c l) (hF : F < 18446744073709551616) (h0 : 0 ≤ L) (hL : L ≤ 64) (h : F &&& chosen anyCpu l = F) (hc : (cnt F : Int) < L) :
    Calls Try.prog 17 #[.pointer (some ⟨tb, 0, none⟩), .int .u64 F, .int .i64 L, .int .u8 on] w fun e w' => e = .returned (tookV (takeOut l F L (chosen (onMask on) l))) ∧ Below w.heap.size w w' := by
  have HE : Hid (takeOut l F L (chosen (onMask on) l) = (0, 8)) := by
    unfold Hid takeOut
    rw [if_neg (fun hh => by rcases hh with hh | hh | hh; omega; omega; exact hh h), if_pos hc]
  rw [HE.out, tookV_8]
  have HA := hideIt (all_any tb b o c l w ht)
  have hA : chosen anyCpu l < 18446744073709551616 := Ost.chosenTo_lt anyCpu l _ ht.len
  have HI := hideIt (fun W => inside_any F (chosen anyCpu l) W hF hA)
  rw [decide_eq_true h] at HI
  have HC : Hid (∀ W, Calls Try.prog 22 #[.int .u64 F] W fun e w' => e = .returned (.int .i64 (cnt F : Nat)) ∧ w' = W) := fun W => bitsCount_any F W hF
  generalize cnt F = cF at *
  clear h HE ht
  go_enter Try.func17, Try.ntmps17
  go_wp2_with fail
  refine HA.out.mono ?_
  rintro e w1 ⟨rfl, hb⟩
  go_wp2_with fail
  refine (HI.out _).mono ?_
  rintro e w2 ⟨rfl, rfl⟩
  go_wp2_with fail
  refine (HC.out _).mono ?_
  rintro e w2 ⟨rfl, rfl⟩
  go_wp2_with fail
  go_ret2
  exact ⟨rfl, hb⟩
set_option maxHeartbeats 1000000 in
theorem take_some (tb b o c F on : Nat) (L : Int) (l : List Cpu) (w : World) (ht : TopoAt w tb b o c l) (hg : Good l) (hF : F < 18446744073709551616) (hon : on < 256) (h0 : 0 ≤ L) (hL : L ≤ 64) (h : F &&& chosen anyCpu l = F) (hc : L ≤ (cnt F : Int)) :
    Calls Try.prog 17 #[.pointer (some ⟨tb, 0, none⟩), .int .u64 F, .int .i64 L, .int .u8 on] w fun e w' => e = .returned (tookV (takeOut l F L (chosen (onMask on) l))) ∧ Below w.heap.size w w' := by
  have HE := hideIt (Ost.take_good (l := l) (F := F) (L := L) (chosen (onMask on) l) h0 hL h hc)
  rw [HE.out, tookV_0]
  have HA := hideIt (all_any tb b o c l w ht)
  have hA : chosen anyCpu l < 18446744073709551616 := Ost.chosenTo_lt anyCpu l _ ht.len
  have hM : chosen (onMask on) l < 18446744073709551616 := Ost.chosenTo_lt _ l _ ht.len
  have HI := hideIt (fun W => inside_any F (chosen anyCpu l) W hF hA)
  rw [decide_eq_true h] at HI
  have HC : Hid (∀ W, Calls Try.prog 22 #[.int .u64 F] W fun e w' => e = .returned (.int .i64 (cnt F : Nat)) ∧ w' = W) := fun W => bitsCount_any F W hF
  generalize cnt F = cF at *
  have HOn : Hid (∀ W, TopoAt W tb b o c l → Calls Try.prog 23 #[.pointer (some ⟨tb, 0, none⟩), .int .u8 on] W fun e w' => e = .returned (.int .u64 (chosen (onMask on) l : Nat)) ∧ Below W.heap.size W w') := fun W hW => on_any tb b o c l on W hW hg hon
  have hN : F &&& chosen (onMask on) l < 18446744073709551616 := Ost.sub_lt hF (Ost.and_sub F _)
  have HN := hideIt (bits_and_u64_nat F (chosen (onMask on) l) hF hM)
  have HS1 := hideIt (fun W hW => some_any tb b o c (F &&& chosen (onMask on) l) L l W hW hg hN h0 hL)
  have HAN := hideIt (andNot64 F (F &&& chosen (onMask on) l) hF hN)
  have ha := Ost.someOf_cnt l (F &&& chosen (onMask on) l) L h0
  have hal := Ost.sub_lt hN (Ost.someOf_sub l (F &&& chosen (onMask on) l) L)
  have HC2 : Hid (∀ W, Calls Try.prog 22 #[.int .u64 (someOf l (F &&& chosen (onMask on) l) L : Nat)] W fun e w' => e = .returned (.int .i64 (cnt (someOf l (F &&& chosen (onMask on) l) L) : Nat)) ∧ w' = W) := fun W => bitsCount_any _ W hal
  have hd := Ost.dif_lt (A := F) (F &&& chosen (onMask on) l) hF
  have HS2 := hideIt (fun W hW => some_any tb b o c (dif F (F &&& chosen (onMask on) l)) (L - cnt (someOf l (F &&& chosen (onMask on) l) L)) l W hW hg hd (by omega) (by omega))
  have hbl := Ost.sub_lt hd (Ost.someOf_sub l (dif F (F &&& chosen (onMask on) l)) (L - cnt (someOf l (F &&& chosen (onMask on) l) L)))
  have HO := hideIt (or64' _ _ hal hbl)
  have hcl : (cnt (someOf l (F &&& chosen (onMask on) l) L) : Int) ≤ L := by omega
  have HT := hideIt ht
  generalize someOf l (dif F (F &&& chosen (onMask on) l)) (L - cnt (someOf l (F &&& chosen (onMask on) l) L)) = s2 at *
  generalize dif F (F &&& chosen (onMask on) l) = fr at *
  generalize cnt (someOf l (F &&& chosen (onMask on) l) L) = c1 at *
  generalize someOf l (F &&& chosen (onMask on) l) L = s1 at *
  generalize F &&& chosen (onMask on) l = near at *
  generalize chosen (onMask on) l = mm at *
  clear h HE ht hg ha
  go_enter Try.func17, Try.ntmps17
  go_wp2_with fail
  refine HA.out.mono ?_
  rintro e w1 ⟨rfl, hb⟩
  have HT1 := hideIt (HT.out.below hb)
  have hB1 := hideIt hb
  clear HT hb HA
  go_wp2_with fail
  refine (HI.out _).mono ?_
  rintro e w2 ⟨rfl, rfl⟩
  go_wp2_with fail
  refine (HC.out _).mono ?_
  rintro e w2 ⟨rfl, rfl⟩
  go_wp2_with fail
  refine (HOn.out _ HT1.out).mono ?_
  rintro e w2 ⟨rfl, hb⟩
  have HT2 := hideIt (HT1.out.below hb)
  have hB2 := hideIt (hB1.out.trans (hb.mono hB1.out.size))
  clear HT1 hb hB1
  have n1 := HN.out
  go_wp2_with fail
  refine (HS1.out _ HT2.out).mono ?_
  rintro e w3 ⟨rfl, hb⟩
  have HT3 := hideIt (HT2.out.below hb)
  have hB3 := hideIt (hB2.out.trans (hb.mono hB2.out.size))
  clear HT2 hb hB2 n1
  have n2 := HAN.out
  go_wp2_with fail
  refine (HC2.out _).mono ?_
  rintro e w4 ⟨rfl, rfl⟩
  go_wp2_with fail
  refine (HS2.out _ HT3.out).mono ?_
  rintro e w5 ⟨rfl, hb⟩
  have hB4 := hideIt (hB3.out.trans (hb.mono hB3.out.size))
  clear HT3 hb hB3 n2
  have n3 := HO.out
  go_wp2_with fail
  go_ret2
  exact ⟨rfl, hB4.out⟩
theorem take_any (tb b o c F on : Nat) (L : Int) (l : List Cpu) (w : World) (ht : TopoAt w tb b o c l) (hg : Good l) (hF : F < 18446744073709551616) (hon : on < 256) :
    Calls Try.prog 17 #[.pointer (some ⟨tb, 0, none⟩), .int .u64 F, .int .i64 L, .int .u8 on] w fun e w' => e = .returned (tookV (takeOut l F L (chosen (onMask on) l))) ∧ Below w.heap.size w w' := by
  by_cases h1 : L < 0 ∨ 64 < L
  · exact take_out tb F on L l w h1
  · by_cases h2 : F &&& chosen anyCpu l = F
    · by_cases h3 : (cnt F : Int) < L
      · exact take_few tb b o c F on L l w ht hF (by omega) (by omega) h2 h3
      · exact take_some tb b o c F on L l w ht hg hF hon (by omega) (by omega) h2 (by omega)
    · exact take_strange tb b o c F on L l w ht hF (by omega) (by omega) h2
end Go.Proofs.Ythekalhceamcoaa
