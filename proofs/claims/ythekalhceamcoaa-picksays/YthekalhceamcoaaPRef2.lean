/- What the document's Take answers: the contract. -/
import Derived.Test.YthekalhceamcoaaPRef
namespace Go.Proofs.Ythekalhceamcoaa
open Go.RowKit
open Ost (Cpu cpu0 chosen cnt dif someOf takeOut)
theorem on15 {l : List Cpu} (hg : Good l) : chosen (onMask 15) l = chosen (fun _ => true) l := by
  apply Ost.chosen_congr
  intro c hc
  have := hg c hc
  unfold onMask
  have h : c.node.toNat = 0 ∨ c.node.toNat = 1 ∨ c.node.toNat = 2 ∨ c.node.toNat = 3 := by omega
  rcases h with h | h | h | h <;> rw [h] <;> rfl
def tookN (r : Nat × Int) : Value := .tuple #[.int .u64 (r.1 : Nat), .int .i64 r.2]
theorem tookN_mk (s : Nat) (f : Int) : tookN (s, f) = .tuple #[.int .u64 s, .int .i64 f] := rfl
set_option maxRecDepth 100000 in
set_option maxHeartbeats 1000000 in
theorem refTake_any (b o c F on : Nat) (L : Int) (l : List Cpu) (w : World) (hc : CellsAt w b o l) (hlb : b < w.heap.size) (h64 : l.length ≤ 64) (hg : Good l) (hF : F < 18446744073709551616) (hon : on < 256) :
    Calls Try.prog 18 #[.slice (some ⟨b, o, none⟩) l.length c, .int .u64 F, .int .i64 L, .int .u8 on] w fun e w' => e = .returned (tookN (takeOut l F L (chosen (onMask on) l))) ∧ Below w.heap.size w w' := by
  have HC := hideIt hc
  have HLB := hideIt hlb
  have HOn : Hid (∀ W, CellsAt W b o l → Calls Try.prog 85 #[.slice (some ⟨b, o, none⟩) l.length c, .int .u8 on] W fun e w' => e = .returned (.int .u64 (chosen (onMask on) l : Nat)) ∧ w' = W) := fun W hW => refOn_some b o c l on W hW h64 hg hon
  have HAll : Hid (Calls Try.prog 85 #[.slice (some ⟨b, o, none⟩) l.length c, .int .u8 15] w fun e w' => e = .returned (.int .u64 (chosen (fun _ => true) l : Nat)) ∧ w' = w) := by
    unfold Hid
    rw [← on15 hg]
    exact refOn_some b o c l 15 w hc h64 hg (by omega)
  have hA : chosen (fun _ => true) l < 18446744073709551616 := chosenLt _ h64
  have hM : chosen (onMask on) l < 18446744073709551616 := chosenLt _ h64
  have hBit : ∀ i, (chosen (fun _ => true) l).testBit i = true → i < l.length := fun i hi => by
    rw [Ost.chosen_bit, Bool.and_eq_true, decide_eq_true_eq] at hi; exact hi.1
  have HBit := hideIt hBit
  have HAnd := hideIt (bits_and_u64_nat F (chosen (fun _ => true) l) hF hA)
  clear hc hlb hg hBit
  by_cases h1 : L < 0 ∨ 64 < L
  · have HE : Hid (takeOut l F L (chosen (onMask on) l) = (0, 1)) := by unfold Hid takeOut; rw [if_pos (by omega)]
    rw [HE.out, tookN_mk]
    have key : L < 0 ∨ (0 ≤ L ∧ 64 < L) := by omega
    clear h1 HE
    rcases key with h | ⟨h, h2⟩
    all_goals
      go_enter Try.func18, Try.ntmps18
      go_wp2_with fail
      refine HAll.out.mono ?_
      rintro e w1 ⟨rfl, rfl⟩
      go_wp2_with fail
      go_ret2
      exact ⟨rfl, Below.refl _ _⟩
  · have h0 : 0 ≤ L := by omega
    have hL : L ≤ 64 := by omega
    clear h1
    by_cases h2 : F &&& chosen (fun _ => true) l = F
    · have q1 : bits BinOp.and IntKind.u64 (F : Int) (chosen (fun _ => true) l : Nat) = (F : Int) := by rw [HAnd.out, h2]
      have HC0 : Hid (∀ W, Calls Try.prog 86 #[.int .u64 F] W fun e w' => e = .returned (.int .i64 (cnt F : Nat)) ∧ Below W.heap.size W w') := fun W => refCnt_any F W hF
      have hcF : cnt F ≤ 64 := listTo_le F 64
      by_cases h3 : (cnt F : Int) < L
      · have HE : Hid (takeOut l F L (chosen (onMask on) l) = (0, 8)) := by
          unfold Hid takeOut
          rw [if_neg (fun hh => by rcases hh with hh | hh | hh; omega; omega; exact hh h2), if_pos h3]
        rw [HE.out, tookN_mk]
        generalize cnt F = cF at *
        generalize chosen (fun _ => true) l = al at *
        clear h2 HE
        go_enter Try.func18, Try.ntmps18
        go_wp2_with fail
        refine HAll.out.mono ?_
        rintro e w1 ⟨rfl, rfl⟩
        go_wp2_with fail
        refine (HC0.out _).mono ?_
        rintro e w2 ⟨rfl, hb⟩
        go_wp2_with fail
        go_ret2
        exact ⟨rfl, hb⟩
      · have HE := hideIt (Ost.take_good (l := l) (F := F) (L := L) (chosen (onMask on) l) h0 hL h2 (by omega))
        have HX := hideIt (Ost.take_others (l := l) h64 hF h0 (chosen (onMask on) l))
        rw [← HX.out] at HE
        rw [HE.out, tookN_mk]
        clear HX HE
        have h4 : L ≤ (cnt F : Int) := by omega
        clear h3
        have hFl : ∀ i, F.testBit i = true → i < l.length := fun i hi => HBit.out i ((Ost.sub_iff _ _).1 h2 i hi)
        have hN : F &&& chosen (onMask on) l < 18446744073709551616 := Ost.sub_lt hF (Ost.and_sub F _)
        have HN := hideIt (bits_and_u64_nat F (chosen (onMask on) l) hF hM)
        have HS1 : Hid (∀ W, CellsAt W b o l → b < W.heap.size → Calls Try.prog 87 #[.slice (some ⟨b, o, none⟩) l.length c, .int .u64 (F &&& chosen (onMask on) l : Nat), .int .i64 L] W fun e w' => e = .returned (.int .u64 (someOf l (F &&& chosen (onMask on) l) L : Nat)) ∧ Below W.heap.size W w') := fun W hW hb => refSome_any b o c _ L l W hW hb h64 hN (fun i hi => hFl i ((Ost.sub_iff _ _).1 (Ost.and_sub F _) i hi)) h0 hL
        have ha := Ost.someOf_cnt l (F &&& chosen (onMask on) l) L h0
        have hal := Ost.sub_lt hN (Ost.someOf_sub l (F &&& chosen (onMask on) l) L)
        have HAN := hideIt (andNot64 F (someOf l (F &&& chosen (onMask on) l) L) hF hal)
        have HC2 : Hid (∀ W, Calls Try.prog 86 #[.int .u64 (someOf l (F &&& chosen (onMask on) l) L : Nat)] W fun e w' => e = .returned (.int .i64 (cnt (someOf l (F &&& chosen (onMask on) l) L) : Nat)) ∧ Below W.heap.size W w') := fun W => refCnt_any _ W hal
        have hd := Ost.dif_lt (A := F) (someOf l (F &&& chosen (onMask on) l) L) hF
        have HS2 : Hid (∀ W, CellsAt W b o l → b < W.heap.size → Calls Try.prog 87 #[.slice (some ⟨b, o, none⟩) l.length c, .int .u64 (dif F (someOf l (F &&& chosen (onMask on) l) L) : Nat), .int .i64 (L - cnt (someOf l (F &&& chosen (onMask on) l) L))] W fun e w' => e = .returned (.int .u64 (someOf l (dif F (someOf l (F &&& chosen (onMask on) l) L)) (L - cnt (someOf l (F &&& chosen (onMask on) l) L)) : Nat)) ∧ Below W.heap.size W w') := fun W hW hb => refSome_any b o c _ _ l W hW hb h64 hd (fun i hi => hFl i ((Ost.sub_iff _ _).1 (Ost.dif_sub F _) i hi)) (by omega) (by omega)
        have hbl := Ost.sub_lt hd (Ost.someOf_sub l (dif F (someOf l (F &&& chosen (onMask on) l) L)) (L - cnt (someOf l (F &&& chosen (onMask on) l) L)))
        have HO := hideIt (bits_or_u64_nat _ _ hal hbl)
        have hcl : (cnt (someOf l (F &&& chosen (onMask on) l) L) : Int) ≤ L := by omega
        have hc64 : cnt (someOf l (F &&& chosen (onMask on) l) L) ≤ 64 := listTo_le _ 64
        generalize someOf l (dif F (someOf l (F &&& chosen (onMask on) l) L)) (L - cnt (someOf l (F &&& chosen (onMask on) l) L)) = s2 at *
        generalize dif F (someOf l (F &&& chosen (onMask on) l) L) = fr at *
        generalize cnt (someOf l (F &&& chosen (onMask on) l) L) = c1 at *
        generalize someOf l (F &&& chosen (onMask on) l) L = s1 at *
        generalize F &&& chosen (onMask on) l = near at *
        generalize chosen (onMask on) l = mm at *
        generalize cnt F = cF at *
        generalize chosen (fun _ => true) l = al at *
        clear h2 ha hFl HBit
        go_enter Try.func18, Try.ntmps18
        go_wp2_with fail
        refine HAll.out.mono ?_
        rintro e w1 ⟨rfl, rfl⟩
        go_wp2_with fail
        refine (HC0.out _).mono ?_
        rintro e w2 ⟨rfl, hb⟩
        have hB1 := hideIt hb
        clear hb
        go_wp2_with fail
        refine (HOn.out _ (HC.out.below HLB.out hB1.out)).mono ?_
        rintro e w3 ⟨rfl, rfl⟩
        have n1 := HN.out
        go_wp2_with fail
        refine (HS1.out _ (HC.out.below HLB.out hB1.out) (Nat.lt_of_lt_of_le HLB.out hB1.out.size)).mono ?_
        rintro e w4 ⟨rfl, hb⟩
        have hB2 := hideIt (hB1.out.trans (hb.mono hB1.out.size))
        clear hb hB1 n1
        have n2 := HAN.out
        go_wp2_with fail
        refine (HC2.out _).mono ?_
        rintro e w5 ⟨rfl, hb⟩
        have hB3 := hideIt (hB2.out.trans (hb.mono hB2.out.size))
        clear hb hB2
        go_wp2_with fail
        refine (HS2.out _ (HC.out.below HLB.out hB3.out) (Nat.lt_of_lt_of_le HLB.out hB3.out.size)).mono ?_
        rintro e w6 ⟨rfl, hb⟩
        have hB4 := hideIt (hB3.out.trans (hb.mono hB3.out.size))
        clear hb hB3 n2
        have n3 := HO.out
        go_wp2_with fail
        go_ret2
        exact ⟨rfl, hB4.out⟩
    · have q1 : (bits BinOp.and IntKind.u64 (F : Int) (chosen (fun _ => true) l : Nat) != (F : Int)) = true := by rw [HAnd.out, bne_iff_ne]; omega
      have HE : Hid (takeOut l F L (chosen (onMask on) l) = (0, 1)) := by unfold Hid takeOut; rw [if_pos (.inr (.inr h2))]
      rw [HE.out, tookN_mk]
      generalize chosen (fun _ => true) l = al at *
      clear h2 HE
      go_enter Try.func18, Try.ntmps18
      go_wp2_with fail
      refine HAll.out.mono ?_
      rintro e w1 ⟨rfl, rfl⟩
      go_wp2_with fail
      go_ret2
      exact ⟨rfl, Below.refl _ _⟩
end Go.Proofs.Ythekalhceamcoaa
