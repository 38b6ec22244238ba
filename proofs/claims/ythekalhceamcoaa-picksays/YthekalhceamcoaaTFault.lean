/- What the document's TopoFault answers: the contract. -/
import Derived.Test.YthekalhceamcoaaTNew2
namespace Go.Proofs.Ythekalhceamcoaa
open Go.RowKit
open Ost (Cpu cpu0 inB clash clashTo faultTo fault)
set_option maxRecDepth 100000 in
set_option maxHeartbeats 1000000 in
theorem refFault_many (ao : Option Addr) (n c : Nat) (l : List Cpu) (w : World) (hl : l.length = n) (hn : n = 0 ∨ 64 < n) :
    Calls Try.prog 15 #[.slice ao n c] w fun e w' => e = .returned (.int .i64 (fault l)) ∧ Below w.heap.size w w' := by
  have HF : Hid (fault l = 2) := by unfold Hid fault; rw [if_pos (by omega)]
  clear hl
  rcases hn with rfl | hn
  all_goals
    go_enter Try.func15, Try.ntmps15
    go_wp2_with fail
    go_ret
    exact ⟨congrArg (fun z => Ending.returned (.int .i64 z)) HF.out.symm, Below.refl _ _⟩
theorem outB {x : Cpu} (h : inB x = false) : x.core < 0 ∨ (0 ≤ x.core ∧ 63 < x.core) ∨ (0 ≤ x.core ∧ x.core ≤ 63 ∧ x.sock < 0) ∨ (0 ≤ x.core ∧ x.core ≤ 63 ∧ 0 ≤ x.sock ∧ 63 < x.sock) ∨ (0 ≤ x.core ∧ x.core ≤ 63 ∧ 0 ≤ x.sock ∧ x.sock ≤ 63 ∧ x.node < 0) ∨ (0 ≤ x.core ∧ x.core ≤ 63 ∧ 0 ≤ x.sock ∧ x.sock ≤ 63 ∧ 0 ≤ x.node ∧ 3 < x.node) := by
  have : ¬ inB x = true := by rw [h]; simp
  rw [Ost.inB_iff] at this
  omega
theorem clashTo_yes {l : List Cpu} {x : Cpu} {j k : Nat} (hj : j < k) (h : clash (l.getD j cpu0) x = true) : clashTo l x k = true := (Ost.clashTo_iff l x k).2 ⟨j, hj, h⟩
theorem clashTo_next {l : List Cpu} {x : Cpu} {j : Nat} (h0 : clashTo l x j = false) (h : clash (l.getD j cpu0) x = false) : clashTo l x (j + 1) = false := by rw [clashTo, h0, h]; rfl
set_option maxRecDepth 100000 in
set_option maxHeartbeats 2000000 in
theorem refFault_some (b o c : Nat) (l : List Cpu) (w : World) (hc : CellsAt w b o l) (hlb : b < w.heap.size) (h0 : 0 < l.length) (h64 : l.length ≤ 64) :
    Calls Try.prog 15 #[.slice (some ⟨b, o, none⟩) l.length c] w fun e w' => e = .returned (.int .i64 (fault l)) ∧ Below w.heap.size w w' := by
  have HC := hideIt hc
  have HLB := hideIt hlb
  clear hc hlb
  go_enter Try.func15, Try.ntmps15
  go_wp2_with fail
  go_loopw [3] (fun i wr => ∃ k : Nat, k ≤ l.length ∧ i = .int .i64 k ∧ Hid (faultTo l k = 0) ∧ Below w.heap.size w wr) (fun i _ => l.length - (intOf i).toNat)
  case atStart => exact ⟨0, by omega, rfl, rfl, Below.refl _ _⟩
  case round =>
    obtain ⟨k, hk, rfl, HF, hB⟩ := hrel
    by_cases hlt : k < l.length
    · obtain ⟨hcell0, hcell1, hcell2⟩ := (HC.out.below HLB.out hB) k hlt
      have HBd := hideIt (fun hb => Ost.fault_at l k 1 h0 h64 hlt HF.out (Ost.faultAt_bound (l := l) (k := k) hb) (by decide))
      have HSh := hideIt (fun hb hc => Ost.fault_at l k 3 h0 h64 hlt HF.out (Ost.faultAt_shape (l := l) (k := k) hb hc) (by decide))
      have HN := hideIt (fun hb hc => Ost.faultTo_next (l := l) (k := k) HF.out hb hc)
      generalize l.getD k cpu0 = x at *
      have hB1 := hideIt (hB.alloc hB.size (.cells #[.int .i64 x.core, .int .i64 x.sock, .int .i64 x.node] 40))
      rcases two (inB x) with hi | hi
      · obtain ⟨i1, i2, i3, i4, i5, i6⟩ := (Ost.inB_iff x).1 hi
        have j2 : x.core ≤ 63 := by omega
        have j4 : x.sock ≤ 63 := by omega
        have j6 : x.node ≤ 3 := by omega
        have HSx := hideIt (HSh.out hi)
        have HNx := hideIt (HN.out hi)
        have HCk := hideIt (fun j (hj : j < k) => ((HC.out.below HLB.out hB).below (w0 := w) (Nat.lt_of_lt_of_le HLB.out (Nat.le_refl _)) ((Below.refl wr.heap.size wr).alloc (Nat.le_refl _) (.cells #[.int .i64 x.core, .int .i64 x.sock, .int .i64 x.node] 40) |>.mono hB.size)) j (by omega))
        have hcx := hideIt (show (wr.alloc (.cells #[.int .i64 x.core, .int .i64 x.sock, .int .i64 x.node] 40)).cell? ⟨wr.heap.size, 0, none⟩ = some (.int .i64 x.core) ∧ (wr.alloc (.cells #[.int .i64 x.core, .int .i64 x.sock, .int .i64 x.node] 40)).cell? ⟨wr.heap.size, 1, none⟩ = some (.int .i64 x.sock) ∧ (wr.alloc (.cells #[.int .i64 x.core, .int .i64 x.sock, .int .i64 x.node] 40)).cell? ⟨wr.heap.size, 2, none⟩ = some (.int .i64 x.node) by simp)
        clear hi HBd HSh HN i2 i4 i6
        go_wp2_with fail
        clear hcell0 hcell1 hcell2 hB i1 i3 i5 j2 j4 j6
        go_loopw [5] (fun i wi => ∃ j m : Nat, j ≤ k ∧ i = .int .i64 j ∧ Hid (clashTo l x j = false) ∧ wi = (wr.alloc (.cells #[.int .i64 x.core, .int .i64 x.sock, .int .i64 x.node] 40)).drewN m) (fun i _ => k - (intOf i).toNat)
        case atStart => exact ⟨0, 0, by omega, rfl, rfl, rfl⟩
        case round =>
          obtain ⟨j, m, hj, rfl, HCl, rfl⟩ := hrel
          by_cases hjk : j < k
          · obtain ⟨hcell0, hcell1, hcell2⟩ := HCk.out j hjk
            obtain ⟨p0, p1, p2⟩ := hcx.out
            have HYes := hideIt (fun h => HSx.out (clashTo_yes (l := l) (x := x) hjk h))
            have HNo := hideIt (fun h => clashTo_next (l := l) (x := x) HCl.out h)
            generalize l.getD j cpu0 = y at *
            generalize hw0 : (wr.alloc (.cells #[.int .i64 x.core, .int .i64 x.sock, .int .i64 x.node] 40)) = w0 at *
            by_cases hyc : y.core = x.core
            · by_cases hyx : y = x
              · subst hyx
                have hCn : Hid (clashTo l y (j + 1) = false) := HNo.out (by simp [clash])
                clear hyc HYes HNo
                go_wp2_with fail
                go_quiet (fail)
                go_wp2_with fail
                go_roundw
                case rel => exact ⟨j + 1, _, by omega, by go_num, hCn, by subst hw0; rfl⟩
                case measure => simp [intOf]; omega
              · have hF : Hid (fault l = 3) := HYes.out (by simp only [clash, Bool.and_eq_true, decide_eq_true_eq]; exact ⟨hyc, hyx⟩)
                have hne : (¬ y.sock = x.sock) ∨ (y.sock = x.sock ∧ ¬ y.node = x.node) := by
                  by_cases hsk : y.sock = x.sock
                  · refine .inr ⟨hsk, fun hn => hyx ?_⟩
                    cases y; cases x; simp_all
                  · exact .inl hsk
                clear hyx HYes HNo
                rcases hne with hsk | ⟨hsk, hnd⟩
                all_goals
                  go_wp2_with fail
                  go_quiet (fail)
                  go_wp2_with fail
                  go_ret
                  exact ⟨congrArg (fun z => Ending.returned (.int .i64 z)) hF.out.symm, below_drewN (below_drewN (by subst hw0; exact hB1.out) _) _⟩
            · have hCn : Hid (clashTo l x (j + 1) = false) := HNo.out (by simp [clash, hyc])
              have hg : (y.core == x.core) = false := by simpa using hyc
              clear hyc HYes HNo
              go_wp2_with fail
              go_quiet (fail)
              go_wp2_with fail
              go_roundw
              case rel => exact ⟨j + 1, _, by omega, by go_num, hCn, by subst hw0; rfl⟩
              case measure => simp [intOf]; omega
          · have hjk2 : j = k := by omega
            have hN : Hid (faultTo l (k + 1) = 0) := HNx.out (by rw [← hjk2]; exact HCl.out)
            clear hjk2
            go_wp2_with fail
            go_roundw
            case rel => exact ⟨k + 1, by omega, by go_num, hN, below_drewN hB1.out m⟩
            case measure => simp [intOf]; omega
      · have hF : Hid (fault l = 1) := HBd.out hi
        have hout := outB hi
        clear hi HBd HSh HN
        rcases hout with h | ⟨h1, h⟩ | ⟨h1, h2, h⟩ | ⟨h1, h2, h3, h⟩ | ⟨h1, h2, h3, h4, h⟩ | ⟨h1, h2, h3, h4, h5, h⟩
        all_goals
          go_wp2_with fail
          go_ret
          exact ⟨congrArg (fun z => Ending.returned (.int .i64 z)) hF.out.symm, hB1.out⟩
    · have hkl : k = l.length := by omega
      have hF : Hid (fault l = 0) := Ost.fault_none l h0 h64 (by rw [← hkl]; exact HF.out)
      clear hkl
      go_wp2_with fail
      go_ret
      exact ⟨congrArg (fun z => Ending.returned (.int .i64 z)) hF.out.symm, hB⟩
end Go.Proofs.Ythekalhceamcoaa
