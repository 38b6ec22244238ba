/- What package topo's All, Core, Socket, On answer: contracts. -/
import Derived.Test.YthekalhceamcoaaTRef
namespace Go.Proofs.Ythekalhceamcoaa
open Go.RowKit
open Ost (Cpu cpu0 chosenTo chosen chosenTo_yes chosenTo_no chosenTo_lt)
/-- Whichever it is. -/
def anyCpu (_ : Cpu) : Bool := true
/-- A machine's topology as it lies in memory. -/
structure TopoAt (w : World) (tb b o c : Nat) (l : List Cpu) : Prop where
  cell : w.cell? ⟨tb, 0, none⟩ = some (.slice (some ⟨b, o, none⟩) l.length c)
  cells : CellsAt w b o l
  lt : b < w.heap.size
  len : l.length ≤ 64
theorem TopoAt.tlt {w : World} {tb b o c : Nat} {l : List Cpu} (h : TopoAt w tb b o c l) : tb < w.heap.size := World.block_lt_of_cell? w _ h.cell
theorem TopoAt.below {w w' : World} {tb b o c : Nat} {l : List Cpu} (h : TopoAt w tb b o c l) (hb : Below w.heap.size w w') : TopoAt w' tb b o c l :=
  ⟨(hb.cell (p := ⟨tb, 0, none⟩) h.tlt).trans h.cell, h.cells.below h.lt hb, Nat.lt_of_lt_of_le h.lt hb.size, h.len⟩
set_option maxHeartbeats 1000000 in
theorem allFn_any (x : Cpu) (w : World) :
    Calls Try.prog 89 #[.agg #[.int .i64 x.core, .int .i64 x.sock, .int .i64 x.node]] w fun e w' => e = .returned (.bool (anyCpu x)) ∧ Below w.heap.size w w' := by
  
  go_enter Try.func89, Try.ntmps89
  go_wp2_with fail
  go_ret
  exact ⟨rfl, (Below.refl _ _).alloc (Nat.le_refl _) _⟩
set_option maxHeartbeats 1000000 in
theorem allChosen (tb b o c : Nat) (l : List Cpu) (w : World) (ht : TopoAt w tb b o c l) :
    Calls Try.prog 88 #[.pointer (some ⟨tb, 0, none⟩), .func (.func 89) #[] #[]] w fun e w' => e = .returned (.int .u64 (chosen anyCpu l : Nat)) ∧ Below w.heap.size w w' := by
  have HC := hideIt ht.cells
  have hT := ht.cell
  have HLB := hideIt ht.lt
  have hl := ht.len
  clear ht
  
  go_enter Try.func88, Try.ntmps88
  go_wp2_with fail
  go_loopw [5, 13] (fun t i wr => ∃ k : Nat, k ≤ l.length ∧ i = .int .i64 k ∧ t = .int .u64 (chosenTo anyCpu l k : Nat) ∧ Below w.heap.size w wr) (fun _ i _ => l.length - (intOf i).toNat)
  case atStart => exact ⟨0, by omega, rfl, rfl, Below.refl _ _⟩
  case round =>
    obtain ⟨k, hk, rfl, rfl, hB⟩ := hrel
    by_cases hlt : k < l.length
    · obtain ⟨hcell0, hcell1, hcell2⟩ := (HC.out.below HLB.out hB) k hlt
      
      have HY := hideIt (fun h => chosenTo_yes (p := anyCpu) (l := l) (k := k) h)
      have HN := hideIt (fun h => chosenTo_no (p := anyCpu) (l := l) (k := k) h)
      have HL := hideIt (chosenTo_lt anyCpu l k (by omega))
      generalize l.getD k cpu0 = x at *
      have hB1 := hB.alloc hB.size (.cells #[.int .i64 x.core, .int .i64 x.sock, .int .i64 x.node] 40)
      go_wp2_with fail
      refine (allFn_any x _).mono ?_
      rintro e w1 ⟨rfl, hb⟩
      have hB2 := hB1.trans (hb.mono hB1.size)
      clear hB1 hb
      rcases two (anyCpu x) with hb | hb
      · have HO : Hid (bits BinOp.or IntKind.u64 (chosenTo anyCpu l k : Nat) (IntKind.u64.wrap (2 ^ k)) = ((chosenTo anyCpu l (k + 1) : Nat) : Int)) := by
          unfold Hid; rw [or_step _ _ HL.out (by omega), HY.out hb]
        rw [hb]
        clear hb
        go_wp2_with fail
        go_roundw
        case rel => exact ⟨k + 1, by omega, by go_num, by rw [← HO.out], hB2⟩
        case measure => simp [intOf]; omega
      · have HO : Hid (chosenTo anyCpu l k = chosenTo anyCpu l (k + 1)) := (HN.out hb).symm
        rw [hb]
        clear hb
        go_wp2_with fail
        go_roundw
        case rel => exact ⟨k + 1, by omega, by go_num, by rw [← HO.out], hB2⟩
        case measure => simp [intOf]; omega
    · have hkl : k = l.length := by omega
      have H : Hid (chosenTo anyCpu l k = chosen anyCpu l) := by unfold Hid; rw [hkl]; rfl
      clear hkl
      go_wp2_with fail
      go_ret
      exact ⟨congrArg (fun z : Nat => Ending.returned (.int .u64 z)) H.out, hB⟩
set_option maxHeartbeats 1000000 in
theorem all_any (tb b o c : Nat) (l : List Cpu) (w : World) (ht : TopoAt w tb b o c l) :
    Calls Try.prog 21 #[.pointer (some ⟨tb, 0, none⟩)] w fun e w' => e = .returned (.int .u64 (chosen anyCpu l : Nat)) ∧ Below w.heap.size w w' := by
  
  go_enter Try.func21, Try.ntmps21
  go_wp2_with fail
  refine (allChosen tb b o c l w ht).mono ?_
  rintro e w1 ⟨rfl, hb⟩
  go_wp2_with fail
  go_ret
  exact ⟨rfl, hb⟩
set_option maxHeartbeats 1000000 in
theorem coreFn_any (x : Cpu) (n : Int) (B : Nat) (w : World) (hn : w.cell? ⟨B, 0, none⟩ = some (.int .i64 n)) :
    Calls Try.prog 92 #[.agg #[.int .i64 x.core, .int .i64 x.sock, .int .i64 x.node], .pointer (some ⟨B, 0, none⟩)] w fun e w' => e = .returned (.bool ((fun x => x.core == n) x)) ∧ Below w.heap.size w w' := by
  have hn1 := (((Below.refl w.heap.size w).alloc (Nat.le_refl _) (.cells #[.int .i64 x.core, .int .i64 x.sock, .int .i64 x.node] 40)).cell (p := ⟨B, 0, none⟩) (World.block_lt_of_cell? w _ hn)).trans hn
  clear hn
  go_enter Try.func92, Try.ntmps92
  go_wp2_with fail
  go_ret
  exact ⟨rfl, (Below.refl _ _).alloc (Nat.le_refl _) _⟩
set_option maxHeartbeats 1000000 in
theorem coreChosen (n : Int) (B tb b o c : Nat) (l : List Cpu) (w : World) (ht : TopoAt w tb b o c l) (hn : w.cell? ⟨B, 0, none⟩ = some (.int .i64 n)) :
    Calls Try.prog 88 #[.pointer (some ⟨tb, 0, none⟩), .func (.func 92) #[] #[.pointer (some ⟨B, 0, none⟩)]] w fun e w' => e = .returned (.int .u64 (chosen (fun x => x.core == n) l : Nat)) ∧ Below w.heap.size w w' := by
  have HC := hideIt ht.cells
  have hT := ht.cell
  have HLB := hideIt ht.lt
  have hl := ht.len
  clear ht
  have HN0 := hideIt hn
  have HBl := hideIt (World.block_lt_of_cell? w _ hn)
  clear hn
  go_enter Try.func88, Try.ntmps88
  go_wp2_with fail
  go_loopw [5, 13] (fun t i wr => ∃ k : Nat, k ≤ l.length ∧ i = .int .i64 k ∧ t = .int .u64 (chosenTo (fun x => x.core == n) l k : Nat) ∧ Below w.heap.size w wr) (fun _ i _ => l.length - (intOf i).toNat)
  case atStart => exact ⟨0, by omega, rfl, rfl, Below.refl _ _⟩
  case round =>
    obtain ⟨k, hk, rfl, rfl, hB⟩ := hrel
    by_cases hlt : k < l.length
    · obtain ⟨hcell0, hcell1, hcell2⟩ := (HC.out.below HLB.out hB) k hlt
      have hcn := (hB.cell (p := ⟨B, 0, none⟩) HBl.out).trans HN0.out
      have hcn1 := hideIt ((((Below.refl wr.heap.size wr).alloc (Nat.le_refl _) (.cells #[.int .i64 (l.getD k cpu0).core, .int .i64 (l.getD k cpu0).sock, .int .i64 (l.getD k cpu0).node] 40)).cell (p := ⟨B, 0, none⟩) (World.block_lt_of_cell? wr _ hcn)).trans hcn)
      clear hcn
      have HY := hideIt (fun h => chosenTo_yes (p := (fun x => x.core == n)) (l := l) (k := k) h)
      have HN := hideIt (fun h => chosenTo_no (p := (fun x => x.core == n)) (l := l) (k := k) h)
      have HL := hideIt (chosenTo_lt (fun x => x.core == n) l k (by omega))
      generalize l.getD k cpu0 = x at *
      have hB1 := hB.alloc hB.size (.cells #[.int .i64 x.core, .int .i64 x.sock, .int .i64 x.node] 40)
      go_wp2_with fail
      refine (coreFn_any x n B _ hcn1.out).mono ?_
      rintro e w1 ⟨rfl, hb⟩
      have hB2 := hB1.trans (hb.mono hB1.size)
      clear hB1 hb
      rcases two ((fun x => x.core == n) x) with hb | hb
      · have HO : Hid (bits BinOp.or IntKind.u64 (chosenTo (fun x => x.core == n) l k : Nat) (IntKind.u64.wrap (2 ^ k)) = ((chosenTo (fun x => x.core == n) l (k + 1) : Nat) : Int)) := by
          unfold Hid; rw [or_step _ _ HL.out (by omega), HY.out hb]
        rw [hb]
        clear hb
        go_wp2_with fail
        go_roundw
        case rel => exact ⟨k + 1, by omega, by go_num, by rw [← HO.out], hB2⟩
        case measure => simp [intOf]; omega
      · have HO : Hid (chosenTo (fun x => x.core == n) l k = chosenTo (fun x => x.core == n) l (k + 1)) := (HN.out hb).symm
        rw [hb]
        clear hb
        go_wp2_with fail
        go_roundw
        case rel => exact ⟨k + 1, by omega, by go_num, by rw [← HO.out], hB2⟩
        case measure => simp [intOf]; omega
    · have hkl : k = l.length := by omega
      have H : Hid (chosenTo (fun x => x.core == n) l k = chosen (fun x => x.core == n) l) := by unfold Hid; rw [hkl]; rfl
      clear hkl
      go_wp2_with fail
      go_ret
      exact ⟨congrArg (fun z : Nat => Ending.returned (.int .u64 z)) H.out, hB⟩
set_option maxHeartbeats 1000000 in
theorem core_any (tb b o c : Nat) (l : List Cpu) (n : Int) (w : World) (ht : TopoAt w tb b o c l) :
    Calls Try.prog 24 #[.pointer (some ⟨tb, 0, none⟩), .int .i64 n] w fun e w' => e = .returned (.int .u64 (chosen (fun x => x.core == n) l : Nat)) ∧ Below w.heap.size w w' := by
  have hmf : ∀ (fn : Fn) (first cap : Array Value) (w : World), (Instr.makeFunc fn first cap).run Try.prog w = .ok (.func fn first cap) w := fun _ _ _ _ => rfl
  have hB0 := (Below.refl w.heap.size w).alloc (Nat.le_refl _) (.cells #[.int .i64 n] 3)
  have ht1 := ht.below hB0
  have hcn := hideIt (show (w.alloc (.cells #[.int .i64 n] 3)).cell? ⟨w.heap.size, 0, none⟩ = some (.int .i64 n) by simp)
  clear ht
  go_enter Try.func24, Try.ntmps24
  go_wp2_with fail
  refine (coreChosen n w.heap.size tb b o c l _ ht1 hcn.out).mono ?_
  rintro e w1 ⟨rfl, hb⟩
  go_wp2_with fail
  go_ret
  exact ⟨rfl, hB0.trans (hb.mono hB0.size)⟩
set_option maxHeartbeats 1000000 in
theorem sockFn_any (x : Cpu) (n : Int) (B : Nat) (w : World) (hn : w.cell? ⟨B, 0, none⟩ = some (.int .i64 n)) :
    Calls Try.prog 156 #[.agg #[.int .i64 x.core, .int .i64 x.sock, .int .i64 x.node], .pointer (some ⟨B, 0, none⟩)] w fun e w' => e = .returned (.bool ((fun x => x.sock == n) x)) ∧ Below w.heap.size w w' := by
  have hn1 := (((Below.refl w.heap.size w).alloc (Nat.le_refl _) (.cells #[.int .i64 x.core, .int .i64 x.sock, .int .i64 x.node] 40)).cell (p := ⟨B, 0, none⟩) (World.block_lt_of_cell? w _ hn)).trans hn
  clear hn
  go_enter Try.func156, Try.ntmps156
  go_wp2_with fail
  go_ret
  exact ⟨rfl, (Below.refl _ _).alloc (Nat.le_refl _) _⟩
set_option maxHeartbeats 1000000 in
theorem sockChosen (n : Int) (B tb b o c : Nat) (l : List Cpu) (w : World) (ht : TopoAt w tb b o c l) (hn : w.cell? ⟨B, 0, none⟩ = some (.int .i64 n)) :
    Calls Try.prog 88 #[.pointer (some ⟨tb, 0, none⟩), .func (.func 156) #[] #[.pointer (some ⟨B, 0, none⟩)]] w fun e w' => e = .returned (.int .u64 (chosen (fun x => x.sock == n) l : Nat)) ∧ Below w.heap.size w w' := by
  have HC := hideIt ht.cells
  have hT := ht.cell
  have HLB := hideIt ht.lt
  have hl := ht.len
  clear ht
  have HN0 := hideIt hn
  have HBl := hideIt (World.block_lt_of_cell? w _ hn)
  clear hn
  go_enter Try.func88, Try.ntmps88
  go_wp2_with fail
  go_loopw [5, 13] (fun t i wr => ∃ k : Nat, k ≤ l.length ∧ i = .int .i64 k ∧ t = .int .u64 (chosenTo (fun x => x.sock == n) l k : Nat) ∧ Below w.heap.size w wr) (fun _ i _ => l.length - (intOf i).toNat)
  case atStart => exact ⟨0, by omega, rfl, rfl, Below.refl _ _⟩
  case round =>
    obtain ⟨k, hk, rfl, rfl, hB⟩ := hrel
    by_cases hlt : k < l.length
    · obtain ⟨hcell0, hcell1, hcell2⟩ := (HC.out.below HLB.out hB) k hlt
      have hcn := (hB.cell (p := ⟨B, 0, none⟩) HBl.out).trans HN0.out
      have hcn1 := hideIt ((((Below.refl wr.heap.size wr).alloc (Nat.le_refl _) (.cells #[.int .i64 (l.getD k cpu0).core, .int .i64 (l.getD k cpu0).sock, .int .i64 (l.getD k cpu0).node] 40)).cell (p := ⟨B, 0, none⟩) (World.block_lt_of_cell? wr _ hcn)).trans hcn)
      clear hcn
      have HY := hideIt (fun h => chosenTo_yes (p := (fun x => x.sock == n)) (l := l) (k := k) h)
      have HN := hideIt (fun h => chosenTo_no (p := (fun x => x.sock == n)) (l := l) (k := k) h)
      have HL := hideIt (chosenTo_lt (fun x => x.sock == n) l k (by omega))
      generalize l.getD k cpu0 = x at *
      have hB1 := hB.alloc hB.size (.cells #[.int .i64 x.core, .int .i64 x.sock, .int .i64 x.node] 40)
      go_wp2_with fail
      refine (sockFn_any x n B _ hcn1.out).mono ?_
      rintro e w1 ⟨rfl, hb⟩
      have hB2 := hB1.trans (hb.mono hB1.size)
      clear hB1 hb
      rcases two ((fun x => x.sock == n) x) with hb | hb
      · have HO : Hid (bits BinOp.or IntKind.u64 (chosenTo (fun x => x.sock == n) l k : Nat) (IntKind.u64.wrap (2 ^ k)) = ((chosenTo (fun x => x.sock == n) l (k + 1) : Nat) : Int)) := by
          unfold Hid; rw [or_step _ _ HL.out (by omega), HY.out hb]
        rw [hb]
        clear hb
        go_wp2_with fail
        go_roundw
        case rel => exact ⟨k + 1, by omega, by go_num, by rw [← HO.out], hB2⟩
        case measure => simp [intOf]; omega
      · have HO : Hid (chosenTo (fun x => x.sock == n) l k = chosenTo (fun x => x.sock == n) l (k + 1)) := (HN.out hb).symm
        rw [hb]
        clear hb
        go_wp2_with fail
        go_roundw
        case rel => exact ⟨k + 1, by omega, by go_num, by rw [← HO.out], hB2⟩
        case measure => simp [intOf]; omega
    · have hkl : k = l.length := by omega
      have H : Hid (chosenTo (fun x => x.sock == n) l k = chosen (fun x => x.sock == n) l) := by unfold Hid; rw [hkl]; rfl
      clear hkl
      go_wp2_with fail
      go_ret
      exact ⟨congrArg (fun z : Nat => Ending.returned (.int .u64 z)) H.out, hB⟩
set_option maxHeartbeats 1000000 in
theorem sock_any (tb b o c : Nat) (l : List Cpu) (n : Int) (w : World) (ht : TopoAt w tb b o c l) :
    Calls Try.prog 128 #[.pointer (some ⟨tb, 0, none⟩), .int .i64 n] w fun e w' => e = .returned (.int .u64 (chosen (fun x => x.sock == n) l : Nat)) ∧ Below w.heap.size w w' := by
  have hmf : ∀ (fn : Fn) (first cap : Array Value) (w : World), (Instr.makeFunc fn first cap).run Try.prog w = .ok (.func fn first cap) w := fun _ _ _ _ => rfl
  have hB0 := (Below.refl w.heap.size w).alloc (Nat.le_refl _) (.cells #[.int .i64 n] 3)
  have ht1 := ht.below hB0
  have hcn := hideIt (show (w.alloc (.cells #[.int .i64 n] 3)).cell? ⟨w.heap.size, 0, none⟩ = some (.int .i64 n) by simp)
  clear ht
  go_enter Try.func128, Try.ntmps128
  go_wp2_with fail
  refine (sockChosen n w.heap.size tb b o c l _ ht1 hcn.out).mono ?_
  rintro e w1 ⟨rfl, hb⟩
  go_wp2_with fail
  go_ret
  exact ⟨rfl, hB0.trans (hb.mono hB0.size)⟩
set_option maxHeartbeats 1000000 in
theorem onFn_any (x : Cpu) (n : Nat) (B : Nat) (w : World) (hn : w.cell? ⟨B, 0, none⟩ = some (.int .u8 n)) (g0 : 0 ≤ x.node) (g3 : x.node ≤ 3) (hm : n < 256) :
    Calls Try.prog 91 #[.agg #[.int .i64 x.core, .int .i64 x.sock, .int .i64 x.node], .pointer (some ⟨B, 0, none⟩)] w fun e w' => e = .returned (.bool ((onMask n) x)) ∧ Below w.heap.size w w' := by
  have hb8 := hideIt (bit8 n x.node.toNat hm)
  have hn1 := (((Below.refl w.heap.size w).alloc (Nat.le_refl _) (.cells #[.int .i64 x.core, .int .i64 x.sock, .int .i64 x.node] 40)).cell (p := ⟨B, 0, none⟩) (World.block_lt_of_cell? w _ hn)).trans hn
  clear hn
  go_enter Try.func91, Try.ntmps91
  go_wp2_with fail
  go_ret
  exact ⟨congrArg (fun z => Ending.returned (.bool z)) hb8.out, (Below.refl _ _).alloc (Nat.le_refl _) _⟩
set_option maxHeartbeats 1000000 in
theorem onChosen (n : Nat) (B tb b o c : Nat) (l : List Cpu) (w : World) (ht : TopoAt w tb b o c l) (hn : w.cell? ⟨B, 0, none⟩ = some (.int .u8 n)) (hg : Good l) (hm : n < 256) :
    Calls Try.prog 88 #[.pointer (some ⟨tb, 0, none⟩), .func (.func 91) #[] #[.pointer (some ⟨B, 0, none⟩)]] w fun e w' => e = .returned (.int .u64 (chosen (onMask n) l : Nat)) ∧ Below w.heap.size w w' := by
  have HC := hideIt ht.cells
  have hT := ht.cell
  have HLB := hideIt ht.lt
  have hl := ht.len
  clear ht
  have HN0 := hideIt hn
  have HBl := hideIt (World.block_lt_of_cell? w _ hn)
  have HG := hideIt hg
  clear hn hg
  go_enter Try.func88, Try.ntmps88
  go_wp2_with fail
  go_loopw [5, 13] (fun t i wr => ∃ k : Nat, k ≤ l.length ∧ i = .int .i64 k ∧ t = .int .u64 (chosenTo (onMask n) l k : Nat) ∧ Below w.heap.size w wr) (fun _ i _ => l.length - (intOf i).toNat)
  case atStart => exact ⟨0, by omega, rfl, rfl, Below.refl _ _⟩
  case round =>
    obtain ⟨k, hk, rfl, rfl, hB⟩ := hrel
    by_cases hlt : k < l.length
    · obtain ⟨hcell0, hcell1, hcell2⟩ := (HC.out.below HLB.out hB) k hlt
      have hcn := (hB.cell (p := ⟨B, 0, none⟩) HBl.out).trans HN0.out
      have hcn1 := hideIt ((((Below.refl wr.heap.size wr).alloc (Nat.le_refl _) (.cells #[.int .i64 (l.getD k cpu0).core, .int .i64 (l.getD k cpu0).sock, .int .i64 (l.getD k cpu0).node] 40)).cell (p := ⟨B, 0, none⟩) (World.block_lt_of_cell? wr _ hcn)).trans hcn)
      clear hcn
      obtain ⟨g0, g3⟩ := HG.out.at hlt
      have HY := hideIt (fun h => chosenTo_yes (p := (onMask n)) (l := l) (k := k) h)
      have HN := hideIt (fun h => chosenTo_no (p := (onMask n)) (l := l) (k := k) h)
      have HL := hideIt (chosenTo_lt (onMask n) l k (by omega))
      generalize l.getD k cpu0 = x at *
      have hB1 := hB.alloc hB.size (.cells #[.int .i64 x.core, .int .i64 x.sock, .int .i64 x.node] 40)
      go_wp2_with fail
      refine (onFn_any x n B _ hcn1.out g0 g3 hm).mono ?_
      rintro e w1 ⟨rfl, hb⟩
      have hB2 := hB1.trans (hb.mono hB1.size)
      clear hB1 hb
      rcases two ((onMask n) x) with hb | hb
      · have HO : Hid (bits BinOp.or IntKind.u64 (chosenTo (onMask n) l k : Nat) (IntKind.u64.wrap (2 ^ k)) = ((chosenTo (onMask n) l (k + 1) : Nat) : Int)) := by
          unfold Hid; rw [or_step _ _ HL.out (by omega), HY.out hb]
        rw [hb]
        clear hb
        go_wp2_with fail
        go_roundw
        case rel => exact ⟨k + 1, by omega, by go_num, by rw [← HO.out], hB2⟩
        case measure => simp [intOf]; omega
      · have HO : Hid (chosenTo (onMask n) l k = chosenTo (onMask n) l (k + 1)) := (HN.out hb).symm
        rw [hb]
        clear hb
        go_wp2_with fail
        go_roundw
        case rel => exact ⟨k + 1, by omega, by go_num, by rw [← HO.out], hB2⟩
        case measure => simp [intOf]; omega
    · have hkl : k = l.length := by omega
      have H : Hid (chosenTo (onMask n) l k = chosen (onMask n) l) := by unfold Hid; rw [hkl]; rfl
      clear hkl
      go_wp2_with fail
      go_ret
      exact ⟨congrArg (fun z : Nat => Ending.returned (.int .u64 z)) H.out, hB⟩
set_option maxHeartbeats 1000000 in
theorem on_any (tb b o c : Nat) (l : List Cpu) (n : Nat) (w : World) (ht : TopoAt w tb b o c l) (hg : Good l) (hm : n < 256) :
    Calls Try.prog 23 #[.pointer (some ⟨tb, 0, none⟩), .int .u8 n] w fun e w' => e = .returned (.int .u64 (chosen (onMask n) l : Nat)) ∧ Below w.heap.size w w' := by
  have hmf : ∀ (fn : Fn) (first cap : Array Value) (w : World), (Instr.makeFunc fn first cap).run Try.prog w = .ok (.func fn first cap) w := fun _ _ _ _ => rfl
  have hB0 := (Below.refl w.heap.size w).alloc (Nat.le_refl _) (.cells #[.int .u8 n] 25)
  have ht1 := ht.below hB0
  have hcn := hideIt (show (w.alloc (.cells #[.int .u8 n] 25)).cell? ⟨w.heap.size, 0, none⟩ = some (.int .u8 n) by simp)
  clear ht
  go_enter Try.func23, Try.ntmps23
  go_wp2_with fail
  refine (onChosen n w.heap.size tb b o c l _ ht1 hcn.out hg hm).mono ?_
  rintro e w1 ⟨rfl, hb⟩
  go_wp2_with fail
  go_ret
  exact ⟨rfl, hB0.trans (hb.mono hB0.size)⟩
end Go.Proofs.Ythekalhceamcoaa
