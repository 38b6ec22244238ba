/- What the document's Core, Socket, On answer: contracts. -/
import Derived.Test.YthekalhceamcoaaTBase
import Derived.Test.YthekalhceamcoaaTMath
namespace Go.Proofs.Ythekalhceamcoaa
open Go.RowKit
open Ost (Cpu cpu0 chosenTo chosen chosenTo_yes chosenTo_no chosenTo_lt)
/-- The cells of processors, from a place on. -/
def CellsAt (w : World) (b o : Nat) (l : List Cpu) : Prop :=
  ∀ k, k < l.length → w.cell? ⟨b, o + k * 3, none⟩ = some (.int .i64 (l.getD k cpu0).core) ∧ w.cell? ⟨b, o + k * 3 + 1, none⟩ = some (.int .i64 (l.getD k cpu0).sock) ∧ w.cell? ⟨b, o + k * 3 + 2, none⟩ = some (.int .i64 (l.getD k cpu0).node)
/-- A slice of processors that is read. -/
def CpusAt (w : World) (v : Value) (l : List Cpu) : Prop :=
  (l = [] ∧ ∃ ao c, v = .slice ao 0 c) ∨ ∃ b o c, v = .slice (some ⟨b, o, none⟩) l.length c ∧ CellsAt w b o l
theorem CellsAt.below {w0 w w' : World} {b o : Nat} {l : List Cpu} (h : CellsAt w b o l) (hlt : b < w0.heap.size) (hb : Below w0.heap.size w w') : CellsAt w' b o l := by
  intro k hk
  obtain ⟨h1, h2, h3⟩ := h k hk
  exact ⟨(hb.cell (p := ⟨b, o + k * 3, none⟩) hlt).trans h1, (hb.cell (p := ⟨b, o + k * 3 + 1, none⟩) hlt).trans h2, (hb.cell (p := ⟨b, o + k * 3 + 2, none⟩) hlt).trans h3⟩
theorem CpusAt.below {w w' : World} {v : Value} {l : List Cpu} (h : CpusAt w v l) (hb : Below w.heap.size w w') : CpusAt w' v l := by
  rcases h with h | ⟨b, o, c, hv, hc⟩
  · exact .inl h
  · refine .inr ⟨b, o, c, hv, fun k hk => ?_⟩
    obtain ⟨h1, h2, h3⟩ := hc k hk
    have hlt := World.block_lt_of_cell? w _ h1
    exact ⟨(hb.cell (p := ⟨b, o + k * 3, none⟩) hlt).trans h1, (hb.cell (p := ⟨b, o + k * 3 + 1, none⟩) hlt).trans h2, (hb.cell (p := ⟨b, o + k * 3 + 2, none⟩) hlt).trans h3⟩
/-- Their cores, sockets and nodes are such as there may be. -/
def Good (l : List Cpu) : Prop := ∀ c ∈ l, 0 ≤ c.core ∧ c.core ≤ 63 ∧ 0 ≤ c.sock ∧ c.sock ≤ 63 ∧ 0 ≤ c.node ∧ c.node ≤ 3
theorem Good.at {l : List Cpu} (h : Good l) {k : Nat} (hk : k < l.length) : 0 ≤ (l.getD k cpu0).node ∧ (l.getD k cpu0).node ≤ 3 := by
  have : l.getD k cpu0 ∈ l := by simp [hk]
  have := h _ this
  exact ⟨this.2.2.2.2.1, this.2.2.2.2.2⟩
/-- Is its node among those of a mask? -/
def onMask (m : Nat) (c : Cpu) : Bool := m.testBit c.node.toNat
theorem bit8 (m n : Nat) (hm : m < 256) : (bits BinOp.and IntKind.u8 ((m : Int) / 2 ^ n) 1 == 1) = m.testBit n := by
  have e : ((m : Int) / 2 ^ n) = ((m / 2 ^ n : Nat) : Int) := by simp
  have hlt : m / 2 ^ n < 256 := Nat.lt_of_le_of_lt (Nat.div_le_self _ _) hm
  rw [e, Nat.testBit_eq_decide_div_mod_eq]
  generalize m / 2 ^ n = q at hlt
  have key : ∀ q : Fin 256, (bits BinOp.and IntKind.u8 ((q.val : Nat) : Int) 1 == 1) = decide (q.val % 2 = 1) := by decide +kernel
  exact key ⟨q, hlt⟩
set_option maxHeartbeats 1000000 in
theorem refCore_some (b o c : Nat) (l : List Cpu) (n : Int) (w : World) (hc : CellsAt w b o l) (hl : l.length ≤ 64) :
    Calls Try.prog 132 #[.slice (some ⟨b, o, none⟩) l.length c, .int .i64 n] w fun e w' => e = .returned (.int .u64 (chosen (fun x => x.core == n) l : Nat)) ∧ w' = w := by
  have HC := hideIt hc
  clear hc
  go_enter Try.func132, Try.ntmps132
  go_wp2_with fail
  go_loop [5, 6] (fun t i => ∃ k : Nat, k ≤ l.length ∧ i = .int .i64 k ∧ t = .int .u64 (chosenTo (fun x => x.core == n) l k : Nat)) (fun _ i => l.length - (intOf i).toNat)
  case atStart => exact ⟨0, by omega, rfl, rfl⟩
  case round =>
    obtain ⟨k, hk, rfl, rfl⟩ := hrel
    by_cases hlt : k < l.length
    · obtain ⟨hcell0, hcell1, hcell2⟩ := HC.out k hlt
      
      have HY := hideIt (fun h => chosenTo_yes (p := (fun x => x.core == n)) (l := l) (k := k) h)
      have HN := hideIt (fun h => chosenTo_no (p := (fun x => x.core == n)) (l := l) (k := k) h)
      have HL := hideIt (chosenTo_lt (fun x => x.core == n) l k (by omega))
      generalize l.getD k cpu0 = x at *
      rcases two ((fun x => x.core == n) x) with hb | hb
      · have HO : Hid (bits BinOp.or IntKind.u64 (chosenTo (fun x => x.core == n) l k : Nat) (IntKind.u64.wrap (2 ^ k)) = ((chosenTo (fun x => x.core == n) l (k + 1) : Nat) : Int)) := by
          unfold Hid; rw [or_step _ _ HL.out (by omega), HY.out hb]
        have hb2 : (x.core == n) = _ := hb
        clear hb
        go_wp2_with go_in
        go_round
        case rel => exact ⟨k + 1, by omega, by go_num, by rw [← HO.out]⟩
        case measure => simp [intOf]; omega
      · have HO : Hid (chosenTo (fun x => x.core == n) l k = chosenTo (fun x => x.core == n) l (k + 1)) := (HN.out hb).symm
        have hb2 : (x.core == n) = _ := hb
        clear hb
        go_wp2_with go_in
        go_round
        case rel => exact ⟨k + 1, by omega, by go_num, by rw [← HO.out]⟩
        case measure => simp [intOf]; omega
    · have hkl : k = l.length := by omega
      have H : Hid (chosenTo (fun x => x.core == n) l k = chosen (fun x => x.core == n) l) := by unfold Hid; rw [hkl]; rfl
      clear hkl
      go_wp2_with fail
      go_ret
      exact ⟨congrArg (fun z : Nat => Ending.returned (.int .u64 z)) H.out, rfl⟩
theorem refCore_none (ao : Option Addr) (c : Nat) (n : Int) (w : World) :
    Calls Try.prog 132 #[.slice ao 0 c, .int .i64 n] w fun e w' => e = .returned (.int .u64 0) ∧ w' = w := by
  go_enter Try.func132, Try.ntmps132
  go_wp2_with fail
  go_loop [5, 6] (fun t i => t = .int .u64 0 ∧ i = .int .i64 0) (fun _ _ => 0)
  case atStart => exact ⟨rfl, rfl⟩
  case round =>
    obtain ⟨rfl, rfl⟩ := hrel
    go_wp2_with fail
    go_ret
    exact ⟨rfl, rfl⟩
theorem refCore_any (v : Value) (l : List Cpu) (n : Int) (w : World) (hv : CpusAt w v l) (hl : l.length ≤ 64) :
    Calls Try.prog 132 #[v, .int .i64 n] w fun e w' => e = .returned (.int .u64 (chosen (fun x => x.core == n) l : Nat)) ∧ w' = w := by
  rcases hv with ⟨rfl, ao, c, rfl⟩ | ⟨b, o, c, rfl, hc⟩
  · exact refCore_none ao c n w
  · exact refCore_some b o c l n w hc hl
set_option maxHeartbeats 1000000 in
theorem refSocket_some (b o c : Nat) (l : List Cpu) (n : Int) (w : World) (hc : CellsAt w b o l) (hl : l.length ≤ 64) :
    Calls Try.prog 131 #[.slice (some ⟨b, o, none⟩) l.length c, .int .i64 n] w fun e w' => e = .returned (.int .u64 (chosen (fun x => x.sock == n) l : Nat)) ∧ w' = w := by
  have HC := hideIt hc
  clear hc
  go_enter Try.func131, Try.ntmps131
  go_wp2_with fail
  go_loop [5, 6] (fun t i => ∃ k : Nat, k ≤ l.length ∧ i = .int .i64 k ∧ t = .int .u64 (chosenTo (fun x => x.sock == n) l k : Nat)) (fun _ i => l.length - (intOf i).toNat)
  case atStart => exact ⟨0, by omega, rfl, rfl⟩
  case round =>
    obtain ⟨k, hk, rfl, rfl⟩ := hrel
    by_cases hlt : k < l.length
    · obtain ⟨hcell0, hcell1, hcell2⟩ := HC.out k hlt
      
      have HY := hideIt (fun h => chosenTo_yes (p := (fun x => x.sock == n)) (l := l) (k := k) h)
      have HN := hideIt (fun h => chosenTo_no (p := (fun x => x.sock == n)) (l := l) (k := k) h)
      have HL := hideIt (chosenTo_lt (fun x => x.sock == n) l k (by omega))
      generalize l.getD k cpu0 = x at *
      rcases two ((fun x => x.sock == n) x) with hb | hb
      · have HO : Hid (bits BinOp.or IntKind.u64 (chosenTo (fun x => x.sock == n) l k : Nat) (IntKind.u64.wrap (2 ^ k)) = ((chosenTo (fun x => x.sock == n) l (k + 1) : Nat) : Int)) := by
          unfold Hid; rw [or_step _ _ HL.out (by omega), HY.out hb]
        have hb2 : (x.sock == n) = _ := hb
        clear hb
        go_wp2_with go_in
        go_round
        case rel => exact ⟨k + 1, by omega, by go_num, by rw [← HO.out]⟩
        case measure => simp [intOf]; omega
      · have HO : Hid (chosenTo (fun x => x.sock == n) l k = chosenTo (fun x => x.sock == n) l (k + 1)) := (HN.out hb).symm
        have hb2 : (x.sock == n) = _ := hb
        clear hb
        go_wp2_with go_in
        go_round
        case rel => exact ⟨k + 1, by omega, by go_num, by rw [← HO.out]⟩
        case measure => simp [intOf]; omega
    · have hkl : k = l.length := by omega
      have H : Hid (chosenTo (fun x => x.sock == n) l k = chosen (fun x => x.sock == n) l) := by unfold Hid; rw [hkl]; rfl
      clear hkl
      go_wp2_with fail
      go_ret
      exact ⟨congrArg (fun z : Nat => Ending.returned (.int .u64 z)) H.out, rfl⟩
theorem refSocket_none (ao : Option Addr) (c : Nat) (n : Int) (w : World) :
    Calls Try.prog 131 #[.slice ao 0 c, .int .i64 n] w fun e w' => e = .returned (.int .u64 0) ∧ w' = w := by
  go_enter Try.func131, Try.ntmps131
  go_wp2_with fail
  go_loop [5, 6] (fun t i => t = .int .u64 0 ∧ i = .int .i64 0) (fun _ _ => 0)
  case atStart => exact ⟨rfl, rfl⟩
  case round =>
    obtain ⟨rfl, rfl⟩ := hrel
    go_wp2_with fail
    go_ret
    exact ⟨rfl, rfl⟩
theorem refSocket_any (v : Value) (l : List Cpu) (n : Int) (w : World) (hv : CpusAt w v l) (hl : l.length ≤ 64) :
    Calls Try.prog 131 #[v, .int .i64 n] w fun e w' => e = .returned (.int .u64 (chosen (fun x => x.sock == n) l : Nat)) ∧ w' = w := by
  rcases hv with ⟨rfl, ao, c, rfl⟩ | ⟨b, o, c, rfl, hc⟩
  · exact refSocket_none ao c n w
  · exact refSocket_some b o c l n w hc hl
set_option maxHeartbeats 1000000 in
theorem refOn_some (b o c : Nat) (l : List Cpu) (n : Nat) (w : World) (hc : CellsAt w b o l) (hl : l.length ≤ 64) (hg : Good l) (hn : n < 256) :
    Calls Try.prog 85 #[.slice (some ⟨b, o, none⟩) l.length c, .int .u8 n] w fun e w' => e = .returned (.int .u64 (chosen (onMask n) l : Nat)) ∧ w' = w := by
  have HC := hideIt hc
  have HG := hideIt hg
  clear hc hg
  go_enter Try.func85, Try.ntmps85
  go_wp2_with fail
  go_loop [5, 6] (fun t i => ∃ k : Nat, k ≤ l.length ∧ i = .int .i64 k ∧ t = .int .u64 (chosenTo (onMask n) l k : Nat)) (fun _ i => l.length - (intOf i).toNat)
  case atStart => exact ⟨0, by omega, rfl, rfl⟩
  case round =>
    obtain ⟨k, hk, rfl, rfl⟩ := hrel
    by_cases hlt : k < l.length
    · obtain ⟨hcell0, hcell1, hcell2⟩ := HC.out k hlt
      obtain ⟨g0, g3⟩ := HG.out.at hlt
      have hb8 := bit8 n (l.getD k cpu0).node.toNat hn
      have HY := hideIt (fun h => chosenTo_yes (p := (onMask n)) (l := l) (k := k) h)
      have HN := hideIt (fun h => chosenTo_no (p := (onMask n)) (l := l) (k := k) h)
      have HL := hideIt (chosenTo_lt (onMask n) l k (by omega))
      generalize l.getD k cpu0 = x at *
      rcases two ((onMask n) x) with hb | hb
      · have HO : Hid (bits BinOp.or IntKind.u64 (chosenTo (onMask n) l k : Nat) (IntKind.u64.wrap (2 ^ k)) = ((chosenTo (onMask n) l (k + 1) : Nat) : Int)) := by
          unfold Hid; rw [or_step _ _ HL.out (by omega), HY.out hb]
        have hb2 := hb8
        unfold onMask at hb
        rw [hb] at hb2
        clear hb hb8
        go_wp2_with go_in
        go_round
        case rel => exact ⟨k + 1, by omega, by go_num, by rw [← HO.out]⟩
        case measure => simp [intOf]; omega
      · have HO : Hid (chosenTo (onMask n) l k = chosenTo (onMask n) l (k + 1)) := (HN.out hb).symm
        have hb2 := hb8
        unfold onMask at hb
        rw [hb] at hb2
        clear hb hb8
        go_wp2_with go_in
        go_round
        case rel => exact ⟨k + 1, by omega, by go_num, by rw [← HO.out]⟩
        case measure => simp [intOf]; omega
    · have hkl : k = l.length := by omega
      have H : Hid (chosenTo (onMask n) l k = chosen (onMask n) l) := by unfold Hid; rw [hkl]; rfl
      clear hkl
      go_wp2_with fail
      go_ret
      exact ⟨congrArg (fun z : Nat => Ending.returned (.int .u64 z)) H.out, rfl⟩
theorem refOn_none (ao : Option Addr) (c : Nat) (n : Int) (w : World) :
    Calls Try.prog 85 #[.slice ao 0 c, .int .u8 n] w fun e w' => e = .returned (.int .u64 0) ∧ w' = w := by
  go_enter Try.func85, Try.ntmps85
  go_wp2_with fail
  go_loop [5, 6] (fun t i => t = .int .u64 0 ∧ i = .int .i64 0) (fun _ _ => 0)
  case atStart => exact ⟨rfl, rfl⟩
  case round =>
    obtain ⟨rfl, rfl⟩ := hrel
    go_wp2_with fail
    go_ret
    exact ⟨rfl, rfl⟩
theorem refOn_any (v : Value) (l : List Cpu) (n : Nat) (w : World) (hv : CpusAt w v l) (hl : l.length ≤ 64) (hg : Good l) (hn : n < 256) :
    Calls Try.prog 85 #[v, .int .u8 n] w fun e w' => e = .returned (.int .u64 (chosen (onMask n) l : Nat)) ∧ w' = w := by
  rcases hv with ⟨rfl, ao, c, rfl⟩ | ⟨b, o, c, rfl, hc⟩
  · exact refOn_none ao c n w
  · exact refOn_some b o c l n w hc hl hg hn
end Go.Proofs.Ythekalhceamcoaa
