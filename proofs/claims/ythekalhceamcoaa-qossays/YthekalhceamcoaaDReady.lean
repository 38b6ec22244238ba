/- Those that may be taken: a contract. -/
import Derived.Test.YthekalhceamcoaaDCnt3
namespace Go.Proofs.Ythekalhceamcoaa
open Go.RowKit
open Dvs (Dv dv0 dv nth fits near nearP sel Nodes)
theorem bitD (m n : Nat) (hm : m < 256) : (bits BinOp.and IntKind.u8 ((m : Int) / 2 ^ n) 1 == 1) = m.testBit n := by
  have e : ((m : Int) / 2 ^ n) = ((m / 2 ^ n : Nat) : Int) := by simp
  have hlt : m / 2 ^ n < 256 := Nat.lt_of_le_of_lt (Nat.div_le_self _ _) hm
  rw [e, Nat.testBit_eq_decide_div_mod_eq]
  generalize m / 2 ^ n = q at hlt
  have key : ∀ q : Fin 256, (bits BinOp.and IntKind.u8 ((q.val : Nat) : Int) 1 == 1) = decide (q.val % 2 = 1) := by decide +kernel
  exact key ⟨q, hlt⟩
theorem infoIntD : (Try.prog.info? 3).map (fun i => (i.zero, i.size, i.bytes)) = some (some (.int .i64 0), 1, 8) := by kernel_rfl
def numsV (l : List Nat) : List Value := l.map fun (n : Nat) => Value.int .i64 (n : Int)
theorem numsV_snoc (l : List Nat) (n : Nat) : numsV (l ++ [n]) = numsV l ++ [.int .i64 n] := by simp [numsV]
theorem numsV_len (l : List Nat) : (numsV l).length = l.length := by simp [numsV]
def ints (l : List Nat) : List Int := l.map fun (n : Nat) => (n : Int)
theorem ints_len (l : List Nat) : (ints l).length = l.length := by simp [ints]
/-- A row of numbers of one's own. -/
def Row (w : World) (B : Nat) (v : Value) (l : List Nat) : Prop := w.ownsRow B 3 1 v l.length (numsV l)
theorem fits_no1 {ds : List Dv} {us : Nat → Bool} {kind : ByteArray} {k : Nat} (h : ¬ (dv ds k).kind = kind) : fits ds us kind k = false := by rw [fits, decide_eq_false h]; rfl
theorem fits_no2 {ds : List Dv} {us : Nat → Bool} {kind : ByteArray} {k : Nat} (h : (dv ds k).sick = true) : fits ds us kind k = false := by rw [fits, h]; simp
theorem fits_no3 {ds : List Dv} {us : Nat → Bool} {kind : ByteArray} {k : Nat} (h : us k = true) : fits ds us kind k = false := by rw [fits, h]; simp
theorem fits_yes {ds : List Dv} {us : Nat → Bool} {kind : ByteArray} {k : Nat} (h : (dv ds k).kind = kind) (h2 : (dv ds k).sick = false) (h3 : us k = false) : fits ds us kind k = true := by rw [fits, h2, h3, decide_eq_true h]; rfl
theorem nearP_of {ds : List Dv} {us : Nat → Bool} {kind : ByteArray} {m k : Nat} {b : Bool} (h : fits ds us kind k = true) (hb : near ds m k = b) : nearP ds us kind m k = b := by rw [nearP, h, hb]; rfl
theorem nearP_no {ds : List Dv} {us : Nat → Bool} {kind : ByteArray} {m k : Nat} (h : fits ds us kind k = false) : nearP ds us kind m k = false := by rw [nearP, h]; rfl
theorem farP_no {ds : List Dv} {us : Nat → Bool} {kind : ByteArray} {m k : Nat} (h : fits ds us kind k = false) : Dvs.farP ds us kind m k = false := by rw [Dvs.farP, h]; rfl
theorem cell_one_new1 (w : World) (o : Obj) (x : Value) (t : TypeId) : ∀ j u, [x][j]? = some u → ((w.alloc o).alloc (.cells #[x] t)).cell? ((⟨w.heap.size + 1, 0, none⟩ : Addr).add j) = some u := by
  have h := cell_one_new (w.alloc o) x t
  rwa [show (w.alloc o).heap.size = w.heap.size + 1 by simp] at h
set_option maxRecDepth 100000 in
set_option maxHeartbeats 2000000 in
theorem ready_any (kind : ByteArray) (M : Nat) (w : World) (pb db : Nat) (ao : Option Addr) (c : Nat) (ds : List Dv) (us : Nat → Bool) (h : PoolAt w pb db ao c ds us) (hN : Nodes ds) (hM : M < 256) :
    Calls Try.prog 95 #[.pointer (some ⟨pb, 0, none⟩), .string kind, .int .u8 M] w fun e w' => ∃ v, e = .returned v ∧ Row w' w.heap.size v (sel (nearP ds us kind M) ds.length) ∧ Below w.heap.size w w' := by
  obtain ⟨i0, hi, hz0, hz1, hz2⟩ := info_parts infoIntD
  have hrow := h.row
  have HN := hideIt hN
  have HP := hideIt h
  clear h hN
  go_enter Try.func95, Try.ntmps95
  go_wp2_with fail
  go_loopw [7, 15] (fun v i wr => ∃ k : Nat, k ≤ ds.length ∧ i = .int .i64 k ∧ Row wr w.heap.size v (sel (nearP ds us kind M) k) ∧ PoolAt wr pb db ao c ds us ∧ Below w.heap.size w wr) (fun _ i _ => ds.length - (intOf i).toNat)
  case atStart => exact ⟨0, by omega, rfl, World.ownsRow_nil _ _ _ _, HP.out, Below.refl _ _⟩
  case round =>
    obtain ⟨k, hk, rfl, hr, hP, hB⟩ := hrel
    by_cases hlt : k < ds.length
    · have hk16 : k < 16 := by have := HN.out.1; omega
      obtain ⟨rfl, hdp, _⟩ := hP.at0 (by omega)
      obtain ⟨c0, c1, c2, _⟩ := hP.cells k hlt
      obtain ⟨n0, n3⟩ := HN.out.2 k hlt
      obtain ⟨m, hm⟩ := Int.eq_ofNat_of_zero_le n0
      have hm4 : m < 4 := by omega
      have H1 := hideIt (fun hh => fits_no1 (us := us) (kind := kind) (k := k) (ds := ds) hh)
      have H2 := hideIt (fun hh => fits_no2 (us := us) (kind := kind) (k := k) (ds := ds) hh)
      have H4 := hideIt (fun h1 h2 h3 => fits_yes (us := us) (kind := kind) (k := k) (ds := ds) h1 h2 h3)
      have HNr : Hid (near ds M k = M.testBit m) := by unfold Hid near; rw [hm]; rfl
      have hS0 := hideIt (fun hh => Dvs.sel_no (p := nearP ds us kind M) (n := k) hh)
      have hS1 := hideIt (fun hh => Dvs.sel_yes (p := nearP ds us kind M) (n := k) hh)
      have hsl := Dvs.sel_le (nearP ds us kind M) k
      rw [hm] at c1
      generalize (dv ds k).kind = xk at *
      generalize (dv ds k).sick = xs at *
      have hB1 := hideIt (hB.alloc hB.size (.cells #[.string xk, .int .i64 m, .bool xs] 50))
      have hP1 := hideIt (hP.alloc (.cells #[.string xk, .int .i64 m, .bool xs] 50))
      have hr1 := hideIt (hr.alloc (.cells #[.string xk, .int .i64 m, .bool xs] 50))
      have hu := (hP1.out.used k hk16).1
      have hsz := hB.size
      clear hr hP hB
      by_cases hkk : xk = kind
      · subst hkk
        rcases two xs with hs | hs
        · subst hs
          have HS : Hid (sel (nearP ds us xk M) (k + 1) = _) := hS0.out (nearP_no (H2.out rfl))
          clear H1 H2 H4 hS0 hS1
          go_wp2_with fail
          go_roundw
          case rel => exact ⟨k + 1, by omega, by go_num, by rw [HS.out]; exact hr1.out, hP1.out, hB1.out⟩
          case measure => simp [intOf]; omega
        · subst hs
          rcases two (us k) with hus | hus
          · have HS : Hid (sel (nearP ds us xk M) (k + 1) = _) := hS0.out (nearP_no (fits_no3 hus))
            rw [hus] at hu
            clear H1 H2 H4 hS0 hS1 hus
            go_wp2_with fail
            go_roundw
            case rel => exact ⟨k + 1, by omega, by go_num, by rw [HS.out]; exact hr1.out, hP1.out, hB1.out⟩
            case measure => simp [intOf]; omega
          · have hft := H4.out rfl rfl hus
            rw [hus] at hu
            have hbit := bitD M m hM
            rcases two (M.testBit m) with hb | hb
            · have HS : Hid (sel (nearP ds us xk M) (k + 1) = _) := hS1.out (nearP_of hft (HNr.out.trans hb))
              rw [hb] at hbit
              clear H1 H2 H4 hS0 hS1 hus hft HNr hb
              go_wp2_with (at_builtin; refine wpList_append_own _ rfl _ _ 57 rfl w.heap.size 3 i0 (.int .i64 0) 1 8 Try.underlying57 hi hz0 hz1 hz2 rfl (by decide) _ _ _ rfl (hr1.out.alloc _) ⟨_, 0, none⟩ 1 1 [.int .i64 k] rfl rfl (cell_one_new1 _ _ _ _) (ints_oneCell .i64 [(k : Int)]) (by unfold maxLen; omega) (by omega) (by simp; omega) ?_; intro v' w1 hown' hgrow' _)
              go_roundw
              case rel =>
                refine ⟨k + 1, by omega, by go_num, ?_, ?_, ?_⟩
                · rw [HS.out, Row, numsV_snoc, List.length_append]; exact hown'
                · refine (hP1.out.alloc _).kept hgrow' (fun e => ?_) (fun h0 e => ?_)
                  · have := (hr1.out.lt pb e.symm).1; have := HP.out.lt; omega
                  · have := (hr1.out.lt db e.symm).1; have := (HP.out.at0 h0).2.2; omega
                · exact (hB1.out.alloc hB1.out.size _).grown hgrow' (by have := hB1.out.size; simp at this ⊢; omega) (fun j hj => (hr1.out.lt j hj).1)
              case measure => simp [intOf]; omega
            · have HS : Hid (sel (nearP ds us xk M) (k + 1) = _) := hS0.out (nearP_of hft (HNr.out.trans hb))
              rw [hb] at hbit
              clear H1 H2 H4 hS0 hS1 hus hft HNr hb
              go_wp2_with fail
              go_roundw
              case rel => exact ⟨k + 1, by omega, by go_num, by rw [HS.out]; exact hr1.out, hP1.out, hB1.out⟩
              case measure => simp [intOf]; omega
      · have HS : Hid (sel (nearP ds us kind M) (k + 1) = _) := hS0.out (nearP_no (H1.out hkk))
        have hkk2 := toList_ne hkk
        clear H1 H2 H4 hS0 hS1 hkk
        go_wp2_with fail
        go_roundw
        case rel => exact ⟨k + 1, by omega, by go_num, by rw [HS.out]; exact hr1.out, hP1.out, hB1.out⟩
        case measure => simp [intOf]; omega
    · have hke : k = ds.length := by omega
      subst hke
      have hr1 := hideIt hr
      have hB1 := hideIt hB
      clear hr hB hP
      go_wp2_with fail
      go_ret
      exact ⟨_, rfl, hr1.out, hB1.out⟩
end Go.Proofs.Ythekalhceamcoaa
