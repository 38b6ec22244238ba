/- What the document's Take answers: a contract. -/
import Derived.Test.YthekalhceamcoaaDTake
namespace Go.Proofs.Ythekalhceamcoaa
open Go.RowKit
open Dvs (Dv dv0 dv nth fits kindP near nearP farP sel ord took usedBy srt takeF Nodes cn got got2)
/-- Where the document's Take stands: those that it has taken. -/
structure TkAt (w wr : World) (pb db : Nat) (ao : Option Addr) (c : Nat) (ds : List Dv) (us : Nat → Bool) (N : Nat) (l : List Nat) : Prop where
  pool : PoolAt wr pb db ao c ds (usedBy us l)
  bits : BitsAt wr N (fun j => decide (j ∈ l))
  grown : w.grownBy wr (some pb)
theorem TkAt.alloc {w wr : World} {pb db : Nat} {ao : Option Addr} {c : Nat} {ds : List Dv} {us : Nat → Bool} {N : Nat} {l : List Nat} (h : TkAt w wr pb db ao c ds us N l) (o : Obj) : TkAt w (wr.alloc o) pb db ao c ds us N l :=
  ⟨h.pool.alloc o, h.bits.alloc o, h.grown.trans (World.grownBy_alloc _ _ _)⟩
theorem TkAt.mid {w wr : World} {pb db : Nat} {ao : Option Addr} {c : Nat} {ds : List Dv} {us : Nat → Bool} {N : Nat} {l : List Nat} (h : TkAt w wr pb db ao c ds us N l) {i : Nat} (hi : i < 16) (hN : N ≠ pb) :
    (wr.setCell ⟨pb, 1 + i, none⟩ (.bool true)).cell? ⟨N, i, none⟩ = some (.bool (decide (i ∈ l))) ∧ (wr.setCell ⟨pb, 1 + i, none⟩ (.bool true)).frozen? ⟨N, i, none⟩ = false := by
  have hg := grown_setCell wr ⟨pb, 1 + i, none⟩ (.bool true)
  exact ⟨(hg.cell_far _ h.bits.lt (by simpa using hN)).trans (h.bits i hi).1, (hg.frozen_far _ h.bits.lt (by simpa using hN)).trans (h.bits i hi).2⟩
theorem TkAt.take {w wr : World} {pb db : Nat} {ao : Option Addr} {c : Nat} {ds : List Dv} {us : Nat → Bool} {N : Nat} {l : List Nat} (h : TkAt w wr pb db ao c ds us N l) {i : Nat} (hi : i < 16) (hN : N ≠ pb) (hNd : 0 < ds.length → N ≠ db) (hNw : w.heap.size ≤ N) :
    TkAt w ((wr.setCell ⟨pb, 1 + i, none⟩ (.bool true)).setCell ⟨N, i, none⟩ (.bool true)) pb db ao c ds us N (l ++ [i]) := by
  have hg := grown_setCell wr ⟨pb, 1 + i, none⟩ (.bool true)
  have hg2 := grown_setCell (wr.setCell ⟨pb, 1 + i, none⟩ (.bool true)) ⟨N, i, none⟩ (.bool true)
  refine ⟨?_, ?_, ?_⟩
  · refine (h.pool.set (vs := usedBy us (l ++ [i])) hi true (fun j _ => ?_)).kept hg2 (by simpa using fun e => hN e.symm) (fun h0 => by simpa using fun e => hNd h0 e.symm)
    rw [Dvs.usedBy_snoc]
    by_cases e : j = i
    · rw [if_pos e, decide_eq_true e, Bool.or_true]
    · rw [if_neg e, decide_eq_false e, Bool.or_false]
  · refine (h.bits.kept hg (by simpa using hN)).set hi true (fun j _ => ?_)
    by_cases e : j = i
    · subst e; simp
    · simp [e]
  · exact grown_then (h.grown.trans hg) hg2 (fun j hj => by left; cases hj; exact hNw)
theorem TkAt.start {w wr : World} {pb db : Nat} {ao : Option Addr} {c : Nat} {ds : List Dv} {us : Nat → Bool} (h : PoolAt wr pb db ao c ds us) (hb : Below w.heap.size w wr) (t : TypeId) : TkAt w (wr.alloc (.cells (bitsV fun _ => false) t)) pb db ao c ds us wr.heap.size [] :=
  ⟨by rw [Dvs.usedBy_nil]; exact h.alloc _, by have := BitsAt.made wr t (fun _ => false); simpa using this, (grown_below hb _).trans (World.grownBy_alloc _ _ _)⟩
/-- How many rounds it has made, and what it has taken then. -/
def stage (ds : List Dv) (us : Nat → Bool) (kind : ByteArray) (m many : Nat) : Nat → List Nat
  | 0 => []
  | 1 => got ds us kind m many ds.length
  | _ => took ds us kind m many
set_option maxRecDepth 100000 in
set_option maxHeartbeats 2000000 in
theorem refTake_neg (kind : ByteArray) (many : Int) (m : Nat) (w : World) (pb : Nat) (h : many < 0) :
    Calls Try.prog 30 #[.pointer (some ⟨pb, 0, none⟩), .string kind, .int .i64 many, .int .u8 m] w fun e w' => e = .returned (.tuple #[.slice none 0 0, .int .i64 1]) ∧ w' = w := by
  go_enter Try.func30, Try.ntmps30
  go_wp2_with fail
  go_ret2
  exact ⟨rfl, rfl⟩
set_option maxRecDepth 100000 in
set_option maxHeartbeats 4000000 in
theorem refTake_pos (kind : ByteArray) (many m : Nat) (w : World) (pb db : Nat) (ao : Option Addr) (c : Nat) (ds : List Dv) (us : Nat → Bool) (h : PoolAt w pb db ao c ds us) (hN : Nodes ds) (hm : m < 256) :
    Calls Try.prog 30 #[.pointer (some ⟨pb, 0, none⟩), .string kind, .int .i64 many, .int .u8 m] w fun e w' => Took (fun n => .int .i64 n) w pb db ao c ds us kind m many e w' := by
  have HR1 := hideIt (refCount_anyD kind w pb db ao c ds us h hN)
  have hsum := Dvs.cn_sum (p := fits ds us kind) hN (Nat.le_refl ds.length)
  have HP := hideIt h
  have HN := hideIt hN
  have hdm : decide ((many : Int) < 0) = false := by simp
  have q0 := Dvs.cn_le (fits ds us kind) ds 0 ds.length
  have q1 := Dvs.cn_le (fits ds us kind) ds 1 ds.length
  have q2 := Dvs.cn_le (fits ds us kind) ds 2 ds.length
  have q3 := Dvs.cn_le (fits ds us kind) ds 3 ds.length
  have h16 := hN.1
  have HTF : Hid (takeF ds us kind many = if ((sel (fits ds us kind) ds.length).length : Int) < many then 9 else 0) := by unfold Hid takeF; rw [if_neg (by omega)]
  unfold fourV at HR1
  simp only at HR1
  clear h hN
  generalize cn (fits ds us kind) ds 0 ds.length = n0 at *
  generalize cn (fits ds us kind) ds 1 ds.length = n1 at *
  generalize cn (fits ds us kind) ds 2 ds.length = n2 at *
  generalize cn (fits ds us kind) ds 3 ds.length = n3 at *
  generalize cn (kindP ds kind) ds 0 ds.length = m0 at *
  generalize cn (kindP ds kind) ds 1 ds.length = m1 at *
  generalize cn (kindP ds kind) ds 2 ds.length = m2 at *
  generalize cn (kindP ds kind) ds 3 ds.length = m3 at *
  by_cases hf : (sel (fits ds us kind) ds.length).length < many
  · have HTF1 : Hid (takeF ds us kind many = 9) := HTF.out.trans (if_pos (by omega))
    have hf2 : ((n0 : Int) + n1 + n2 + n3) < many := by omega
    clear HTF hf
    go_enter Try.func30, Try.ntmps30
    go_wp2_with fail
    refine HR1.out.mono ?_
    rintro e w1 ⟨rfl, hb1⟩
    have HB1 := hideIt ((hb1.alloc hb1.size (.cells #[.int .i64 n0, .int .i64 n1, .int .i64 n2, .int .i64 n3] 76)).alloc (by have := hb1.size; simp; omega) (.cells #[.int .i64 m0, .int .i64 m1, .int .i64 m2, .int .i64 m3] 76))
    clear hb1
    go_wp2_with fail
    go_ret2
    exact Took.wrong HTF1.out (by decide) rfl HB1.out
  · have HTF1 : Hid (takeF ds us kind many = 0) := HTF.out.trans (if_neg (by omega))
    have hf2 : many ≤ ((n0 : Int) + n1 + n2 + n3) := by omega
    have hdec : decide (((n0 : Int) + n1 + n2 + n3) < many) = false := decide_eq_false (by omega)
    have hmany : many ≤ 16 := by have := Dvs.sel_le (fits ds us kind) ds.length; omega
    obtain ⟨i0, hi, hz0, hz1, hz2⟩ := info_parts infoIntD
    clear HTF hf hf2
    go_enter Try.func30, Try.ntmps30
    go_wp2_with fail
    refine HR1.out.mono ?_
    rintro e w1 ⟨rfl, hb1⟩
    have hB1 := ((hb1.alloc hb1.size (.cells #[.int .i64 n0, .int .i64 n1, .int .i64 n2, .int .i64 n3] 76)).alloc (by have := hb1.size; simp; omega) (.cells #[.int .i64 m0, .int .i64 m1, .int .i64 m2, .int .i64 m3] 76))
    have HT0 := hideIt (TkAt.start (HP.out.below hB1) hB1 73)
    rw [show ((w1.alloc (.cells #[.int .i64 n0, .int .i64 n1, .int .i64 n2, .int .i64 n3] 76)).alloc (.cells #[.int .i64 m0, .int .i64 m1, .int .i64 m2, .int .i64 m3] 76)).heap.size = w1.heap.size + 1 + 1 by simp] at HT0
    unfold bitsV at HT0
    have hsz := hb1.size
    have hNp : Hid (w1.heap.size + 1 + 1 ≠ pb ∧ (0 < ds.length → w1.heap.size + 1 + 1 ≠ db) ∧ w.heap.size ≤ w1.heap.size + 1 + 1) := ⟨by have := HP.out.lt; omega, fun h0 => by have := (HP.out.at0 h0).2.2; omega, by omega⟩
    clear hb1 hB1
    go_wp2_with fail
    go_loopw [13, 14] (fun lf r wr => ∃ q f : Nat, q ≤ 2 ∧ r = .int .i64 q ∧ lf = .int .i64 f ∧ Hid (f + (stage ds us kind m many q).length = many) ∧ TkAt w wr pb db ao c ds us (w1.heap.size + 1 + 1) (stage ds us kind m many q)) (fun _ r _ => 2 - (intOf r).toNat)
    case atStart => exact ⟨0, many, by omega, rfl, rfl, by unfold Hid; simp [stage], HT0.out⟩
    case round =>
      obtain ⟨q, f, hq, hr0, rfl, HF0, hT⟩ := hrel
      have key : q = 0 ∨ q = 1 ∨ q = 2 := by omega
      have HT := hideIt hT
      have hrow := hT.pool.row
      clear hT
      rcases key with rfl | rfl | rfl
      · have hr1 : u14 = Value.int .i64 0 := hr0
        subst hr1
        clear hr0
        go_wp2_with fail
        go_loopw [13, 15] (fun lf i wr => ∃ k f : Nat, k ≤ ds.length ∧ i = .int .i64 k ∧ lf = .int .i64 f ∧ Hid (f + (got ds us kind m many k).length = many) ∧ TkAt w wr pb db ao c ds us (w1.heap.size + 1 + 1) (got ds us kind m many k)) (fun _ i _ => ds.length - (intOf i).toNat)
        case atStart => exact ⟨0, f, by omega, rfl, rfl, by unfold Hid; rw [Dvs.got_nil]; exact HF0.out, by rw [Dvs.got_nil]; exact HT.out⟩
        case round =>
          clear HF0 HT hrow
          obtain ⟨k, f, hk, rfl, rfl, HF, hT⟩ := hrel
          have hrow := hT.pool.row
          by_cases hlt : k < ds.length
          · by_cases hf0 : 0 < f
            · have hk16 : k < 16 := by omega
              have hf16 : f ≤ 16 := by have := HF.out; omega
              have HFl : Hid ((got ds us kind m many k).length < many) := by unfold Hid; have := HF.out; omega
              obtain ⟨hae, hdp, _⟩ := hT.pool.at0 (by omega)
              obtain ⟨c0, c1, c2, _⟩ := hT.pool.cells k hlt
              obtain ⟨p0, p3⟩ := HN.out.2 k hlt
              obtain ⟨nd, hnd⟩ := Int.eq_ofNat_of_zero_le p0
              have hnd4 : nd < 4 := by omega
              have H1 := hideIt (fun hh => fits_no1 (us := us) (kind := kind) (k := k) (ds := ds) hh)
              have H2 := hideIt (fun hh => fits_no2 (us := us) (kind := kind) (k := k) (ds := ds) hh)
              have H4 := hideIt (fun h1 h2 h3 => fits_yes (us := us) (kind := kind) (k := k) (ds := ds) h1 h2 h3)
              have HKP : Hid (kindP ds kind k = (decide ((dv ds k).kind = kind) && !(dv ds k).sick)) := rfl
              have HNr : Hid (near ds m k = m.testBit nd) := by unfold Hid near; rw [hnd]; rfl
              have hbit := bitD m nd hm
              rw [hnd] at c1
              generalize (dv ds k).kind = xk at *
              generalize (dv ds k).sick = xs at *
              have HT1 := hideIt (hT.alloc (.cells #[.string xk, .int .i64 nd, .bool xs] 50))
              have hu := (HT1.out.pool.used k hk16).1
              have hrow1 := HT1.out.pool.row
              clear hT
              rcases two (m.testBit nd) with hb | hb
              all_goals rw [hb] at hbit HNr
              · by_cases hkk : xk = kind
                · subst hkk
                  rcases two xs with hs | hs
                  · subst hs
                    have HS : Hid (Dvs.got ds us xk m many (k + 1) = Dvs.got ds us xk m many k) := Dvs.got_no (nearP_no (H2.out rfl))
                    clear H1 H2 H4 HKP HNr hb HFl
                    go_wp2_with fail
                    go_roundw
                    case rel => exact ⟨k + 1, f, by omega, by go_num, rfl, by rw [HS.out]; exact HF, by rw [HS.out]; exact HT1.out⟩
                    case measure => simp [intOf]; omega
                  · subst hs
                    rw [Dvs.used_first] at hu
                    rcases two (us k) with hus | hus
                    · have HS : Hid (Dvs.got ds us xk m many (k + 1) = Dvs.got ds us xk m many k) := Dvs.got_no (nearP_no (fits_no3 hus))
                      rw [hus] at hu
                      clear H1 H2 H4 HKP HNr hb HFl hus
                      go_wp2_with fail
                      go_roundw
                      case rel => exact ⟨k + 1, f, by omega, by go_num, rfl, by rw [HS.out]; exact HF, by rw [HS.out]; exact HT1.out⟩
                      case measure => simp [intOf]; omega
                    · have hft := H4.out rfl rfl hus
                      rw [hus] at hu
                      have HS : Hid (Dvs.got ds us xk m many (k + 1) = Dvs.got ds us xk m many k ++ [k]) := Dvs.got_yes HFl.out (nearP_of hft HNr.out)
                      obtain ⟨e1, e2⟩ := HT1.out.mid hk16 hNp.out.1
                      have HT2 := hideIt (HT1.out.take hk16 hNp.out.1 hNp.out.2.1 hNp.out.2.2)
                      have hz := (HT1.out.pool.used k hk16).2
                      clear H1 H2 H4 HKP HNr hb HFl hus hft
                      go_wp2_with fail
                      go_roundw
                      case rel => exact ⟨k + 1, f - 1, by omega, by go_num, by go_num, by unfold Hid; rw [HS.out, List.length_append, List.length_singleton]; have := HF.out; omega, by rw [HS.out]; exact HT2.out⟩
                      case measure => simp [intOf]; omega
                · have hkk2 := toList_ne hkk
                  have HS : Hid (Dvs.got ds us kind m many (k + 1) = Dvs.got ds us kind m many k) := Dvs.got_no (nearP_no (H1.out hkk))
                  clear H1 H2 H4 HKP HNr hb HFl hkk
                  go_wp2_with fail
                  go_roundw
                  case rel => exact ⟨k + 1, f, by omega, by go_num, rfl, by rw [HS.out]; exact HF, by rw [HS.out]; exact HT1.out⟩
                  case measure => simp [intOf]; omega
              · by_cases hkk : xk = kind
                · subst hkk
                  rcases two xs with hs | hs
                  · subst hs
                    have HS : Hid (Dvs.got ds us xk m many (k + 1) = Dvs.got ds us xk m many k) := Dvs.got_no (nearP_no (H2.out rfl))
                    clear H1 H2 H4 HKP HNr hb HFl
                    go_wp2_with fail
                    go_roundw
                    case rel => exact ⟨k + 1, f, by omega, by go_num, rfl, by rw [HS.out]; exact HF, by rw [HS.out]; exact HT1.out⟩
                    case measure => simp [intOf]; omega
                  · subst hs
                    rw [Dvs.used_first] at hu
                    rcases two (us k) with hus | hus
                    · have HS : Hid (Dvs.got ds us xk m many (k + 1) = Dvs.got ds us xk m many k) := Dvs.got_no (nearP_no (fits_no3 hus))
                      rw [hus] at hu
                      clear H1 H2 H4 HKP HNr hb HFl hus
                      go_wp2_with fail
                      go_roundw
                      case rel => exact ⟨k + 1, f, by omega, by go_num, rfl, by rw [HS.out]; exact HF, by rw [HS.out]; exact HT1.out⟩
                      case measure => simp [intOf]; omega
                    · have hft := H4.out rfl rfl hus
                      have HS : Hid (Dvs.got ds us xk m many (k + 1) = Dvs.got ds us xk m many k) := Dvs.got_no (nearP_of hft HNr.out)
                      rw [hus] at hu
                      clear H1 H2 H4 HKP HNr hb HFl hus hft
                      go_wp2_with fail
                      go_roundw
                      case rel => exact ⟨k + 1, f, by omega, by go_num, rfl, by rw [HS.out]; exact HF, by rw [HS.out]; exact HT1.out⟩
                      case measure => simp [intOf]; omega
                · have hkk2 := toList_ne hkk
                  have HS : Hid (Dvs.got ds us kind m many (k + 1) = Dvs.got ds us kind m many k) := Dvs.got_no (nearP_no (H1.out hkk))
                  clear H1 H2 H4 HKP HNr hb HFl hkk
                  go_wp2_with fail
                  go_roundw
                  case rel => exact ⟨k + 1, f, by omega, by go_num, rfl, by rw [HS.out]; exact HF, by rw [HS.out]; exact HT1.out⟩
                  case measure => simp [intOf]; omega
            · have hfe : f = 0 := by omega
              subst hfe
              have HE : Hid (stage ds us kind m many 1 = got ds us kind m many k) := by
                unfold Hid
                rw [← Dvs.got_full (by omega) (by have := HF.out; omega)]
                rfl
              have HT1 := hideIt hT
              clear hT
              go_wp2_with fail
              go_roundw
              case rel => exact ⟨1, 0, by omega, rfl, rfl, by unfold Hid; rw [HE.out]; exact HF.out, by rw [HE.out]; exact HT1.out⟩
              case measure => simp [intOf]
          · have hke : k = ds.length := by omega
            subst hke
            have HT1 := hideIt hT
            clear hT
            go_wp2_with fail
            go_roundw
            case rel => exact ⟨1, f, by omega, rfl, rfl, HF, HT1.out⟩
            case measure => simp [intOf]
      · have hr1 : u14 = Value.int .i64 1 := hr0
        subst hr1
        clear hr0
        go_wp2_with fail
        go_loopw [13, 15] (fun lf i wr => ∃ k f : Nat, k ≤ ds.length ∧ i = .int .i64 k ∧ lf = .int .i64 f ∧ Hid (f + (got2 ds us kind m many k).length = many) ∧ TkAt w wr pb db ao c ds us (w1.heap.size + 1 + 1) (got2 ds us kind m many k)) (fun _ i _ => ds.length - (intOf i).toNat)
        case atStart => exact ⟨0, f, by omega, rfl, rfl, by unfold Hid; rw [← Dvs.got_end]; exact HF0.out, by rw [← Dvs.got_end]; exact HT.out⟩
        case round =>
          clear HF0 HT hrow
          obtain ⟨k, f, hk, rfl, rfl, HF, hT⟩ := hrel
          have hrow := hT.pool.row
          by_cases hlt : k < ds.length
          · by_cases hf0 : 0 < f
            · have hk16 : k < 16 := by omega
              have hf16 : f ≤ 16 := by have := HF.out; omega
              have HFl : Hid ((got2 ds us kind m many k).length < many) := by unfold Hid; have := HF.out; omega
              obtain ⟨hae, hdp, _⟩ := hT.pool.at0 (by omega)
              obtain ⟨c0, c1, c2, _⟩ := hT.pool.cells k hlt
              obtain ⟨p0, p3⟩ := HN.out.2 k hlt
              obtain ⟨nd, hnd⟩ := Int.eq_ofNat_of_zero_le p0
              have hnd4 : nd < 4 := by omega
              have H1 := hideIt (fun hh => fits_no1 (us := us) (kind := kind) (k := k) (ds := ds) hh)
              have H2 := hideIt (fun hh => fits_no2 (us := us) (kind := kind) (k := k) (ds := ds) hh)
              have H4 := hideIt (fun h1 h2 h3 => fits_yes (us := us) (kind := kind) (k := k) (ds := ds) h1 h2 h3)
              have HKP : Hid (kindP ds kind k = (decide ((dv ds k).kind = kind) && !(dv ds k).sick)) := rfl
              have HNr : Hid (near ds m k = m.testBit nd) := by unfold Hid near; rw [hnd]; rfl
              have hbit := bitD m nd hm
              rw [hnd] at c1
              generalize (dv ds k).kind = xk at *
              generalize (dv ds k).sick = xs at *
              have HT1 := hideIt (hT.alloc (.cells #[.string xk, .int .i64 nd, .bool xs] 50))
              have hu := (HT1.out.pool.used k hk16).1
              have hrow1 := HT1.out.pool.row
              clear hT
              rcases two (m.testBit nd) with hb | hb
              all_goals rw [hb] at hbit HNr
              · by_cases hkk : xk = kind
                · subst hkk
                  rcases two xs with hs | hs
                  · subst hs
                    have HS : Hid (Dvs.got2 ds us xk m many (k + 1) = Dvs.got2 ds us xk m many k) := Dvs.got2_no (farP_no (H2.out rfl))
                    clear H1 H2 H4 HKP HNr hb HFl
                    go_wp2_with fail
                    go_roundw
                    case rel => exact ⟨k + 1, f, by omega, by go_num, rfl, by rw [HS.out]; exact HF, by rw [HS.out]; exact HT1.out⟩
                    case measure => simp [intOf]; omega
                  · subst hs
                    have hkp : kindP ds xk k = true := by rw [HKP.out]; simp
                    rw [Dvs.used_second hlt HFl.out hkp] at hu
                    rcases two (farP ds us xk m k) with hfp | hfp
                    · exact absurd hfp (by rw [farP, HNr.out]; simp)
                    · have HS : Hid (Dvs.got2 ds us xk m many (k + 1) = Dvs.got2 ds us xk m many k) := Dvs.got2_no hfp
                      rw [hfp] at hu
                      clear H1 H2 H4 HKP HNr hb HFl hkp hfp
                      go_wp2_with fail
                      go_roundw
                      case rel => exact ⟨k + 1, f, by omega, by go_num, rfl, by rw [HS.out]; exact HF, by rw [HS.out]; exact HT1.out⟩
                      case measure => simp [intOf]; omega
                · have hkk2 := toList_ne hkk
                  have HS : Hid (Dvs.got2 ds us kind m many (k + 1) = Dvs.got2 ds us kind m many k) := Dvs.got2_no (farP_no (H1.out hkk))
                  clear H1 H2 H4 HKP HNr hb HFl hkk
                  go_wp2_with fail
                  go_roundw
                  case rel => exact ⟨k + 1, f, by omega, by go_num, rfl, by rw [HS.out]; exact HF, by rw [HS.out]; exact HT1.out⟩
                  case measure => simp [intOf]; omega
              · by_cases hkk : xk = kind
                · subst hkk
                  rcases two xs with hs | hs
                  · subst hs
                    have HS : Hid (Dvs.got2 ds us xk m many (k + 1) = Dvs.got2 ds us xk m many k) := Dvs.got2_no (farP_no (H2.out rfl))
                    clear H1 H2 H4 HKP HNr hb HFl
                    go_wp2_with fail
                    go_roundw
                    case rel => exact ⟨k + 1, f, by omega, by go_num, rfl, by rw [HS.out]; exact HF, by rw [HS.out]; exact HT1.out⟩
                    case measure => simp [intOf]; omega
                  · subst hs
                    have hkp : kindP ds xk k = true := by rw [HKP.out]; simp
                    rw [Dvs.used_second hlt HFl.out hkp] at hu
                    rcases two (farP ds us xk m k) with hfp | hfp
                    · rw [hfp] at hu
                      have HS : Hid (Dvs.got2 ds us xk m many (k + 1) = Dvs.got2 ds us xk m many k ++ [k]) := Dvs.got2_yes HFl.out hfp
                      obtain ⟨e1, e2⟩ := HT1.out.mid hk16 hNp.out.1
                      have HT2 := hideIt (HT1.out.take hk16 hNp.out.1 hNp.out.2.1 hNp.out.2.2)
                      have hz := (HT1.out.pool.used k hk16).2
                      clear H1 H2 H4 HKP HNr hb HFl hkp hfp
                      go_wp2_with fail
                      go_roundw
                      case rel => exact ⟨k + 1, f - 1, by omega, by go_num, by go_num, by unfold Hid; rw [HS.out, List.length_append, List.length_singleton]; have := HF.out; omega, by rw [HS.out]; exact HT2.out⟩
                      case measure => simp [intOf]; omega
                    · have HS : Hid (Dvs.got2 ds us xk m many (k + 1) = Dvs.got2 ds us xk m many k) := Dvs.got2_no hfp
                      rw [hfp] at hu
                      clear H1 H2 H4 HKP HNr hb HFl hkp hfp
                      go_wp2_with fail
                      go_roundw
                      case rel => exact ⟨k + 1, f, by omega, by go_num, rfl, by rw [HS.out]; exact HF, by rw [HS.out]; exact HT1.out⟩
                      case measure => simp [intOf]; omega
                · have hkk2 := toList_ne hkk
                  have HS : Hid (Dvs.got2 ds us kind m many (k + 1) = Dvs.got2 ds us kind m many k) := Dvs.got2_no (farP_no (H1.out hkk))
                  clear H1 H2 H4 HKP HNr hb HFl hkk
                  go_wp2_with fail
                  go_roundw
                  case rel => exact ⟨k + 1, f, by omega, by go_num, rfl, by rw [HS.out]; exact HF, by rw [HS.out]; exact HT1.out⟩
                  case measure => simp [intOf]; omega
            · have hfe : f = 0 := by omega
              subst hfe
              have HE : Hid (stage ds us kind m many 2 = got2 ds us kind m many k) := by
                unfold Hid
                rw [← Dvs.got2_full (by omega) (by have := HF.out; omega)]
                rfl
              have HT1 := hideIt hT
              clear hT
              go_wp2_with fail
              go_roundw
              case rel => exact ⟨2, 0, by omega, rfl, rfl, by unfold Hid; rw [HE.out]; exact HF.out, by rw [HE.out]; exact HT1.out⟩
              case measure => simp [intOf]
          · have hke : k = ds.length := by omega
            subst hke
            have HT1 := hideIt hT
            clear hT
            go_wp2_with fail
            go_roundw
            case rel => exact ⟨2, f, by omega, rfl, rfl, HF, HT1.out⟩
            case measure => simp [intOf]
      · have hr1 : u14 = Value.int .i64 2 := hr0
        subst hr1
        clear hr0
        have HT2 : Hid (TkAt w wr pb db ao c ds us (w1.heap.size + 1 + 1) (took ds us kind m many)) := HT.out
        clear HT HF0 hrow
        go_wp2_with fail
        go_loopw [18, 19] (fun v i wr => ∃ k : Nat, k ≤ 16 ∧ i = .int .i64 k ∧ TkAt w wr pb db ao c ds us (w1.heap.size + 1 + 1) (took ds us kind m many) ∧ Row wr (w1.heap.size + 1 + 1 + 1) v (sel (fun j => decide (j ∈ took ds us kind m many)) k) ∧ w1.heap.size + 1 + 1 + 1 ≤ wr.heap.size) (fun _ i _ => 16 - (intOf i).toNat)
        case atStart => exact ⟨0, by omega, rfl, HT2.out, World.ownsRow_nil _ _ _ _, HT2.out.bits.lt⟩
        case round =>
          clear HT2
          obtain ⟨k, hk, rfl, hT, hr, hwz⟩ := hrel
          by_cases hlt : k < 16
          · have hbk : _ = some (Value.bool (decide (k ∈ took ds us kind m many))) := (hT.bits k hlt).1
            have hS0 := hideIt (fun hh => Dvs.sel_no (p := fun j => decide (j ∈ took ds us kind m many)) (n := k) hh)
            have hS1 := hideIt (fun hh => Dvs.sel_yes (p := fun j => decide (j ∈ took ds us kind m many)) (n := k) hh)
            have hsl := Dvs.sel_le (fun j => decide (j ∈ took ds us kind m many)) k
            have HT1 := hideIt hT
            have hr1 := hideIt hr
            clear hT hr
            rcases two (decide (k ∈ took ds us kind m many)) with hd | hd
            · have HS := hideIt (hS1.out hd)
              rw [hd] at hbk
              clear hS0 hS1 hd
              go_wp2_with (at_builtin; refine wpList_append_own _ rfl _ _ 57 rfl (w1.heap.size + 1 + 1 + 1) 3 i0 (.int .i64 0) 1 8 Try.underlying57 hi hz0 hz1 hz2 rfl (by decide) _ _ _ rfl (hr1.out.alloc _) ⟨_, 0, none⟩ 1 1 [.int .i64 k] rfl rfl (cell_one_new _ _ _) (ints_oneCell .i64 [(k : Int)]) (by unfold maxLen; omega) (by omega) (by simp; omega) ?_; intro v' w2 hown' hgrow' _)
              go_roundw
              case rel =>
                have hne : ∀ x, x < w1.heap.size + 1 + 1 + 1 → some x ≠ u18.ownBlock := fun x hx e => by have := (hr1.out.lt x e.symm).1; omega
                have hg := (World.grownBy_alloc wr (.cells #[.int .i64 k] 3) u18.ownBlock).trans hgrow'
                refine ⟨k + 1, by omega, by go_num, ⟨HT1.out.pool.kept hg (hne pb (by have := HP.out.lt; omega)) (fun h0 => hne db (by have := (HP.out.at0 h0).2.2; omega)), HT1.out.bits.kept hg (hne _ (by omega)), grown_then HT1.out.grown hg (fun j hj => by left; have := (hr1.out.lt j hj).1; omega)⟩, ?_, Nat.le_trans hwz hg.size⟩
                rw [HS.out, Row, numsV_snoc, List.length_append]
                exact hown'
              case measure => simp [intOf]; omega
            · have HS := hideIt (hS0.out hd)
              rw [hd] at hbk
              clear hS0 hS1 hd
              go_wp2_with fail
              go_roundw
              case rel => exact ⟨k + 1, by omega, by go_num, HT1.out, by rw [HS.out]; exact hr1.out, hwz⟩
              case measure => simp [intOf]; omega
          · have hke : k = 16 := by omega
            subst hke
            have HT1 := hideIt hT
            obtain ⟨g5, hn5, hge5⟩ := hr.nums
            have HN5 := hideIt (And.intro hn5 hge5)
            clear hT hr hn5 hge5
            go_wp2_with fail
            go_ret2
            refine ⟨fun hh => absurd HTF1.out hh, fun _ => ⟨_, g5, rfl, HN5.out.1, fun h0 => ?_, HT1.out.pool⟩, HT1.out.grown⟩
            have := HN5.out.2 h0
            omega
end Go.Proofs.Ythekalhceamcoaa
