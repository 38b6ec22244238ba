/- VR1, VT1, QW3, Words, ReadSet, SetText, QW4, QW5, VR2, VY1, QW6 -/
import Derived.Test.YtlljniaobbbjgaaGreatDoorU4
import Derived.Laws.ResultCell
import Derived.Deep.RegionHeld3
import Derived.Test.YtlljniaobbbjgaaGreatDoorU3
import Derived.Test.YtlljniaobbbjgaaGreatDoorU2
namespace Go.Proofs.YtlljniaobbbjgaaGreatDoor
open Go.RowKit
open Qos (Nd Ct Pd nd ct pd)
open Ost (good val cut1 parseOut)
open S1 (Mx)
def nOf (l : List UInt8) : Int := if good 16 l = true then val l else 0
def gOf (l : List UInt8) : Bool := good 16 l
theorem readOut_n (l : List UInt8) : readOut 16 l = .tuple #[.int .i64 (nOf l), .bool (gOf l)] := by
  unfold readOut nOf gOf
  rcases two (good 16 l) with h | h <;> simp [h]
theorem numS_n (l : List UInt8) : Sv.numS l = if gOf l = true then some (nOf l) else none := by
  unfold Sv.numS nOf gOf
  rcases two (good 16 l) with h | h <;> simp [h]
theorem readNumber_any (s : ByteArray) (w : World) (hs : s.size ≤ maxLen) :
    Calls Tryz.prog 92 #[.string s] w fun e w' => e = .returned (.tuple #[.int .i64 (nOf s.data.toList), .bool (gOf s.data.toList)]) ∧ w' = w := by
  have HR := hideIt (read_any s 16 w hs)
  rw [readOut_n] at HR
  go_enter Tryz.func92, Tryz.ntmps92
  go_wp2_with fail
  refine HR.out.mono ?_
  rintro e w1 ⟨rfl, rfl⟩
  go_wp2_with fail
  go_ret2
  exact ⟨rfl, rfl⟩
set_option maxHeartbeats 400000 in
theorem readAmount_any (s r : ByteArray) (w : World) (hs : s.size ≤ maxLen) (hr : r.size ≤ maxLen) :
    Calls Tryz.prog 93 #[.string s, .string r] w fun e w' => e = .returned (.tuple #[.agg #[.int .i64 (nOf s.data.toList), .int .i64 (nOf r.data.toList)], .bool (gOf s.data.toList && gOf r.data.toList)]) ∧ Below w.heap.size w w' := by
  have HA := hideIt (fun W => readNumber_any s W hs)
  have HC := hideIt (fun W => readNumber_any r W hr)
  have HB := hideIt ((Below.refl w.heap.size w).alloc (Nat.le_refl _) (.cells #[.int .i64 (nOf s.data.toList), .int .i64 (nOf r.data.toList)] 53))
  generalize nOf s.data.toList = a at *
  generalize nOf r.data.toList = b at *
  generalize gOf s.data.toList = p at *
  generalize gOf r.data.toList = q at *
  rcases two p with rfl | rfl
  all_goals
    go_enter Tryz.func93, Tryz.ntmps93
    go_wp2_with fail
    refine (HA.out _).mono ?_
    rintro e w1 ⟨rfl, rfl⟩
    go_wp2_with fail
    refine (HC.out _).mono ?_
    rintro e w1 ⟨rfl, rfl⟩
    go_wp2_with fail
    (try simp only [Exit.inBlock, Exit.then])
    refine bodyPost_ret (v := .tuple #[.agg #[.int .i64 a, .int .i64 b], _]) ?_ rfl ⟨rfl, HB.out⟩
    rw [results_cell_tmp rfl]
    go_simp
theorem below_drewNR {B : Nat} {a w : World} (h : Below B a w) (n : Nat) : Below B a (w.drewN n) := ⟨h.os, h.tape, h.output, h.size, h.block⟩
set_option maxHeartbeats 400000 in
theorem readNeed_any (s : ByteArray) (w : World) (hs : s.size < 4294967281) (hm : Mx w) :
    Calls Tryz.prog 95 #[.string s] w fun e w' => e = .returned (.tuple #[.agg #[.string ⟨(cut1 58 s.data.toList).1.toArray⟩, .int .i64 (nOf (cut1 58 s.data.toList).2.1)], .bool (gOf (cut1 58 s.data.toList).2.1)]) ∧ Below w.heap.size w w' := by
  have HB0 := hideIt ((Below.refl w.heap.size w).alloc (Nat.le_refl _) (.cells #[.string ⟨#[]⟩, .int .i64 0] 115))
  have HC := hideIt (S1.cut_any s 58 _ hs (hm.below HB0.out))
  have hle := (S1.cut1_le 58 s.data.toList).2
  have hsz : s.data.toList.length = s.size := by simp
  generalize (cut1 58 s.data.toList).2.2 = fl at *
  generalize (cut1 58 s.data.toList).2.1 = b at *
  generalize (cut1 58 s.data.toList).1 = a at *
  have HN := hideIt (fun W => readNumber_any ⟨b.toArray⟩ W (by unfold maxLen; show b.length ≤ _; omega))
  have e0 : (ByteArray.mk b.toArray).data.toList = b := by simp
  rw [e0] at HN
  clear hm hle hsz e0
  generalize nOf b = n at *
  generalize gOf b = g at *
  go_enter Tryz.func95, Tryz.ntmps95
  go_wp2_with fail
  refine HC.out.mono ?_
  rintro e w1 ⟨rfl, m, rfl⟩
  go_wp2_with fail
  refine (HN.out _).mono ?_
  rintro e w1 ⟨rfl, rfl⟩
  go_wp2_with fail
  (try simp only [Exit.inBlock, Exit.then])
  refine bodyPost_ret (v := .tuple #[.agg #[.string ⟨a.toArray⟩, .int .i64 n], .bool g]) ?_ rfl ⟨rfl, ((below_drewNR HB0.out m).setCell (p := ⟨w.heap.size, 0, none⟩) (Nat.le_refl _) _).setCell (p := ⟨w.heap.size, 1, none⟩) (Nat.le_refl _) _⟩
  rw [results_cell_tmp rfl]
  go_simp
def cpOf (l : List UInt8) : Nat := if l = [45] then 0 else (parseOut l).1
def cgOf (l : List UInt8) : Bool := decide (l = [45]) || decide ((parseOut l).2 = 0)
theorem cpusOf_n (l : List UInt8) : Sv.cpusOf l = if cgOf l = true then some (cpOf l) else none := by
  unfold Sv.cpusOf cgOf cpOf
  by_cases h : l = [45]
  · simp [h]
  · by_cases h2 : (parseOut l).2 = 0 <;> simp [h, h2]
theorem dash_eq (s : ByteArray) : (s.toList == [45]) = decide (s.data.toList = [45]) := by
  rw [ByteArray.toList_eq]
  by_cases h : s.data.toList = [45] <;> simp [h]
set_option maxHeartbeats 400000 in
theorem readCPUs_any (s : ByteArray) (w : World) (hs : s.size ≤ maxLen) (hm : Mx w) :
    Calls Tryz.prog 96 #[.string s] w fun e w' => e = .returned (.tuple #[.int .u64 (cpOf s.data.toList : Nat), .bool (cgOf s.data.toList)]) ∧ Below w.heap.size w w' := by
  have hq := dash_eq s
  by_cases h : s.data.toList = [45]
  · have HE : Hid (cpOf s.data.toList = 0 ∧ cgOf s.data.toList = true) := by unfold Hid cpOf cgOf; simp [h]
    rw [decide_eq_true h] at hq
    rw [HE.out.1, HE.out.2]
    go_enter Tryz.func96, Tryz.ntmps96
    go_wp2_with fail
    go_ret2
    exact ⟨rfl, Below.refl _ _⟩
  · rw [decide_eq_false h] at hq
    have HE : Hid (cpOf s.data.toList = (parseOut s.data.toList).1 ∧ cgOf s.data.toList = decide ((parseOut s.data.toList).2 = 0)) := by unfold Hid cpOf cgOf; simp [h]
    have HP := hideIt (S1.parse_any s w hs hm)
    unfold S1.setErr at HP
    rw [HE.out.1, HE.out.2]
    clear HE hm
    generalize (parseOut s.data.toList).1 = A at *
    by_cases h0 : (parseOut s.data.toList).2 = 0
    · have e0 : S1.errV (parseOut s.data.toList).2 = .nilIface := by rw [h0]; rfl
      rw [e0] at HP
      rw [decide_eq_true h0]
      go_enter Tryz.func96, Tryz.ntmps96
      go_wp2_with fail
      refine HP.out.mono ?_
      rintro e w1 ⟨rfl, hb⟩
      go_wp2_with fail
      go_quiet (fail)
      go_wp2_with fail
      go_ret2
      exact ⟨rfl, below_drewNR hb _⟩
    · have e0 : S1.errV (parseOut s.data.toList).2 = .iface 80 (.int .i64 (parseOut s.data.toList).2) := by unfold S1.errV; rw [if_neg h0]
      rw [e0] at HP
      rw [decide_eq_false h0]
      generalize (parseOut s.data.toList).2 = f at *
      go_enter Tryz.func96, Tryz.ntmps96
      go_wp2_with fail
      refine HP.out.mono ?_
      rintro e w1 ⟨rfl, hb⟩
      go_wp2_with fail
      go_quiet (fail)
      go_wp2_with fail
      go_ret2
      exact ⟨rfl, below_drewNR hb _⟩
end Go.Proofs.YtlljniaobbbjgaaGreatDoor

namespace Go.Proofs.YtlljniaobbbjgaaGreatDoor
open Go.RowKit
open Qos (Nd Ct Pd nd ct pd)
open Sv (Gv Hd gv hd needTxt needsTxt devsTxt setTxt contWs givenWs lineTxt OkN OkC OkG)
open S1 (Tab strs strs_snoc strs_oneCell ownsRow_cells infoStr itoa_any)
theorem row_belowV {w w' : World} {base : Nat} {e : TypeId} {size : Nat} {v : Value} {n : Nat} {xs : List Value} (h : w.ownsRow base e size v n xs) (hb : Below w.heap.size w w') : w'.ownsRow base e size v n xs :=
  h.kept (row := none) ⟨hb.os, hb.tape, hb.output, hb.size, fun j hj _ => hb.block j hj⟩ (by cases hv : v.ownBlock <;> simp)
/-- strings.Join over a row of the call's own. -/
theorem join_any (c : UInt8) (v : Value) (xs : List (List UInt8)) (w : World) (base : Nat) (h : w.ownsRow base 9 1 v xs.length (strs xs)) (hn : xs.length ≤ 1000) (hl : (Lib.join xs [c]).length ≤ 1000000) :
    Calls Tryz.prog 76 #[v, .string ⟨#[c]⟩] w fun e w' => e = .returned (.string ⟨(Lib.join xs [c]).toArray⟩) ∧ Below w.heap.size w w' := by
  rcases ownsRow_cells h with ⟨rfl, h0⟩ | ⟨g, cap, rfl, hc, hg, hcell⟩
  · have : xs = [] := List.eq_nil_of_length_eq_zero h0
    subst this
    refine (Tryz.strings_Join_none none 0 ⟨#[c]⟩ w).mono ?_
    rintro e w' ⟨rfl, rfl⟩
    exact ⟨rfl, Below.refl _ _⟩
  · have hx : (xs.map fun (b : List UInt8) => ByteArray.mk b.toArray).map (·.data.toList) = xs := by
      rw [List.map_map]; exact List.map_id'' (fun _ => rfl) xs
    have := Tryz.strings_Join g 0 cap (xs.map fun (b : List UInt8) => ByteArray.mk b.toArray) ⟨#[c]⟩ w (fun j x hj => by
      rw [Nat.zero_add]
      apply hcell
      unfold strs
      rw [List.getElem?_map] at hj ⊢
      obtain ⟨a, ha, rfl⟩ := Option.map_eq_some_iff.1 hj
      rw [ha]; rfl) hg (by simp; omega) (by simpa using hc) (by rw [hx]; show (Lib.join xs [c]).length ≤ _; omega)
    rw [hx] at this
    simpa using this
def decs (xs : List Int) (k : Nat) : List (List UInt8) := (xs.take k).map Sv.dec
theorem decs_next {xs : List Int} {k : Nat} (h : k < xs.length) : decs xs (k + 1) = decs xs k ++ [Sv.dec (xs.getD k 0)] := by
  unfold decs
  rw [List.take_succ_eq_append_getElem h, List.map_append]; simp [h]
theorem decs_len {xs : List Int} {k : Nat} (h : k ≤ xs.length) : (decs xs k).length = k := by
  unfold decs; simp; omega
theorem decs_all (xs : List Int) : decs xs xs.length = xs.map Sv.dec := by unfold decs; rw [List.take_length]
set_option maxRecDepth 100000 in
set_option maxHeartbeats 2000000 in
theorem listInts_any (v : Value) (xs : List Int) (w : World) (h : IntsOf w v xs) (hx : ∀ x ∈ xs, 0 ≤ x ∧ x ≤ 15) (hl : xs.length ≤ 16) (htab : Tab w) (hG : 1 < w.heap.size) :
    Calls Tryz.prog 60 #[v, .func (.func 56) #[] #[]] w fun e w' => e = .returned (.string ⟨(devsTxt xs).toArray⟩) ∧ Below w.heap.size w w' := by
  obtain ⟨i0, hi, hz0, hz1, hz2⟩ := info_parts infoStr
  obtain ⟨ao, c, rfl, hm, hr⟩ := h
  have HR := hideIt hr
  have HT := hideIt htab
  have HX := hideIt hx
  have HG := hideIt hG
  clear hr htab hx hG
  unfold maxLen at hm
  have HJ : Hid (∀ (v : Value) (w1 : World), w1.ownsRow w.heap.size 9 1 v (decs xs xs.length).length (strs (decs xs xs.length)) → Calls Tryz.prog 76 #[v, .string ⟨#[44]⟩] w1 fun e w' => e = .returned (.string ⟨(Lib.join (decs xs xs.length) [44]).toArray⟩) ∧ Below w1.heap.size w1 w') := by
    intro v w1 h
    refine join_any 44 v _ w1 _ h (by rw [decs_len (Nat.le_refl _)]; omega) ?_
    refine Nat.le_trans (Sv.join_le 44 20 _ fun x hx => ?_) (by rw [decs_len (Nat.le_refl _)]; omega)
    rw [decs_all] at hx
    obtain ⟨d, hd, rfl⟩ := List.mem_map.1 hx
    exact Sv.dec_le d (by have := (HX.out d hd).2; omega)
  have HD : Hid (Sv.orNo (Lib.join (decs xs xs.length) [44]) = devsTxt xs) := by unfold Hid devsTxt; rw [decs_all]
  go_enter Tryz.func60, Tryz.ntmps60
  go_wp2_with fail
  go_loopw [5, 10] (fun r i wr => ∃ k : Nat, k ≤ xs.length ∧ i = .int .i64 k ∧ wr.ownsRow w.heap.size 9 1 r (decs xs k).length (strs (decs xs k)) ∧ Below w.heap.size w wr) (fun _ i _ => xs.length - (intOf i).toNat)
  case atStart => exact ⟨0, by omega, rfl, World.ownsRow_nil _ _ _ _, Below.refl _ _⟩
  case round =>
    obtain ⟨k, hk, rfl, hrow, hB⟩ := hrel
    by_cases hlt : k < xs.length
    · obtain ⟨b, o, rfl, hb, hc⟩ := HR.out (by omega)
      have h1 := (hB.cell (p := ⟨b, o + k, none⟩) hb).trans (hc k hlt)
      have HS := hideIt (decs_next hlt)
      have hle := decs_len hk
      have hxk := HX.out (xs.getD k 0) (by simp [hlt])
      have hsz := hB.size
      clear hc
      generalize xs.getD k 0 = x at *
      have HI := hideIt (itoa_any x wr hxk.1 (by omega) (HT.out.below hB HG.out))
      go_wp2_with fail
      refine HI.out.mono ?_
      rintro e w1 ⟨rfl, hb1⟩
      have HB1 := hideIt (hB.trans (hb1.mono hB.size))
      have hrow1 := row_belowV hrow hb1
      have hsz1 := hb1.size
      go_wp2_with (at_builtin; refine wpList_append_own _ rfl _ _ 41 rfl w.heap.size 9 i0 (.string ⟨#[]⟩) 1 16 Tryz.underlying41 hi hz0 hz1 hz2 rfl (by decide) _ _ _ rfl (hrow1.alloc _) ⟨_, 0, none⟩ 1 1 [.string ⟨(Sv.dec x).toArray⟩] rfl rfl (cell_one_new _ _ _) (strs_oneCell [Sv.dec x]) (by unfold maxLen; omega) (by omega) (by simp; omega) ?_; intro v' w2 hown' hgrow' _)
      go_roundw
      case rel =>
        refine ⟨k + 1, by omega, by go_num, ?_, ?_⟩
        · rw [HS.out, strs_snoc, List.length_append]; exact hown'
        · exact (HB1.out.alloc HB1.out.size _).grown hgrow' (by simp; omega) (fun j hj => (hrow1.lt j hj).1)
      case measure => simp [intOf]; omega
    · have hke : k = xs.length := by omega
      subst hke
      go_wp2_with fail
      refine (HJ.out _ _ hrow).mono ?_
      rintro e w1 ⟨rfl, hb1⟩
      have hB1 := hB.trans (hb1.mono hB.size)
      go_wp2_with fail
      refine (orNothing_any _ _).mono ?_
      rintro e w2 ⟨rfl, rfl⟩
      go_wp2_with fail
      go_ret
      exact ⟨by rw [← HD.out]; rfl, hB1⟩
end Go.Proofs.YtlljniaobbbjgaaGreatDoor

namespace Go.Proofs.YtlljniaobbbjgaaGreatDoor
open Go.RowKit
open Qos (Nd Ct Pd nd0 ct0 pd0 nd ct pd needF contF podF amtOk over twice leS)
open Dvs (nameMay first)
theorem podF_1 {p : Pd} (h : nameMay p.nm = false) : podF p = 3 := by unfold podF; rw [if_pos h]
theorem podF_2 {p : Pd} (h : nameMay p.nm = true) (h2 : p.pr < 0 ∨ 1000 < p.pr) : podF p = 1 := by unfold podF; rw [if_neg (by rw [h]; decide), if_pos h2]
theorem podF_3 {p : Pd} (h : nameMay p.nm = true) (h2 : ¬ (p.pr < 0 ∨ 1000 < p.pr)) (h3 : p.cs.length < 1 ∨ 3 < p.cs.length) : podF p = 2 := by unfold podF; rw [if_neg (by rw [h]; decide), if_neg h2, if_pos h3]
theorem podF_4 {p : Pd} (h : nameMay p.nm = true) (h2 : ¬ (p.pr < 0 ∨ 1000 < p.pr)) (h3 : ¬ (p.cs.length < 1 ∨ 3 < p.cs.length)) : podF p = first (contF p.cs) p.cs.length := by unfold podF; rw [if_neg (by rw [h]; decide), if_neg h2, if_neg h3]
theorem errQ_pos {f : Nat} (h : f ≠ 0) : errV (f : Int) = .iface 80 (.int .i64 f) := by unfold errV; rw [if_neg (by omega)]
theorem below_drew' {B : Nat} {a w : World} (h : Below B a w) : Below B a w.drew := ⟨h.os, h.tape, h.output, h.size, h.block⟩
set_option maxRecDepth 100000 in
set_option maxHeartbeats 2000000 in
theorem check_any (p : Pd) (cv : Value) (w : World) (h : ConsAt w cv p.cs) : Calls Tryz.prog 62 #[podV p cv] w fun e w' => e = .returned (errV (podF p : Nat)) ∧ Below w.heap.size w w' := by
  obtain ⟨ao, c, rfl, hm, hr⟩ := h
  have HR := hideIt hr
  have HM := hideIt hm
  clear hr hm
  have H1 := hideIt (@podF_1 p)
  have H2 := hideIt (@podF_2 p)
  have H3 := hideIt (@podF_3 p)
  have H4 := hideIt (@podF_4 p)
  unfold podV
  have HB0 := hideIt ((Below.refl w.heap.size w).alloc (Nat.le_refl _) (.cells #[.string p.nm, .int .i64 p.pr, .slice ao p.cs.length c] 59))
  rcases two (nameMay p.nm) with hn | hn
  · have H2 := hideIt (H2.out hn)
    have H3 := hideIt (H3.out hn)
    have H4 := hideIt (H4.out hn)
    by_cases hp : p.pr < 0 ∨ 1000 < p.pr
    · have he := H2.out hp
      go_enter Tryz.func62, Tryz.ntmps62
      go_wp2_with fail
      refine (name_any _ _).mono ?_
      rintro e w1 ⟨rfl, rfl⟩
      rw [hn]
      go_wp2_with fail
      refine (within_any _ _ _ _).mono ?_
      rintro e w1 ⟨rfl, rfl⟩
      rw [show (decide (0 ≤ p.pr) && decide (p.pr ≤ 1000)) = false by simp; omega]
      go_wp2_with fail
      go_ret
      exact ⟨by rw [he]; rfl, HB0.out⟩
    have H3 := hideIt (H3.out hp)
    have H4 := hideIt (H4.out hp)
    have hp' : (decide (0 ≤ p.pr) && decide (p.pr ≤ 1000)) = true := by simp; omega
    clear hp
    by_cases hl : p.cs.length < 1 ∨ 3 < p.cs.length
    · have he := H3.out hl
      have hl' : (decide ((1 : Int) ≤ p.cs.length) && decide ((p.cs.length : Int) ≤ 3)) = false := by simp; omega
      clear hl H1 H2 H3 H4
      go_enter Tryz.func62, Tryz.ntmps62
      go_wp2_with fail
      refine (name_any _ _).mono ?_
      rintro e w1 ⟨rfl, rfl⟩
      rw [hn]
      go_wp2_with fail
      refine (within_any _ _ _ _).mono ?_
      rintro e w1 ⟨rfl, rfl⟩
      rw [hp']
      go_wp2_with fail
      refine (within_any _ _ _ _).mono ?_
      rintro e w1 ⟨rfl, rfl⟩
      rw [hl']
      go_wp2_with fail
      go_ret
      exact ⟨by rw [he]; rfl, HB0.out⟩
    have HE := hideIt (H4.out hl)
    have hl' : (decide ((1 : Int) ≤ p.cs.length) && decide ((p.cs.length : Int) ≤ 3)) = true := by simp; omega
    have hlen : p.cs.length ≤ 3 := by omega
    rw [HE.out]
    clear hl H1 H2 H3 H4 HE
    clear H2 H3 H4
    generalize p.cs = cs at *
    go_enter Tryz.func62, Tryz.ntmps62
    go_wp2_with fail
    refine (name_any _ _).mono ?_
    rintro e w1 ⟨rfl, rfl⟩
    rw [hn]
    go_wp2_with fail
    refine (within_any _ _ _ _).mono ?_
    rintro e w1 ⟨rfl, rfl⟩
    rw [hp']
    go_wp2_with fail
    refine (within_any _ _ _ _).mono ?_
    rintro e w1 ⟨rfl, rfl⟩
    rw [hl']
    go_wp2_with fail
    go_loopw [25] (fun i wr => ∃ k : Nat, k ≤ cs.length ∧ i = .int .i64 k ∧ Below w.heap.size w wr ∧ Hid (w.heap.size < wr.heap.size) ∧ wr.cell? ⟨w.heap.size, 2, none⟩ = some (.slice ao cs.length c) ∧ Hid (first (contF cs) k = 0)) (fun i _ => cs.length - (intOf i).toNat)
    case atStart => exact ⟨0, by omega, rfl, HB0.out, by simp [Hid], by simp, rfl⟩
    case round =>
      obtain ⟨k, hk, rfl, hB, HLT, hcv, HF⟩ := hrel
      by_cases hlt : k < cs.length
      · obtain ⟨b, o, dv, rfl, hin⟩ := HR.out (by omega)
        have hin := hin.below hB
        obtain ⟨c0, c1, c2, c3, c4, c5⟩ := hin.at hlt
        have hkc : k ≤ c := Nat.le_trans hk HM.out.1
        have HO := hideIt (Dvs.first_hit (f := contF cs) (n := cs.length) HF.out · hlt)
        have HZ := hideIt (Dvs.first_zero (f := contF cs) (k := k) HF.out)
        have HI := hideIt hin
        have hB1 := hideIt (hB.alloc hB.size (.cells #[.string (ct cs k).nm, .int .i64 (ct cs k).am, .int .i64 (ct cs k).ab, .int .i64 (ct cs k).cm, .int .i64 (ct cs k).cb, dv k] 56))
        have HBX := hideIt ((BoxAt.made wr (ct cs k) (dv k)).below (below_drew' (Below.refl _ _)))
        have HCK := hideIt (fun W (hb : Below wr.heap.size wr W) => checkCont_any b o c k cs dv W (hin.below hb) hlt (Nat.le_trans HM.out.1 HM.out.2))
        have HL2 := hideIt ((Below.refl wr.heap.size wr).alloc (Nat.le_refl _) (.cells #[.string (ct cs k).nm, .int .i64 (ct cs k).am, .int .i64 (ct cs k).ab, .int .i64 (ct cs k).cm, .int .i64 (ct cs k).cb, dv k] 56))
        have HCV := hideIt hcv
        have hsl : ∃ a n e, dv k = .slice a n e := by
          obtain ⟨a, e, he, _⟩ := (hin.2 k hlt).2
          exact ⟨a, _, e, he⟩
        clear hin HF hB
        generalize ct cs k = x at *
        generalize dv k = d at *
        obtain ⟨da, dn, dc, rfl⟩ := hsl
        generalize contF cs k = F at *
        go_wp2_with fail
        obtain ⟨l0, b0, b1, b2, b3, b4, b5⟩ := HBX.out
        have HC2 := (below_drew' HL2.out).cell (p := ⟨w.heap.size, 2, none⟩) HLT.out |>.trans HCV.out
        clear HBX
        refine wp_region_held_drew (S := (fun w' => (w'.cell? ⟨wr.heap.size, 0, none⟩ = some (.string x.nm) ∧ w'.cell? ⟨wr.heap.size, 1, none⟩ = some (.int .i64 x.am) ∧ w'.cell? ⟨wr.heap.size, 2, none⟩ = some (.int .i64 x.ab) ∧ w'.cell? ⟨wr.heap.size, 3, none⟩ = some (.int .i64 x.cm) ∧ w'.cell? ⟨wr.heap.size, 4, none⟩ = some (.int .i64 x.cb) ∧ w'.cell? ⟨wr.heap.size, 5, none⟩ = some (.slice da dn dc)) ∧ w'.cell? ⟨w.heap.size, 2, none⟩ = some (.slice (some ⟨b, o, none⟩) cs.length c))) (by kernel_rfl) ⟨⟨b0, b1, b2, b3, b4, b5⟩, HC2⟩ (fun hHeld => ?_)
        refine wpAnyH_take (i := 0) (oi := { dst := some 30, op := Op.load 56 (Operand.tmp 4), type := 56, pos := "qos.go:31", after := #[], guard := none }) (v := ?v1x0) rfl (by kernel_rfl) (by kernel_rfl) (by kernel_rfl) (fun _ _ _ h => h) (Or.inl ⟨by rfl, ?h1x0⟩) (by assumption) ?r1x0
        case h1x0 =>
          intro w' hSw
          (try dsimp only at hSw)
          go_simp
          first | done | with_reducible rfl | rfl
        (try simp only [Act.put, List.setIfInBounds_toArray, List.set_cons_zero, List.set_cons_succ])
        refine wpAnyH_take (i := 1) (oi := { dst := some 31, op := Op.fieldAddr 59 (Operand.tmp 1) 2, type := 0, pos := "qos.go:31", after := #[], guard := none }) (v := ?v2x1) rfl (by kernel_rfl) (by kernel_rfl) (by kernel_rfl) (fun _ _ _ h => h) (Or.inl ⟨by rfl, ?h2x1⟩) (by assumption) ?r2x1
        case h2x1 =>
          intro w' hSw
          (try dsimp only at hSw)
          go_simp
          first | done | with_reducible rfl | rfl
        (try simp only [Act.put, List.setIfInBounds_toArray, List.set_cons_zero, List.set_cons_succ])
        refine wpAnyH_take (i := 2) (oi := { dst := some 32, op := Op.load 57 (Operand.tmp 31), type := 57, pos := "qos.go:31", after := #[{ on := 1, ground := Ground.data }], guard := none }) (v := ?v3x2) rfl (by kernel_rfl) (by kernel_rfl) (by kernel_rfl) (fun _ _ _ h => h) (Or.inl ⟨by rfl, ?h3x2⟩) (by assumption) ?r3x2
        case h3x2 =>
          intro w' hSw
          (try dsimp only at hSw)
          go_simp
          first | done | with_reducible rfl | rfl
        (try simp only [Act.put, List.setIfInBounds_toArray, List.set_cons_zero, List.set_cons_succ])
        refine wpAnyH_take (i := 3) (oi := { dst := some 33, op := Op.move (Operand.tmp 3), type := 3, pos := "qos.go:31", after := #[], guard := none }) (v := ?v4x3) rfl (by kernel_rfl) (by kernel_rfl) (by kernel_rfl) (fun _ _ _ h => h) (Or.inl ⟨by rfl, ?h4x3⟩) (by assumption) ?r4x3
        case h4x3 =>
          intro w' hSw
          (try dsimp only at hSw)
          go_simp
          first | done | with_reducible rfl | rfl
        (try simp only [Act.put, List.setIfInBounds_toArray, List.set_cons_zero, List.set_cons_succ])
        refine wpAnyH_take (i := 4) (oi := { dst := some 34, op := Op.slice 57 (Operand.tmp 32) none (some (Operand.tmp 33)) none, type := 57, pos := "qos.go:31", after := #[{ on := 2, ground := Ground.data }, { on := 3, ground := Ground.data }], guard := none }) (v := ?v5x4) rfl (by kernel_rfl) (by kernel_rfl) (by kernel_rfl) (fun _ _ _ h => h) (Or.inl ⟨by rfl, ?h5x4⟩) (by assumption) ?r5x4
        case h5x4 =>
          intro w' hSw
          (try dsimp only at hSw)
          go_simp
          first | done | with_reducible rfl | rfl
        (try simp only [Act.put, List.setIfInBounds_toArray, List.set_cons_zero, List.set_cons_succ])
        refine wpAnyH_ready (rs := [5]) (by kernel_rfl) (by simp) (AllReadyH.cons rfl (fun K hK => ?_) AllReadyH.nil)
        go_simp
        go_wp2_with fail
        refine (HCK.out _ (below_drew' HL2.out)).mono ?_
        rintro e w5 ⟨rfl, hb5⟩
        have HB5 := hideIt hb5
        have HS5 := hideIt (And.intro (And.intro ((hb5.cell (p := ⟨wr.heap.size, 0, none⟩) l0).trans b0) (And.intro ((hb5.cell (p := ⟨wr.heap.size, 1, none⟩) l0).trans b1) (And.intro ((hb5.cell (p := ⟨wr.heap.size, 2, none⟩) l0).trans b2) (And.intro ((hb5.cell (p := ⟨wr.heap.size, 3, none⟩) l0).trans b3) (And.intro ((hb5.cell (p := ⟨wr.heap.size, 4, none⟩) l0).trans b4) ((hb5.cell (p := ⟨wr.heap.size, 5, none⟩) l0).trans b5)))))) ((hb5.cell (p := ⟨w.heap.size, 2, none⟩) (Nat.lt_trans HLT.out l0)).trans HC2))
        clear hb5
        go_wp2_with fail
        refine hK.out _ _ HS5.out (fun hHeld => ?_)
        clear hK K
        refine wpAnyH_take (i := 6) (oi := { dst := some 5, op := Op.assign (Operand.tmp 35), type := 27, pos := "qos.go:31", after := #[{ on := 5, ground := Ground.data }, { on := 5, ground := Ground.chain }, { on := 0, ground := Ground.phase }, { on := 1, ground := Ground.phase }, { on := 2, ground := Ground.phase }, { on := 3, ground := Ground.phase }, { on := 4, ground := Ground.phase }, { on := 5, ground := Ground.phase }], guard := none }) (v := ?v6x6) rfl (by kernel_rfl) (by kernel_rfl) (by kernel_rfl) (fun _ _ _ h => h) (Or.inl ⟨by rfl, ?h6x6⟩) (by assumption) ?r6x6
        case h6x6 =>
          intro w' hSw
          (try dsimp only at hSw)
          go_simp
          first | done | with_reducible rfl | rfl
        (try simp only [Act.put, List.setIfInBounds_toArray, List.set_cons_zero, List.set_cons_succ])
        refine wpAnyH_done (by kernel_rfl) ?_ _
        have HB6 := hideIt ((below_drew' hB1.out).trans (HB5.out.mono (below_drew' hB1.out).size))
        have HC6 := hideIt hHeld.2
        have HL6 := hideIt (Nat.lt_of_lt_of_le (Nat.lt_trans HLT.out l0) HB5.out.size)
        clear HB5 HS5 hHeld hB1 HCK HL2 HCV HI HC2 b0 b1 b2 b3 b4 b5 l0 HLT hcv c0 c1 c2 c3 c4 c5
        by_cases hF : F = 0
        · have HZ' := hideIt (HZ.out hF)
          rw [show errV (F : Int) = .nilIface by rw [hF]; rfl]
          clear HO HZ hF
          go_wp2_with fail
          go_roundw
          case rel => exact ⟨k + 1, by omega, by go_num, HB6.out, HL6, HC6.out, HZ'⟩
          case measure => simp [intOf]; omega
        · have HO' := hideIt (HO.out hF)
          have HE := hideIt (errQ_pos hF)
          rw [HE.out]
          clear HO HZ hF
          go_wp2_with fail
          go_ret
          exact ⟨by rw [HO'.out, HE.out]; rfl, HB6.out⟩
      · have hke : k = cs.length := by omega
        subst hke
        have hB1 := hideIt hB
        clear hB
        go_wp2_with fail
        go_ret
        exact ⟨by rw [HF.out]; rfl, hB1.out⟩
  · have he := H1.out hn
    go_enter Tryz.func62, Tryz.ntmps62
    go_wp2_with fail
    refine (name_any _ _).mono ?_
    rintro e w1 ⟨rfl, rfl⟩
    rw [hn]
    go_wp2_with fail
    go_ret
    exact ⟨by rw [he]; rfl, HB0.out⟩
end Go.Proofs.YtlljniaobbbjgaaGreatDoor

namespace Go.Proofs.YtlljniaobbbjgaaGreatDoor.S1
open Go.RowKit
theorem extract_mk (s : ByteArray) (f k : Nat) : s.extract f k = ⟨((s.data.toList.take k).drop f).toArray⟩ := by
  rw [← extract_list, mk_data]
/-- How far the parting of a text has come: what is parted, and where the next part begins. -/
def Parted (l : List UInt8) (D : List (List UInt8)) (f k : Nat) : Prop :=
  f ≤ k ∧ k ≤ l.length ∧ Ost.splitC 44 l = D ++ Ost.splitC 44 (l.drop f) ∧ (44 : UInt8) ∉ (l.take k).drop f
theorem Parted.more {l : List UInt8} {D : List (List UInt8)} {f k : Nat} (h : Parted l D f k) (hk : k < l.length) (hc : l[k] ≠ 44) : Parted l D f (k + 1) := by
  obtain ⟨h1, h2, h3, h4⟩ := h
  refine ⟨by omega, by omega, h3, ?_⟩
  rw [List.take_succ_eq_append_getElem hk, List.drop_append_of_le_length (by rw [List.length_take]; omega)]
  simp only [List.mem_append, List.mem_singleton, not_or]
  exact ⟨h4, fun e => hc e.symm⟩
theorem drop_split (l : List UInt8) (f k : Nat) (h : f ≤ k) (hk : k ≤ l.length) : l.drop f = (l.take k).drop f ++ l.drop k := by
  conv => lhs; rw [← List.take_append_drop k l]
  rw [List.drop_append_of_le_length (by rw [List.length_take]; omega)]
theorem Parted.cut {l : List UInt8} {D : List (List UInt8)} {f k : Nat} (h : Parted l D f k) (hk : k < l.length) (hc : l[k] = 44) : Parted l (D ++ [(l.take k).drop f]) (k + 1) (k + 1) := by
  obtain ⟨h1, h2, h3, h4⟩ := h
  refine ⟨Nat.le_refl _, by omega, ?_, by simp⟩
  rw [h3, drop_split l f k h1 (by omega), List.drop_eq_getElem_cons hk, hc, Ost.splitC_cut 44 _ _ h4]
  simp
theorem Parted.last {l : List UInt8} {D : List (List UInt8)} {f : Nat} (h : Parted l D f l.length) : Ost.splitC 44 l = D ++ [(l.take l.length).drop f] := by
  obtain ⟨h1, h2, h3, h4⟩ := h
  rw [List.take_length] at h4 ⊢
  rw [h3, Ost.splitC_none 44 _ h4]
theorem Parted.len {l : List UInt8} {D : List (List UInt8)} {f k : Nat} (h : Parted l D f k) : D.length ≤ l.length := by
  have := congrArg List.length h.2.2.1
  have h2 := splitC_len 44 l
  have h3 : 0 < (Ost.splitC 44 (l.drop f)).length := List.length_pos_iff.2 (Ost.splitC_ne _ _)
  rw [List.length_append] at this
  omega
set_option maxRecDepth 100000 in
set_option maxHeartbeats 2000000 in
theorem words_any (s : ByteArray) (w : World) (hs : s.size ≤ 300) :
    Calls Tryz.prog 47 #[.string s, .int .u8 44] w fun e w' => ∃ v, e = .returned v ∧ w'.ownsRow w.heap.size 9 1 v (Ost.splitC 44 s.data.toList).length (strs (Ost.splitC 44 s.data.toList)) ∧ Below w.heap.size w w' := by
  obtain ⟨i0, hi, hz0, hz1, hz2⟩ := info_parts infoStr
  have HL : Hid (s.data.toList.length = s.size) := by unfold Hid; simp
  go_enter Tryz.func47, Tryz.ntmps47
  go_wp2_with fail
  go_loopw [5, 6, 7] (fun v f i wr => ∃ (k fN : Nat) (D : List (List UInt8)), k ≤ s.size + 1 ∧ fN ≤ s.size + 1 ∧ D.length ≤ s.size + 1 ∧ i = .int .i64 k ∧ f = .int .i64 fN ∧ Hid (Parted s.data.toList D fN k ∨ (k = s.size + 1 ∧ D = Ost.splitC 44 s.data.toList)) ∧ wr.ownsRow w.heap.size 9 1 v D.length (strs D) ∧ Below w.heap.size w wr) (fun _ _ i _ => s.size + 1 - (intOf i).toNat)
  case atStart => exact ⟨0, 0, [], by omega, by omega, by simp, rfl, rfl, .inl ⟨Nat.le_refl _, by omega, rfl, by simp⟩, World.ownsRow_nil _ _ _ _, Below.refl _ _⟩
  case round =>
    obtain ⟨k, fN, D, hk, hfN, hD, rfl, rfl, HP, hrow, hnx⟩ := hrel
    have hsz := hnx.size
    by_cases hend : k = s.size + 1
    · have HD : Hid (D = Ost.splitC 44 s.data.toList) := by
        rcases HP.out with h | h
        · exfalso; have := h.2.1; rw [HL.out] at this; omega
        · exact h.2
      have h1 : ¬ k ≤ s.size := by omega
      have HD2 := HD.out
      subst HD2
      clear HP hend HD
      go_wp2_with fail
      go_ret
      exact ⟨_, rfl, hrow, hnx⟩
    · have hkl : k ≤ s.size := by omega
      have HQ : Hid (Parted s.data.toList D fN k) := by
        rcases HP.out with h | h
        · exact h
        · exact absurd h.1 hend
      have hfk : fN ≤ k := HQ.out.1
      have hDl := HQ.out.len
      rw [HL.out] at hDl
      clear HP hend
      have HX : Hid (s.extract fN k = ⟨((s.data.toList.take k).drop fN).toArray⟩) := extract_mk s fN k
      by_cases hlast : k = s.size
      · have HN : Hid (Ost.splitC 44 s.data.toList = D ++ [(s.data.toList.take k).drop fN]) := by
          have h := HQ.out
          rw [hlast, ← HL.out] at h ⊢
          exact h.last
        have hb1 : ((k : Int) == (s.size : Int)) = true := by simp [hlast]
        have hlen : D.length + 1 ≤ s.size + 1 := by omega
        clear hlast
        go_wp2_with (at_builtin; refine wpList_append_own _ rfl _ _ 41 rfl w.heap.size 9 i0 (.string ⟨#[]⟩) 1 16 Tryz.underlying41 hi hz0 hz1 hz2 rfl (by decide) _ _ _ rfl (hrow.alloc _) ⟨_, 0, none⟩ 1 1 [.string (s.extract fN k)] rfl rfl (cell_one_new _ _ _) (by intro u hu; simp at hu; subst hu; rfl) (by unfold maxLen; omega) (by omega) (by simp; omega) ?_; intro v' w1 hown' hgrow' _)
        go_roundw
        case rel =>
          refine ⟨k + 1, k + 1, D ++ [(s.data.toList.take k).drop fN], by omega, by omega, by simp; omega, by go_num, by go_num, .inr ⟨by have := beq_iff_eq.1 hb1; omega, HN.out.symm⟩, ?_, ?_⟩
          · rw [strs_snoc, List.length_append, ← HX.out]; exact hown'
          · exact (hnx.alloc hsz _).grown hgrow' (by simp; omega) (fun j hj => (hrow.lt j hj).1)
        case measure => simp [intOf]; omega
      · have hlt : k < s.size := by omega
        have hb1 : ((k : Int) == (s.size : Int)) = false := by simp; omega
        clear hlast
        rcases two' ((s[k].toNat : Int) == 44) with hb2 | hb2
        · have HN : Hid (Parted s.data.toList (D ++ [(s.data.toList.take k).drop fN]) (k + 1) (k + 1)) :=
            HQ.out.cut (by rw [HL.out]; exact hlt) ((Ost.u8_eq _ 44 (by omega)).2 (by have := beq_iff_eq.1 hb2; show s[k].toNat = 44; omega))
          go_wp2_with (at_builtin; refine wpList_append_own _ rfl _ _ 41 rfl w.heap.size 9 i0 (.string ⟨#[]⟩) 1 16 Tryz.underlying41 hi hz0 hz1 hz2 rfl (by decide) _ _ _ rfl (hrow.alloc _) ⟨_, 0, none⟩ 1 1 [.string (s.extract fN k)] rfl rfl (cell_one_new _ _ _) (by intro u hu; simp at hu; subst hu; rfl) (by unfold maxLen; omega) (by omega) (by simp; omega) ?_; intro v' w1 hown' hgrow' _)
          go_roundw
          case rel =>
            refine ⟨k + 1, k + 1, D ++ [(s.data.toList.take k).drop fN], by omega, by omega, by simp; omega, by go_num, by go_num, .inl HN.out, ?_, ?_⟩
            · rw [strs_snoc, List.length_append, ← HX.out]; exact hown'
            · exact (hnx.alloc hsz _).grown hgrow' (by simp; omega) (fun j hj => (hrow.lt j hj).1)
          case measure => simp [intOf]; omega
        · have HN : Hid (Parted s.data.toList D fN (k + 1)) :=
            HQ.out.more (by rw [HL.out]; exact hlt) (fun h => by
              have h2 : s[k].toNat = 44 := (Ost.u8_eq _ 44 (by omega)).1 h
              rw [beq_eq_false_iff_ne] at hb2; exact hb2 (by omega))
          go_wp2_with fail
          go_roundw
          case rel => exact ⟨k + 1, fN, D, by omega, by omega, by omega, by go_num, rfl, .inl HN.out, hrow, hnx⟩
          case measure => simp [intOf]; omega
theorem toListL (s : ByteArray) : s.toList = s.data.toList := ByteArray.toList_eq s
set_option maxHeartbeats 400000 in
theorem inInt_any (s : ByteArray) (w : World) (hs : s.size ≤ 300) :
    Calls Tryz.prog 98 #[.string s] w fun e w' => e = .returned (.bool (Ost.inIntB s.data.toList)) ∧ w' = w := by
  have HL : Hid (s.data.toList.length = s.size) := by unfold Hid; simp
  by_cases h1 : s.size < 19
  · have H : Hid (Ost.inIntB s.data.toList = true) := by unfold Hid Ost.inIntB; rw [HL.out, decide_eq_true h1]; rfl
    go_enter Tryz.func98, Tryz.ntmps98
    go_wp2_with fail
    go_ret
    exact ⟨congrArg (fun b => Ending.returned (.bool b)) H.out.symm, rfl⟩
  · by_cases h2 : s.size = 19
    · have H : Hid (Ost.inIntB s.data.toList = (Op.bytesLess s.toList [57, 50, 50, 51, 51, 55, 50, 48, 51, 54, 56, 53, 52, 55, 55, 53, 56, 48, 55] || s.toList == [57, 50, 50, 51, 51, 55, 50, 48, 51, 54, 56, 53, 52, 55, 55, 53, 56, 48, 55])) := by
        unfold Hid Ost.inIntB; rw [HL.out, decide_eq_false h1, decide_eq_true h2, toListL]; rfl
      have hb : ((s.size : Int) == 19) = true := by simp; omega
      have h3 : decide ((s.size : Int) < 19) = false := decide_eq_false (by omega)
      clear h1 h2
      go_enter Tryz.func98, Tryz.ntmps98
      go_wp2_with fail
      go_ret
      exact ⟨congrArg (fun b => Ending.returned (.bool b)) H.out.symm, rfl⟩
    · have H : Hid (Ost.inIntB s.data.toList = false) := by unfold Hid Ost.inIntB; rw [HL.out, decide_eq_false h1, decide_eq_false h2]; rfl
      have hb : ((s.size : Int) == 19) = false := by simp; omega
      have h3 : decide ((s.size : Int) < 19) = false := decide_eq_false (by omega)
      clear h2
      go_enter Tryz.func98, Tryz.ntmps98
      go_wp2_with fail
      go_ret
      exact ⟨congrArg (fun b => Ending.returned (.bool b)) H.out.symm, rfl⟩
end Go.Proofs.YtlljniaobbbjgaaGreatDoor.S1

namespace Go.Proofs.YtlljniaobbbjgaaGreatDoor.S1
open Go.RowKit
/-- Where the first dash stands in what is behind place j (-1: nowhere). -/
def dashAt (l : List UInt8) (j : Nat) : Int := if (Ost.cut1 45 (l.drop j)).2.2 then ((j + (Ost.cut1 45 (l.drop j)).1.length : Nat) : Int) else -1
theorem dashAt_end (l : List UInt8) : dashAt l l.length = -1 := by simp [dashAt, Ost.cut1]
theorem dashAt_dash (l : List UInt8) (j : Nat) (h : j < l.length) (hd : l[j] = 45) : dashAt l j = j := by
  unfold dashAt
  rw [List.drop_eq_getElem_cons h, Ost.cut1, if_pos hd]; simp
theorem dashAt_not (l : List UInt8) (j : Nat) (h : j < l.length) (hd : l[j] ≠ 45) : dashAt l j = dashAt l (j + 1) := by
  unfold dashAt
  rw [List.drop_eq_getElem_cons h, Ost.cut1, if_neg hd]
  simp only [List.length_cons]
  split
  · congr 1; omega
  · rfl
theorem dashAt_bd (l : List UInt8) (j : Nat) : -1 ≤ dashAt l j := by
  unfold dashAt; split <;> omega
theorem inInt_c (s : ByteArray) (w : World) (b : Bool) (hs : s.size ≤ 300) (h : Ost.inIntB s.data.toList = b) :
    Calls Tryz.prog 98 #[.string s] w fun e w' => e = .returned (.bool b) ∧ w' = w := by
  have := inInt_any s w hs
  rw [h] at this; exact this
theorem digits_gen (s : ByteArray) (w : World) (hs : s.size ≤ maxLen) :
    Calls Tryz.prog 73 #[.string s, .int .i64 1000] w fun e w' => (∃ (k : Int) (b : Bool), e = .returned (.tuple #[.int .i64 k, .bool b])) ∧ w' = w := by
  cases h : Ost.isNum s.data.toList with
  | true =>
    refine (digits_yes s 1000 _ w hs (by omega) (by omega) h rfl).mono ?_
    rintro e w' ⟨rfl, rfl⟩
    exact ⟨⟨_, _, rfl⟩, rfl⟩
  | false =>
    refine (digits_no s 1000 w hs (by omega) (by omega) h).mono ?_
    rintro e w' ⟨rfl, rfl⟩
    exact ⟨⟨_, _, rfl⟩, rfl⟩
theorem less_cases (a b : ByteArray) : (Ost.lessB a.data.toList b.data.toList = true → b.size < a.size ∨ (a.size = b.size ∧ (!Op.bytesLess a.toList b.toList && !(a.toList == b.toList)) = true)) ∧
    (Ost.lessB a.data.toList b.data.toList = false → ¬ b.size < a.size ∧ (a.size = b.size → (!Op.bytesLess a.toList b.toList && !(a.toList == b.toList)) = false)) := by
  have ha : a.data.toList.length = a.size := by simp
  have hb : b.data.toList.length = b.size := by simp
  unfold Ost.lessB
  rw [ha, hb, toListL, toListL]
  by_cases h1 : b.size < a.size
  · rw [decide_eq_true h1]; exact ⟨fun _ => .inl h1, fun h => by simp at h⟩
  · by_cases h2 : a.size = b.size
    · rw [decide_eq_false h1, decide_eq_true h2, Bool.false_or, Bool.true_and]
      exact ⟨fun h => .inr ⟨h2, h⟩, fun h => ⟨h1, fun _ => h⟩⟩
    · rw [decide_eq_false h1, decide_eq_false h2]
      exact ⟨fun h => by simp at h, fun _ => ⟨h1, fun h => absurd h h2⟩⟩
set_option maxRecDepth 100000 in
set_option maxHeartbeats 8000000 in
theorem readSet_walk (s : ByteArray) (w : World) (hs : s.size ≤ 300) (h0 : 0 < s.size) :
    Calls Tryz.prog 74 #[.string s] w fun e w' => e = .returned (setNum (Ost.parseOut s.data.toList)) ∧ Below w.heap.size w w' := by
  have hem : s.toList.isEmpty = false := by rw [Ost.toList_isEmpty, decide_eq_false (by omega)]
  have h300 : decide (300 < (s.size : Int)) = false := decide_eq_false (by omega)
  have HL : Hid (s.data.toList.length = s.size) := by unfold Hid; simp
  have HP0 : Hid (Left s.data.toList 0 0) := by
    unfold Hid Left Ost.parseOut
    rw [if_neg (by rw [HL.out]; omega), if_neg (fun e => by have := HL.out; rw [e] at this; simp at this; omega)]
    rfl
  have hn1 := splitC_len 44 s.data.toList
  rw [HL.out] at hn1
  have HX := hideIt' (splitC_mem 44 s.data.toList)
  have hn0 : 0 < (Ost.splitC 44 s.data.toList).length := List.length_pos_iff.2 (Ost.splitC_ne _ _)
  go_enter Tryz.func74, Tryz.ntmps74
  go_wp2_with fail
  refine (words_any s _ hs).mono ?_
  rintro e w1 ⟨v, rfl, hrow, hB1⟩
  rcases ownsRow_cells hrow with ⟨_, h00⟩ | ⟨g, cap, hv, _, _, hcell⟩
  · exfalso; omega
  rw [hv]
  have HC : Hid (∀ k, k < (Ost.splitC 44 s.data.toList).length → w1.cell? ⟨g, k, none⟩ = some (.string ⟨((Ost.splitC 44 s.data.toList).getD k []).toArray⟩)) := by
    intro k hk
    apply hcell
    unfold strs
    simp [hk]
  clear hrow hv hcell
  go_wp2_with fail
  go_loop [4, 6] (fun t i => ∃ k acc : Nat, k ≤ (Ost.splitC 44 s.data.toList).length ∧ acc < 18446744073709551616 ∧ i = .int .i64 k ∧ t = .int .u64 acc ∧ Hid (Left s.data.toList k acc)) (fun _ i => (Ost.splitC 44 s.data.toList).length - (intOf i).toNat)
  case atStart => exact ⟨0, 0, by omega, by omega, rfl, rfl, HP0⟩
  case round =>
    obtain ⟨k, acc, hk, hacc, rfl, rfl, HLf⟩ := hrel
    clear HP0
    by_cases hlt : k < (Ost.splitC 44 s.data.toList).length
    · have hcell := HC.out k hlt
      have HNx := hideIt' (HLf.out.next hlt)
      have hps : ((Ost.splitC 44 s.data.toList).getD k []).length ≤ 300 := by
        have hmem : (Ost.splitC 44 s.data.toList).getD k [] ∈ Ost.splitC 44 s.data.toList := by simp [hlt]
        have := HX.out _ hmem
        rw [HL.out] at this; omega
      generalize (Ost.splitC 44 s.data.toList).getD k [] = tl at hcell HNx hps
      obtain ⟨t, ht⟩ : ∃ t : ByteArray, t = ⟨tl.toArray⟩ := ⟨_, rfl⟩
      have htd : tl = t.data.toList := by rw [ht]
      rw [← ht] at hcell
      subst htd
      clear ht
      have HLt : Hid (t.data.toList.length = t.size) := by unfold Hid; simp
      rw [HLt.out] at hps
      go_wp2_with fail
      go_loop [7, 8] (fun a i => ∃ j : Nat, j ≤ t.size ∧ i = .int .i64 ((j : Int) - 1) ∧ a = .int .i64 (dashAt t.data.toList j)) (fun _ i => (intOf i + 1).toNat)
      case atStart => exact ⟨t.size, Nat.le_refl _, rfl, by have := dashAt_end t.data.toList; rw [HLt.out] at this; rw [this]⟩
      case round =>
        obtain ⟨j, hj, rfl, rfl⟩ := hrel
        by_cases hj0 : j = 0
        · subst hj0
          rcases two' (Ost.cut1 45 t.data.toList).2.2 with hf | hf
          · obtain ⟨L1, L2, hL, HAB0, hda⟩ : ∃ L1 L2, t.data.toList = L1 ++ 45 :: L2 ∧ Hid (Ost.spanOf t.data.toList = if Ost.isNum L1 && Ost.isNum L2 && (Ost.inIntB L1 && Ost.inIntB L2) && !Ost.lessB L1 L2 then some (Ost.val L1, Ost.val L2) else none) ∧ dashAt t.data.toList 0 = (L1.length : Nat) :=
              ⟨_, _, (Ost.cut1_true 45 t.data.toList hf).1, Ost.spanOf_ab t.data.toList _ _ (.inl ⟨hf, rfl, rfl⟩), by unfold dashAt; rw [List.drop_zero, if_pos hf, Nat.zero_add]⟩
            have hln := congrArg List.length hL
            simp only [List.length_append, List.length_cons] at hln
            rw [HLt.out] at hln
            rw [hda]
            have HA1 : Hid ((t.extract 0 L1.length).data.toList = L1) := by
              unfold Hid; rw [extract_list, List.drop_zero, hL]; simp
            have HA2 : Hid ((t.extract (L1.length + 1) t.size).data.toList = L2) := by
              unfold Hid; rw [extract_list, List.take_of_length_le (by rw [HLt.out]; omega), hL]; simp
            have hn2 : L1.length < t.size := by omega
            clear hL hln hda hf
            go_wp2_with fail
            have HSa : Hid ((t.extract 0 L1.length).size ≤ maxLen) := by unfold Hid; rw [ByteArray.size_extract]; unfold maxLen; omega
            have HSb : Hid ((t.extract (L1.length + 1) t.size).size ≤ maxLen) := by unfold Hid; rw [ByteArray.size_extract]; unfold maxLen; omega
            have HRa : Hid ((t.extract 0 L1.length).size ≤ 300) := by unfold Hid; rw [ByteArray.size_extract]; omega
            have HRb : Hid ((t.extract (L1.length + 1) t.size).size ≤ 300) := by unfold Hid; rw [ByteArray.size_extract]; omega
            generalize t.extract 0 L1.length = a at *
            generalize t.extract (L1.length + 1) t.size = b at *
            have HAB : Hid (Ost.spanOf t.data.toList = if Ost.isNum a.data.toList && Ost.isNum b.data.toList && (Ost.inIntB a.data.toList && Ost.inIntB b.data.toList) && !Ost.lessB a.data.toList b.data.toList then some (Ost.val a.data.toList, Ost.val b.data.toList) else none) := by
              unfold Hid; rw [HA1.out, HA2.out]; exact HAB0.out
            clear HA1 HA2 HAB0
            rcases two' (Ost.isNum a.data.toList) with hna | hna
            · have HNa := hideIt' hna
              obtain ⟨ka, hka⟩ : ∃ k, min (Ost.val a.data.toList) (1000 + 1) = k := ⟨_, rfl⟩
              have hva := Ost.val_nonneg a.data.toList ((Ost.isNum_iff a.data.toList).1 hna).2.2
              have hka0 : 0 ≤ ka := by omega
              have hka1 : ka ≤ 1001 := by omega
              have HKa := hideIt' hka
              have HVa := hideIt' hva
              clear hka hva
              rcases two' (Ost.isNum b.data.toList) with hnb | hnb
              · have HNb := hideIt' hnb
                obtain ⟨kb, hkb⟩ : ∃ k, min (Ost.val b.data.toList) (1000 + 1) = k := ⟨_, rfl⟩
                have hvb := Ost.val_nonneg b.data.toList ((Ost.isNum_iff b.data.toList).1 hnb).2.2
                have hkb0 : 0 ≤ kb := by omega
                have hkb1 : kb ≤ 1001 := by omega
                have HKb := hideIt' hkb
                have HVb := hideIt' hvb
                clear hkb hvb
                rcases two' (Ost.inIntB a.data.toList) with hia | hia
                · have HIa := hideIt' hia
                  rcases two' (Ost.inIntB b.data.toList) with hib | hib
                  · have HIb := hideIt' hib
                    have HLs := hideIt' (less_cases a b)
                    rcases two' (Ost.lessB a.data.toList b.data.toList) with hlb | hlb
                    · have H : Hid (Ost.parseOut s.data.toList = (0, 4)) := HNx.out.1 (by rw [HAB.out]; simp [hlb])
                      have HT := hideIt' (HLs.out.1 hlb)
                      clear hna hnb hia hib hlb HNx HAB HLs
                      rcases HT.out with hc | ⟨hc, hd⟩
                      · have hc1 : (b.size : Int) < (a.size : Int) := by omega
                        clear HT hc
                        refine (digits_yes a 1000 _ _ HSa.out (by omega) (by omega) HNa.out HKa.out).mono ?_; rintro e w' ⟨rfl, rfl⟩
                        go_wp2_with fail
                        refine (digits_yes b 1000 _ _ HSb.out (by omega) (by omega) HNb.out HKb.out).mono ?_; rintro e w' ⟨rfl, rfl⟩
                        go_wp2_with fail
                        refine (inInt_c a _ true HRa.out HIa.out).mono ?_; rintro e w' ⟨rfl, rfl⟩
                        go_wp2_with fail
                        refine (inInt_c b _ true HRb.out HIb.out).mono ?_; rintro e w' ⟨rfl, rfl⟩
                        go_wp2_with fail
                        go_ret2
                        exact ⟨congrArg Ending.returned (congrArg setNum H.out).symm, hB1⟩
                      · have hle : a.size ≤ b.size := by omega
                        have hc0 : decide ((b.size : Int) < (a.size : Int)) = false := decide_eq_false (by omega)
                        have hc1 : ((a.size : Int) == (b.size : Int)) = true := by rw [beq_iff_eq]; omega
                        clear HT hc
                        refine (digits_yes a 1000 _ _ HSa.out (by omega) (by omega) HNa.out HKa.out).mono ?_; rintro e w' ⟨rfl, rfl⟩
                        go_wp2_with fail
                        refine (digits_yes b 1000 _ _ HSb.out (by omega) (by omega) HNb.out HKb.out).mono ?_; rintro e w' ⟨rfl, rfl⟩
                        go_wp2_with fail
                        refine (inInt_c a _ true HRa.out HIa.out).mono ?_; rintro e w' ⟨rfl, rfl⟩
                        go_wp2_with fail
                        refine (inInt_c b _ true HRb.out HIb.out).mono ?_; rintro e w' ⟨rfl, rfl⟩
                        go_wp2_with fail
                        go_ret2
                        exact ⟨congrArg Ending.returned (congrArg setNum H.out).symm, hB1⟩
                    · have HQ := hideIt' (HNx.out.2 (Ost.val a.data.toList) (Ost.val b.data.toList) (by rw [HAB.out]; simp [hna, hnb, hia, hib, hlb]))
                      have HLe : Hid (Ost.val a.data.toList ≤ Ost.val b.data.toList) := by
                        have h1 := Ost.lessB_val a.data.toList b.data.toList hna hnb
                        rw [hlb] at h1
                        have h2 := of_decide_eq_false h1.symm
                        unfold Hid; omega
                      have HT := hideIt' (HLs.out.2 hlb)
                      clear hna hnb hia hib hlb HNx HAB HLs
                      have hle : a.size ≤ b.size := by have := HT.out.1; omega
                      have hc0 : decide ((b.size : Int) < (a.size : Int)) = false := decide_eq_false (by omega)
                      by_cases hsz : a.size = b.size
                      · have hc1 : ((a.size : Int) == (b.size : Int)) = true := by rw [beq_iff_eq]; omega
                        have hd := HT.out.2 hsz
                        clear HT hsz
                        by_cases h63 : 63 < kb
                        · have H : Hid (Ost.parseOut s.data.toList = (0, 1)) := HQ.out.1 (by have := HKb.out; omega)
                          clear HQ
                          refine (digits_yes a 1000 _ _ HSa.out (by omega) (by omega) HNa.out HKa.out).mono ?_; rintro e w' ⟨rfl, rfl⟩
                          go_wp2_with fail
                          refine (digits_yes b 1000 _ _ HSb.out (by omega) (by omega) HNb.out HKb.out).mono ?_; rintro e w' ⟨rfl, rfl⟩
                          go_wp2_with fail
                          refine (inInt_c a _ true HRa.out HIa.out).mono ?_; rintro e w' ⟨rfl, rfl⟩
                          go_wp2_with fail
                          refine (inInt_c b _ true HRb.out HIb.out).mono ?_; rintro e w' ⟨rfl, rfl⟩
                          go_wp2_with fail
                          go_ret2
                          exact ⟨congrArg Ending.returned (congrArg setNum H.out).symm, hB1⟩
                        · have hkab : ka ≤ kb := by have := HKa.out; have := HKb.out; have := HLe.out; omega
                          have HQ2 : Hid (Left s.data.toList (k + 1) (acc ||| Ost.rb ka.toNat (kb - ka + 1).toNat)) := by
                            have h1 := HQ.out.2 (by have := HKb.out; have := HVb.out; omega)
                            have e1 : Ost.val a.data.toList = ka := by have := HKa.out; have := HKb.out; have := HLe.out; omega
                            have e2 : Ost.val b.data.toList = kb := by have := HKb.out; omega
                            rw [← e1, ← e2]; exact h1
                          obtain ⟨F, rfl⟩ := Int.eq_ofNat_of_zero_le hka0
                          obtain ⟨T, rfl⟩ := Int.eq_ofNat_of_zero_le hkb0
                          have hFT : F ≤ T := by omega
                          have hT63 : T ≤ 63 := by omega
                          clear HQ h63
                          refine (digits_yes a 1000 _ _ HSa.out (by omega) (by omega) HNa.out HKa.out).mono ?_; rintro e w' ⟨rfl, rfl⟩
                          go_wp2_with fail
                          refine (digits_yes b 1000 _ _ HSb.out (by omega) (by omega) HNb.out HKb.out).mono ?_; rintro e w' ⟨rfl, rfl⟩
                          go_wp2_with fail
                          refine (inInt_c a _ true HRa.out HIa.out).mono ?_; rintro e w' ⟨rfl, rfl⟩
                          go_wp2_with fail
                          refine (inInt_c b _ true HRb.out HIb.out).mono ?_; rintro e w' ⟨rfl, rfl⟩
                          go_wp2_with fail
                          go_loop [4, 16] (fun t i => ∃ q : Nat, q ≤ T - F + 1 ∧ i = .int .i64 (F + q : Nat) ∧ t = .int .u64 (acc ||| Ost.rb F q : Nat)) (fun _ i => 65 - (intOf i).toNat)
                          case atStart => exact ⟨0, by omega, rfl, by simp [Ost.rb]⟩
                          case round =>
                            obtain ⟨q, hq, rfl, rfl⟩ := hrel
                            have hlt2 : acc ||| Ost.rb F q < 18446744073709551616 := or_lt _ _ hacc (rb_lt F q (by omega))
                            by_cases hend : F + q ≤ T
                            · have HOr : Hid (bits BinOp.or IntKind.u64 (acc ||| Ost.rb F q : Nat) (IntKind.u64.wrap (2 ^ (F + q))) = ((acc ||| Ost.rb F (q + 1) : Nat) : Int)) := by
                                unfold Hid; rw [or_step _ _ hlt2 (by omega), Ost.rb, Nat.or_assoc]
                              go_wp2_with fail
                              go_round
                              case rel => exact ⟨q + 1, by omega, by go_num, by rw [← HOr.out]⟩
                              case measure => simp [intOf]; omega
                            · have HA : Hid (Left s.data.toList (k + 1) (acc ||| Ost.rb F q)) := by
                                have h1 := HQ2.out
                                rw [show ((F : Nat) : Int).toNat = F by omega, show (((T : Nat) : Int) - (F : Nat) + 1).toNat = q by omega] at h1
                                exact h1
                              go_wp2_with fail
                              go_round
                              case rel => exact ⟨k + 1, _, by omega, hlt2, by go_num, rfl, HA⟩
                              case measure => simp [intOf]; omega
                      · have hc1 : ((a.size : Int) == (b.size : Int)) = false := by rw [beq_eq_false_iff_ne]; omega
                        clear HT hsz
                        by_cases h63 : 63 < kb
                        · have H : Hid (Ost.parseOut s.data.toList = (0, 1)) := HQ.out.1 (by have := HKb.out; omega)
                          clear HQ
                          refine (digits_yes a 1000 _ _ HSa.out (by omega) (by omega) HNa.out HKa.out).mono ?_; rintro e w' ⟨rfl, rfl⟩
                          go_wp2_with fail
                          refine (digits_yes b 1000 _ _ HSb.out (by omega) (by omega) HNb.out HKb.out).mono ?_; rintro e w' ⟨rfl, rfl⟩
                          go_wp2_with fail
                          refine (inInt_c a _ true HRa.out HIa.out).mono ?_; rintro e w' ⟨rfl, rfl⟩
                          go_wp2_with fail
                          refine (inInt_c b _ true HRb.out HIb.out).mono ?_; rintro e w' ⟨rfl, rfl⟩
                          go_wp2_with fail
                          go_ret2
                          exact ⟨congrArg Ending.returned (congrArg setNum H.out).symm, hB1⟩
                        · have hkab : ka ≤ kb := by have := HKa.out; have := HKb.out; have := HLe.out; omega
                          have HQ2 : Hid (Left s.data.toList (k + 1) (acc ||| Ost.rb ka.toNat (kb - ka + 1).toNat)) := by
                            have h1 := HQ.out.2 (by have := HKb.out; have := HVb.out; omega)
                            have e1 : Ost.val a.data.toList = ka := by have := HKa.out; have := HKb.out; have := HLe.out; omega
                            have e2 : Ost.val b.data.toList = kb := by have := HKb.out; omega
                            rw [← e1, ← e2]; exact h1
                          obtain ⟨F, rfl⟩ := Int.eq_ofNat_of_zero_le hka0
                          obtain ⟨T, rfl⟩ := Int.eq_ofNat_of_zero_le hkb0
                          have hFT : F ≤ T := by omega
                          have hT63 : T ≤ 63 := by omega
                          clear HQ h63
                          refine (digits_yes a 1000 _ _ HSa.out (by omega) (by omega) HNa.out HKa.out).mono ?_; rintro e w' ⟨rfl, rfl⟩
                          go_wp2_with fail
                          refine (digits_yes b 1000 _ _ HSb.out (by omega) (by omega) HNb.out HKb.out).mono ?_; rintro e w' ⟨rfl, rfl⟩
                          go_wp2_with fail
                          refine (inInt_c a _ true HRa.out HIa.out).mono ?_; rintro e w' ⟨rfl, rfl⟩
                          go_wp2_with fail
                          refine (inInt_c b _ true HRb.out HIb.out).mono ?_; rintro e w' ⟨rfl, rfl⟩
                          go_wp2_with fail
                          go_loop [4, 16] (fun t i => ∃ q : Nat, q ≤ T - F + 1 ∧ i = .int .i64 (F + q : Nat) ∧ t = .int .u64 (acc ||| Ost.rb F q : Nat)) (fun _ i => 65 - (intOf i).toNat)
                          case atStart => exact ⟨0, by omega, rfl, by simp [Ost.rb]⟩
                          case round =>
                            obtain ⟨q, hq, rfl, rfl⟩ := hrel
                            have hlt2 : acc ||| Ost.rb F q < 18446744073709551616 := or_lt _ _ hacc (rb_lt F q (by omega))
                            by_cases hend : F + q ≤ T
                            · have HOr : Hid (bits BinOp.or IntKind.u64 (acc ||| Ost.rb F q : Nat) (IntKind.u64.wrap (2 ^ (F + q))) = ((acc ||| Ost.rb F (q + 1) : Nat) : Int)) := by
                                unfold Hid; rw [or_step _ _ hlt2 (by omega), Ost.rb, Nat.or_assoc]
                              go_wp2_with fail
                              go_round
                              case rel => exact ⟨q + 1, by omega, by go_num, by rw [← HOr.out]⟩
                              case measure => simp [intOf]; omega
                            · have HA : Hid (Left s.data.toList (k + 1) (acc ||| Ost.rb F q)) := by
                                have h1 := HQ2.out
                                rw [show ((F : Nat) : Int).toNat = F by omega, show (((T : Nat) : Int) - (F : Nat) + 1).toNat = q by omega] at h1
                                exact h1
                              go_wp2_with fail
                              go_round
                              case rel => exact ⟨k + 1, _, by omega, hlt2, by go_num, rfl, HA⟩
                              case measure => simp [intOf]; omega
                  · have HIb := hideIt' hib
                    have H : Hid (Ost.parseOut s.data.toList = (0, 4)) := HNx.out.1 (by rw [HAB.out]; simp [hib])
                    clear hna hnb hia hib HNx HAB
                    refine (digits_yes a 1000 _ _ HSa.out (by omega) (by omega) HNa.out HKa.out).mono ?_; rintro e w' ⟨rfl, rfl⟩
                    go_wp2_with fail
                    refine (digits_yes b 1000 _ _ HSb.out (by omega) (by omega) HNb.out HKb.out).mono ?_; rintro e w' ⟨rfl, rfl⟩
                    go_wp2_with fail
                    refine (inInt_c a _ true HRa.out HIa.out).mono ?_; rintro e w' ⟨rfl, rfl⟩
                    go_wp2_with fail
                    refine (inInt_c b _ false HRb.out HIb.out).mono ?_; rintro e w' ⟨rfl, rfl⟩
                    go_wp2_with fail
                    go_ret2
                    exact ⟨congrArg Ending.returned (congrArg setNum H.out).symm, hB1⟩
                · have HIa := hideIt' hia
                  have H : Hid (Ost.parseOut s.data.toList = (0, 4)) := HNx.out.1 (by rw [HAB.out]; simp [hia])
                  clear hna hnb hia HNx HAB
                  refine (digits_yes a 1000 _ _ HSa.out (by omega) (by omega) HNa.out HKa.out).mono ?_; rintro e w' ⟨rfl, rfl⟩
                  go_wp2_with fail
                  refine (digits_yes b 1000 _ _ HSb.out (by omega) (by omega) HNb.out HKb.out).mono ?_; rintro e w' ⟨rfl, rfl⟩
                  go_wp2_with fail
                  refine (inInt_c a _ false HRa.out HIa.out).mono ?_; rintro e w' ⟨rfl, rfl⟩
                  go_wp2_with fail
                  go_ret2
                  exact ⟨congrArg Ending.returned (congrArg setNum H.out).symm, hB1⟩
              · have HNb := hideIt' hnb
                have H : Hid (Ost.parseOut s.data.toList = (0, 4)) := HNx.out.1 (by rw [HAB.out]; simp [hnb])
                clear hna hnb HNx HAB
                refine (digits_yes a 1000 _ _ HSa.out (by omega) (by omega) HNa.out HKa.out).mono ?_; rintro e w' ⟨rfl, rfl⟩
                go_wp2_with fail
                refine (digits_no b 1000 _ HSb.out (by omega) (by omega) HNb.out).mono ?_; rintro e w' ⟨rfl, rfl⟩
                go_wp2_with (go_at_call 98; refine (inInt_any _ _ (by first | exact HRa.out | exact HRb.out)).mono ?_; rintro e w' ⟨rfl, rfl⟩)
                all_goals go_ret2
                all_goals exact ⟨congrArg Ending.returned (congrArg setNum H.out).symm, hB1⟩
            · have HNa := hideIt' hna
              have H : Hid (Ost.parseOut s.data.toList = (0, 4)) := HNx.out.1 (by rw [HAB.out]; simp [hna])
              clear hna HNx HAB
              refine (digits_no a 1000 _ HSa.out (by omega) (by omega) HNa.out).mono ?_; rintro e w' ⟨rfl, rfl⟩
              go_wp2_with fail
              refine (digits_gen b _ HSb.out).mono ?_; rintro e w' ⟨⟨kq, bq, rfl⟩, rfl⟩
              go_wp2_with (go_at_call 98; refine (inInt_any _ _ (by first | exact HRa.out | exact HRb.out)).mono ?_; rintro e w' ⟨rfl, rfl⟩)
              all_goals go_ret2
              all_goals exact ⟨congrArg Ending.returned (congrArg setNum H.out).symm, hB1⟩
          · have hda : dashAt t.data.toList 0 = -1 := by
              unfold dashAt; rw [List.drop_zero, if_neg (by rw [hf]; simp)]
            rw [hda]
            have HAB := hideIt' (Ost.spanOf_ab t.data.toList t.data.toList t.data.toList (.inr ⟨hf, rfl, rfl⟩))
            have HSt : Hid (t.size ≤ maxLen) := by unfold Hid maxLen; omega
            have HRt : Hid (t.size ≤ 300) := hps
            clear hda hf
            go_wp2_with fail
            rcases two' (Ost.isNum t.data.toList) with hna | hna
            · have HNa := hideIt' hna
              obtain ⟨ka, hka⟩ : ∃ k, min (Ost.val t.data.toList) (1000 + 1) = k := ⟨_, rfl⟩
              have hva := Ost.val_nonneg t.data.toList ((Ost.isNum_iff t.data.toList).1 hna).2.2
              have hka0 : 0 ≤ ka := by omega
              have hka1 : ka ≤ 1001 := by omega
              have HKa := hideIt' hka
              have HVa := hideIt' hva
              clear hka hva
              rcases two' (Ost.isNum t.data.toList) with hnb | hnb
              · have HNb := hideIt' hnb
                obtain ⟨kb, hkb⟩ : ∃ k, min (Ost.val t.data.toList) (1000 + 1) = k := ⟨_, rfl⟩
                have hvb := Ost.val_nonneg t.data.toList ((Ost.isNum_iff t.data.toList).1 hnb).2.2
                have hkb0 : 0 ≤ kb := by omega
                have hkb1 : kb ≤ 1001 := by omega
                have HKb := hideIt' hkb
                have HVb := hideIt' hvb
                clear hkb hvb
                rcases two' (Ost.inIntB t.data.toList) with hia | hia
                · have HIa := hideIt' hia
                  rcases two' (Ost.inIntB t.data.toList) with hib | hib
                  · have HIb := hideIt' hib
                    have HLs := hideIt' (less_cases t t)
                    rcases two' (Ost.lessB t.data.toList t.data.toList) with hlb | hlb
                    · exfalso
                      have h1 := Ost.lessB_val t.data.toList t.data.toList hna hnb
                      rw [hlb] at h1
                      have h2 := of_decide_eq_true h1.symm
                      omega
                    · have HQ := hideIt' (HNx.out.2 (Ost.val t.data.toList) (Ost.val t.data.toList) (by rw [HAB.out]; simp [hna, hia, hlb]))
                      have HLe : Hid (Ost.val t.data.toList ≤ Ost.val t.data.toList) := by
                        have h1 := Ost.lessB_val t.data.toList t.data.toList hna hnb
                        rw [hlb] at h1
                        have h2 := of_decide_eq_false h1.symm
                        unfold Hid; omega
                      have HT := hideIt' (HLs.out.2 hlb)
                      clear hna hnb hia hib hlb HNx HAB HLs
                      have hle : t.size ≤ t.size := by have := HT.out.1; omega
                      have hc0 : decide ((t.size : Int) < (t.size : Int)) = false := decide_eq_false (by omega)
                      have hc1 : ((t.size : Int) == (t.size : Int)) = true := by rw [beq_iff_eq]
                      have hd := HT.out.2 rfl
                      clear HT
                      by_cases h63 : 63 < kb
                      · have H : Hid (Ost.parseOut s.data.toList = (0, 1)) := HQ.out.1 (by have := HKb.out; omega)
                        clear HQ
                        refine (digits_yes t 1000 _ _ HSt.out (by omega) (by omega) HNa.out HKa.out).mono ?_; rintro e w' ⟨rfl, rfl⟩
                        go_wp2_with fail
                        refine (digits_yes t 1000 _ _ HSt.out (by omega) (by omega) HNb.out HKb.out).mono ?_; rintro e w' ⟨rfl, rfl⟩
                        go_wp2_with fail
                        refine (inInt_c t _ true HRt.out HIa.out).mono ?_; rintro e w' ⟨rfl, rfl⟩
                        go_wp2_with fail
                        refine (inInt_c t _ true HRt.out HIb.out).mono ?_; rintro e w' ⟨rfl, rfl⟩
                        go_wp2_with fail
                        go_ret2
                        exact ⟨congrArg Ending.returned (congrArg setNum H.out).symm, hB1⟩
                      · have hkab : ka ≤ kb := by have := HKa.out; have := HKb.out; have := HLe.out; omega
                        have HQ2 : Hid (Left s.data.toList (k + 1) (acc ||| Ost.rb ka.toNat (kb - ka + 1).toNat)) := by
                          have h1 := HQ.out.2 (by have := HKb.out; have := HVb.out; omega)
                          have e1 : Ost.val t.data.toList = ka := by have := HKa.out; have := HKb.out; have := HLe.out; omega
                          have e2 : Ost.val t.data.toList = kb := by have := HKb.out; omega
                          rw [← e1, ← e2]; exact h1
                        obtain ⟨F, rfl⟩ := Int.eq_ofNat_of_zero_le hka0
                        obtain ⟨T, rfl⟩ := Int.eq_ofNat_of_zero_le hkb0
                        have hFT : F ≤ T := by omega
                        have hT63 : T ≤ 63 := by omega
                        clear HQ h63
                        refine (digits_yes t 1000 _ _ HSt.out (by omega) (by omega) HNa.out HKa.out).mono ?_; rintro e w' ⟨rfl, rfl⟩
                        go_wp2_with fail
                        refine (digits_yes t 1000 _ _ HSt.out (by omega) (by omega) HNb.out HKb.out).mono ?_; rintro e w' ⟨rfl, rfl⟩
                        go_wp2_with fail
                        refine (inInt_c t _ true HRt.out HIa.out).mono ?_; rintro e w' ⟨rfl, rfl⟩
                        go_wp2_with fail
                        refine (inInt_c t _ true HRt.out HIb.out).mono ?_; rintro e w' ⟨rfl, rfl⟩
                        go_wp2_with fail
                        go_loop [4, 16] (fun t i => ∃ q : Nat, q ≤ T - F + 1 ∧ i = .int .i64 (F + q : Nat) ∧ t = .int .u64 (acc ||| Ost.rb F q : Nat)) (fun _ i => 65 - (intOf i).toNat)
                        case atStart => exact ⟨0, by omega, rfl, by simp [Ost.rb]⟩
                        case round =>
                          obtain ⟨q, hq, rfl, rfl⟩ := hrel
                          have hlt2 : acc ||| Ost.rb F q < 18446744073709551616 := or_lt _ _ hacc (rb_lt F q (by omega))
                          by_cases hend : F + q ≤ T
                          · have HOr : Hid (bits BinOp.or IntKind.u64 (acc ||| Ost.rb F q : Nat) (IntKind.u64.wrap (2 ^ (F + q))) = ((acc ||| Ost.rb F (q + 1) : Nat) : Int)) := by
                              unfold Hid; rw [or_step _ _ hlt2 (by omega), Ost.rb, Nat.or_assoc]
                            go_wp2_with fail
                            go_round
                            case rel => exact ⟨q + 1, by omega, by go_num, by rw [← HOr.out]⟩
                            case measure => simp [intOf]; omega
                          · have HA : Hid (Left s.data.toList (k + 1) (acc ||| Ost.rb F q)) := by
                              have h1 := HQ2.out
                              rw [show ((F : Nat) : Int).toNat = F by omega, show (((T : Nat) : Int) - (F : Nat) + 1).toNat = q by omega] at h1
                              exact h1
                            go_wp2_with fail
                            go_round
                            case rel => exact ⟨k + 1, _, by omega, hlt2, by go_num, rfl, HA⟩
                            case measure => simp [intOf]; omega
                  · have HIb := hideIt' hib
                    have H : Hid (Ost.parseOut s.data.toList = (0, 4)) := HNx.out.1 (by rw [HAB.out]; simp [hib])
                    clear hna hnb hia hib HNx HAB
                    refine (digits_yes t 1000 _ _ HSt.out (by omega) (by omega) HNa.out HKa.out).mono ?_; rintro e w' ⟨rfl, rfl⟩
                    go_wp2_with fail
                    refine (digits_yes t 1000 _ _ HSt.out (by omega) (by omega) HNb.out HKb.out).mono ?_; rintro e w' ⟨rfl, rfl⟩
                    go_wp2_with fail
                    refine (inInt_c t _ true HRt.out HIa.out).mono ?_; rintro e w' ⟨rfl, rfl⟩
                    go_wp2_with fail
                    refine (inInt_c t _ false HRt.out HIb.out).mono ?_; rintro e w' ⟨rfl, rfl⟩
                    go_wp2_with fail
                    go_ret2
                    exact ⟨congrArg Ending.returned (congrArg setNum H.out).symm, hB1⟩
                · have HIa := hideIt' hia
                  have H : Hid (Ost.parseOut s.data.toList = (0, 4)) := HNx.out.1 (by rw [HAB.out]; simp [hia])
                  clear hna hnb hia HNx HAB
                  refine (digits_yes t 1000 _ _ HSt.out (by omega) (by omega) HNa.out HKa.out).mono ?_; rintro e w' ⟨rfl, rfl⟩
                  go_wp2_with fail
                  refine (digits_yes t 1000 _ _ HSt.out (by omega) (by omega) HNb.out HKb.out).mono ?_; rintro e w' ⟨rfl, rfl⟩
                  go_wp2_with fail
                  refine (inInt_c t _ false HRt.out HIa.out).mono ?_; rintro e w' ⟨rfl, rfl⟩
                  go_wp2_with fail
                  go_ret2
                  exact ⟨congrArg Ending.returned (congrArg setNum H.out).symm, hB1⟩
              · have HNb := hideIt' hnb
                have H : Hid (Ost.parseOut s.data.toList = (0, 4)) := HNx.out.1 (by rw [HAB.out]; simp [hnb])
                clear hna hnb HNx HAB
                refine (digits_yes t 1000 _ _ HSt.out (by omega) (by omega) HNa.out HKa.out).mono ?_; rintro e w' ⟨rfl, rfl⟩
                go_wp2_with fail
                refine (digits_no t 1000 _ HSt.out (by omega) (by omega) HNb.out).mono ?_; rintro e w' ⟨rfl, rfl⟩
                go_wp2_with (go_at_call 98; refine (inInt_any _ _ (by first | exact HRt.out | exact HRt.out)).mono ?_; rintro e w' ⟨rfl, rfl⟩)
                all_goals go_ret2
                all_goals exact ⟨congrArg Ending.returned (congrArg setNum H.out).symm, hB1⟩
            · have HNa := hideIt' hna
              have H : Hid (Ost.parseOut s.data.toList = (0, 4)) := HNx.out.1 (by rw [HAB.out]; simp [hna])
              clear hna HNx HAB
              refine (digits_no t 1000 _ HSt.out (by omega) (by omega) HNa.out).mono ?_; rintro e w' ⟨rfl, rfl⟩
              go_wp2_with fail
              refine (digits_gen t _ HSt.out).mono ?_; rintro e w' ⟨⟨kq, bq, rfl⟩, rfl⟩
              go_wp2_with (go_at_call 98; refine (inInt_any _ _ (by first | exact HRt.out | exact HRt.out)).mono ?_; rintro e w' ⟨rfl, rfl⟩)
              all_goals go_ret2
              all_goals exact ⟨congrArg Ending.returned (congrArg setNum H.out).symm, hB1⟩
        · obtain ⟨q, rfl⟩ : ∃ q, j = q + 1 := ⟨j - 1, by omega⟩
          rw [show ((q + 1 : Nat) : Int) - 1 = (q : Int) by omega]
          clear hj0
          have hq : q < t.size := by omega
          have hdb := dashAt_bd t.data.toList (q + 1)
          rcases two' ((t[q].toNat : Int) == 45) with h45 | h45
          · have HD : Hid (dashAt t.data.toList q = q) := dashAt_dash _ _ (by rw [HLt.out]; exact hq) ((Ost.u8_eq _ 45 (by omega)).2 (by have := beq_iff_eq.1 h45; show t[q].toNat = 45; omega))
            go_wp2_with fail
            go_round
            case rel => exact ⟨q, by omega, rfl, by rw [HD.out]⟩
            case measure => simp [intOf]
          · have HD : Hid (dashAt t.data.toList q = dashAt t.data.toList (q + 1)) := dashAt_not _ _ (by rw [HLt.out]; exact hq) (fun h => by
              have h2 : t[q].toNat = 45 := (Ost.u8_eq _ 45 (by omega)).1 h
              rw [beq_eq_false_iff_ne] at h45; exact h45 (by omega))
            go_wp2_with fail
            go_round
            case rel => exact ⟨q, by omega, rfl, by rw [HD.out]⟩
            case measure => simp [intOf]
    · have H := hideIt' (HLf.out.done (by omega))
      go_wp2_with fail
      go_ret2
      exact ⟨congrArg Ending.returned (congrArg setNum H.out).symm, hB1⟩
end Go.Proofs.YtlljniaobbbjgaaGreatDoor.S1

namespace Go.Proofs.YtlljniaobbbjgaaGreatDoor.S1
open Go.RowKit
theorem bit_eq0 (A n : Nat) (hA : A < 18446744073709551616) : (bits BinOp.and IntKind.u64 ((A : Int) / 2 ^ n) 1 == 0) = !A.testBit n := by
  have e : ((A : Int) / 2 ^ n) = ((A / 2 ^ n : Nat) : Int) := by simp
  have hlt : A / 2 ^ n < 18446744073709551616 := Nat.lt_of_le_of_lt (Nat.div_le_self _ _) hA
  rw [e, show (1 : Int) = ((1 : Nat) : Int) from rfl, bits_and_u64_nat _ _ hlt (by omega), Nat.testBit_eq_decide_div_mod_eq, Nat.and_one_is_mod]
  rw [Bool.eq_iff_iff]; simp; omega
theorem dec_nat (k : Nat) : dec (k : Int) = Lib.decDigits k := by unfold dec; rw [Int.toNat_natCast]
theorem decimal_nat (k : Nat) (w : World) (h : k < 64) :
    Calls Tryz.prog 34 #[.int .i64 k] w fun e w' => e = .returned (.string ⟨(Lib.decDigits k).toArray⟩) ∧ Below w.heap.size w w' := by
  have := decimal (k : Int) w (by omega) (by omega)
  rw [dec_nat] at this; exact this
theorem joined_bd (A k : Nat) (hk : k ≤ 64) : (Ost.joined (Ost.spansTo A k)).length ≤ 200 := by
  have h1 := Ost.joined_len (Ost.spansTo A k) (fun p hp => by have := Ost.spansTo_mem A k p hp; omega)
  have h2 := (Ost.spansTo_half A k).1
  omega
/-- A run that goes on. -/
def Run (A k e : Nat) : Prop := k ≤ e ∧ e ≤ 63 ∧ Ost.spansTo A e = Ost.spansTo A k ∧ Ost.runStart A e = k ∧ A.testBit e = true
theorem Run.more {A k e : Nat} (h : Run A k e) (he : e < 63) (hb : A.testBit (e + 1) = true) : Run A k (e + 1) := by
  obtain ⟨h1, h2, h3, h4, h5⟩ := h
  refine ⟨by omega, by omega, ?_, ?_, hb⟩
  · rw [Ost.spansTo, hb]; simp [h3]
  · rw [Ost.runStart, if_pos h5, h4]
theorem Run.stop {A k e : Nat} (h : Run A k e) (hA : A < 18446744073709551616) (hs : ¬ (e < 63 ∧ A.testBit (e + 1) = true)) : Ost.spansTo A (e + 1) = Ost.spansTo A k ++ [(k, e)] ∧ A.testBit (e + 1) = false := by
  obtain ⟨h1, h2, h3, h4, h5⟩ := h
  have hb : A.testBit (e + 1) = false := by
    by_cases h6 : e < 63
    · cases h7 : A.testBit (e + 1) with
      | false => rfl
      | true => exact absurd ⟨h6, h7⟩ hs
    · exact Ost.bit_high A hA (e + 1) (by omega)
  refine ⟨?_, hb⟩
  rw [Ost.spansTo, h5, hb, h3, h4]; rfl
set_option maxRecDepth 100000 in
set_option maxHeartbeats 4000000 in
theorem setText_any (A : Nat) (w : World) (hA : A < 18446744073709551616) :
    Calls Tryz.prog 64 #[.int .u64 A] w fun e w' => e = .returned (.string ⟨(Ost.txt A).toArray⟩) ∧ Below w.heap.size w w' := by
  go_enter Tryz.func64, Tryz.ntmps64
  go_wp2_with fail
  go_loopw [3, 4] (fun t n wr => ∃ k : Nat, k ≤ 64 ∧ n = .int .i64 k ∧ t = .string ⟨(Ost.joined (Ost.spansTo A k)).toArray⟩ ∧ Hid (A.testBit k = true → Ost.runStart A k = k) ∧ Below w.heap.size w wr) (fun _ n _ => 64 - (intOf n).toNat)
  case atStart => exact ⟨0, by omega, rfl, rfl, fun _ => rfl, Below.refl _ _⟩
  case round =>
    obtain ⟨k, hk, rfl, rfl, HR, hnx⟩ := hrel
    by_cases hlt : k < 64
    · have hlen := joined_bd A k hk
      have h00 := bit_eq0 A k hA
      rcases two' (A.testBit k) with hb | hb
      · rw [hb] at h00
        have HRun : Hid (Run A k k) := ⟨Nat.le_refl _, by omega, rfl, HR.out hb, hb⟩
        clear hb
        have h01 : (bits BinOp.and IntKind.u64 ((A : Int) / 2 ^ k) 1 == 0) = false := h00
        clear h00 HR
        go_wp2_with fail
        go_loop [5] (fun i => ∃ e : Nat, e ≤ 63 ∧ k ≤ e ∧ i = .int .i64 e ∧ Hid (Run A k e)) (fun i => 63 - (intOf i).toNat)
        case atStart => exact ⟨k, by omega, by omega, rfl, HRun⟩
        case round =>
          obtain ⟨e, he, hke, rfl, HE⟩ := hrel
          clear HRun
          have hbe := bit_eq A (e + 1) hA
          by_cases hgo : e < 63 ∧ A.testBit (e + 1) = true
          · have HM := hideIt' (HE.out.more hgo.1 hgo.2)
            have h1 := hgo.1
            rw [hgo.2] at hbe
            clear hgo
            go_wp2_with fail
            go_round
            case rel => exact ⟨e + 1, by omega, by omega, by go_num, HM⟩
            case measure => simp [intOf]; omega
          · have hst := HE.out.stop hA hgo
            have HS := hideIt' hst.1
            have HB := hideIt' hst.2
            have key : ¬ e < 63 ∨ (e < 63 ∧ (bits BinOp.and IntKind.u64 ((A : Int) / 2 ^ (e + 1)) 1 == 1) = false) := by
              by_cases h1 : e < 63
              · exact .inr ⟨h1, by rw [hbe]; exact hst.2⟩
              · exact .inl h1
            have HJ := hideIt' (Ost.joined_snoc (Ost.spansTo A k) (k, e))
            clear hst hgo hbe HE
            have l1 := Ost.dd_two k (by omega)
            have l2 := Ost.dd_two e (by omega)
            rcases key with h1 | ⟨h1, h2⟩
            all_goals
              by_cases hem : Ost.joined (Ost.spansTo A k) = []
              · have hie : (Ost.joined (Ost.spansTo A k)).isEmpty = true := by rw [hem]; rfl
                have HJ2 : Hid (Ost.joined (Ost.spansTo A (e + 1)) = Ost.joined (Ost.spansTo A k) ++ Ost.spanTxt (k, e)) := by
                  unfold Hid; rw [HS.out, HJ.out, if_pos hem, hem]; rfl
                clear hem HJ
                by_cases hmo : k < e
                · skip
                  have HT : Hid (Ost.joined (Ost.spansTo A (e + 1)) = Ost.joined (Ost.spansTo A k) ++ Lib.decDigits k ++ [45] ++ Lib.decDigits e) := by
                    unfold Hid; rw [HJ2.out, Ost.spanTxt, if_neg (by simp; omega)]; simp
                  go_wp2_with fail
                  refine (decimal_nat k _ hlt).mono ?_
                  rintro e1 w1 ⟨rfl, hb1⟩
                  have hB1 := hnx.trans (hb1.mono hnx.size)
                  clear hb1
                  go_wp2_with fail
                  refine (decimal_nat e _ (by omega)).mono ?_
                  rintro e2 w2 ⟨rfl, hb2⟩
                  have hB2 := hB1.trans (hb2.mono hB1.size)
                  clear hb2
                  go_wp2_with fail
                  go_roundw
                  case rel =>
                    refine ⟨e + 1, by omega, by go_num, ?_, (fun hb => by rw [HB.out] at hb; cases hb), hB2⟩
                    rw [HT.out]
                    show Value.string (((ByteArray.mk (Ost.joined (Ost.spansTo A k)).toArray ++ ByteArray.mk (Lib.decDigits k).toArray) ++ ByteArray.mk [45].toArray) ++ ByteArray.mk (Lib.decDigits e).toArray) = _
                    simp only [str_app]
                  case measure => simp [intOf]; omega
                · skip
                  have HT : Hid (Ost.joined (Ost.spansTo A (e + 1)) = Ost.joined (Ost.spansTo A k) ++ Lib.decDigits k) := by
                    unfold Hid; rw [HJ2.out, Ost.spanTxt, if_pos (by simp; omega)]
                  go_wp2_with fail
                  refine (decimal_nat k _ hlt).mono ?_
                  rintro e1 w1 ⟨rfl, hb1⟩
                  have hB1 := hnx.trans (hb1.mono hnx.size)
                  clear hb1
                  go_wp2_with fail
                  go_roundw
                  case rel =>
                    refine ⟨e + 1, by omega, by go_num, ?_, (fun hb => by rw [HB.out] at hb; cases hb), hB1⟩
                    rw [HT.out]
                    show Value.string (ByteArray.mk (Ost.joined (Ost.spansTo A k)).toArray ++ ByteArray.mk (Lib.decDigits k).toArray) = _
                    simp only [str_app]
                  case measure => simp [intOf]; omega
              · have hie : (Ost.joined (Ost.spansTo A k)).isEmpty = false := by cases hj : Ost.joined (Ost.spansTo A k) with
                  | nil => exact absurd hj hem
                  | cons _ _ => rfl
                have HJ2 : Hid (Ost.joined (Ost.spansTo A (e + 1)) = Ost.joined (Ost.spansTo A k) ++ [44] ++ Ost.spanTxt (k, e)) := by
                  unfold Hid; rw [HS.out, HJ.out, if_neg hem]
                clear hem HJ
                by_cases hmo : k < e
                · skip
                  have HT : Hid (Ost.joined (Ost.spansTo A (e + 1)) = Ost.joined (Ost.spansTo A k) ++ [44] ++ Lib.decDigits k ++ [45] ++ Lib.decDigits e) := by
                    unfold Hid; rw [HJ2.out, Ost.spanTxt, if_neg (by simp; omega)]; simp
                  go_wp2_with fail
                  refine (decimal_nat k _ hlt).mono ?_
                  rintro e1 w1 ⟨rfl, hb1⟩
                  have hB1 := hnx.trans (hb1.mono hnx.size)
                  clear hb1
                  go_wp2_with fail
                  refine (decimal_nat e _ (by omega)).mono ?_
                  rintro e2 w2 ⟨rfl, hb2⟩
                  have hB2 := hB1.trans (hb2.mono hB1.size)
                  clear hb2
                  go_wp2_with fail
                  go_roundw
                  case rel =>
                    refine ⟨e + 1, by omega, by go_num, ?_, (fun hb => by rw [HB.out] at hb; cases hb), hB2⟩
                    rw [HT.out]
                    show Value.string ((((ByteArray.mk (Ost.joined (Ost.spansTo A k)).toArray ++ ByteArray.mk [44].toArray) ++ ByteArray.mk (Lib.decDigits k).toArray) ++ ByteArray.mk [45].toArray) ++ ByteArray.mk (Lib.decDigits e).toArray) = _
                    simp only [str_app]
                  case measure => simp [intOf]; omega
                · skip
                  have HT : Hid (Ost.joined (Ost.spansTo A (e + 1)) = Ost.joined (Ost.spansTo A k) ++ [44] ++ Lib.decDigits k) := by
                    unfold Hid; rw [HJ2.out, Ost.spanTxt, if_pos (by simp; omega)]
                  go_wp2_with fail
                  refine (decimal_nat k _ hlt).mono ?_
                  rintro e1 w1 ⟨rfl, hb1⟩
                  have hB1 := hnx.trans (hb1.mono hnx.size)
                  clear hb1
                  go_wp2_with fail
                  go_roundw
                  case rel =>
                    refine ⟨e + 1, by omega, by go_num, ?_, (fun hb => by rw [HB.out] at hb; cases hb), hB1⟩
                    rw [HT.out]
                    show Value.string ((ByteArray.mk (Ost.joined (Ost.spansTo A k)).toArray ++ ByteArray.mk [44].toArray) ++ ByteArray.mk (Lib.decDigits k).toArray) = _
                    simp only [str_app]
                  case measure => simp [intOf]; omega
      · rw [hb] at h00
        have h01 : (bits BinOp.and IntKind.u64 ((A : Int) / 2 ^ k) 1 == 0) = true := h00
        have HS : Hid (Ost.spansTo A (k + 1) = Ost.spansTo A k) := by unfold Hid; rw [Ost.spansTo, hb]; rfl
        have HR2 : Hid (Ost.runStart A (k + 1) = k + 1) := by unfold Hid; rw [Ost.runStart, if_neg (by rw [hb]; simp)]
        clear hb h00 HR
        go_wp2_with fail
        go_roundw
        case rel => exact ⟨k + 1, by omega, by go_num, by rw [HS.out], fun _ => HR2.out, hnx⟩
        case measure => simp [intOf]; omega
    · have hk64 : k = 64 := by omega
      subst hk64
      clear hk hlt
      go_wp2_with fail
      go_ret
      exact ⟨rfl, hnx⟩
end Go.Proofs.YtlljniaobbbjgaaGreatDoor.S1

namespace Go.Proofs.YtlljniaobbbjgaaGreatDoor
open Go.RowKit
open Qos (Nd Ct Pd nd0 ct0 pd0 nd ct pd silent certain classOf quiet sure sumM sumB Mild)
end Go.Proofs.YtlljniaobbbjgaaGreatDoor

namespace Go.Proofs.YtlljniaobbbjgaaGreatDoor
open Go.RowKit
open Qos (Nd Ct Pd nd0 ct0 pd0 nd ct pd silent certain classOf quiet sure sumM sumB Mild)
/-- Two numbers side by side, all its own. -/
def TwoAt (w : World) (B : Nat) (m b : Int) : Prop := (w.cell? ⟨B, 0, none⟩ = some (.int .i64 m) ∧ w.frozen? ⟨B, 0, none⟩ = false) ∧ (w.cell? ⟨B, 1, none⟩ = some (.int .i64 b) ∧ w.frozen? ⟨B, 1, none⟩ = false)
theorem TwoAt.lt {w : World} {B : Nat} {m b : Int} (h : TwoAt w B m b) : B < w.heap.size := World.block_lt_of_cell? w _ h.1.1
theorem TwoAt.kept {w w' : World} {B : Nat} {m b : Int} {g : Option Nat} (h : TwoAt w B m b) (hg : w.grownBy w' g) (hne : some B ≠ g) : TwoAt w' B m b :=
  ⟨⟨(hg.cell_far _ h.lt hne).trans h.1.1, (hg.frozen_far _ h.lt hne).trans h.1.2⟩, ⟨(hg.cell_far _ h.lt hne).trans h.2.1, (hg.frozen_far _ h.lt hne).trans h.2.2⟩⟩
theorem TwoAt.below {w w' : World} {B : Nat} {m b : Int} (h : TwoAt w B m b) (hb : Below w.heap.size w w') : TwoAt w' B m b := h.kept (grown_below hb none) (by simp)
theorem TwoAt.alloc {w : World} {B : Nat} {m b : Int} (h : TwoAt w B m b) (o : Obj) : TwoAt (w.alloc o) B m b := h.below ((Below.refl _ w).alloc (Nat.le_refl _) o)
theorem TwoAt.made (w : World) (t : TypeId) (m b : Int) : TwoAt (w.alloc (.cells #[.int .i64 m, .int .i64 b] t)) w.heap.size m b := ⟨⟨by simp, by simp⟩, ⟨by simp, by simp⟩⟩
end Go.Proofs.YtlljniaobbbjgaaGreatDoor

namespace Go.Proofs.YtlljniaobbbjgaaGreatDoor
open Go.RowKit Go.Shelf
open Ost (splitC)
attribute [local go_sem] Oper.semAt_some
theorem results_cc {fn : Func} {p q : Tmp} {ty ty' : TypeId} (h : fn.results = #[.cell p ty, .cell q ty']) (tmps : Array Value) (P : Program) (w : World) :
    (results fn tmps).run P w =
      ((asAddr (tmps.getD p undef)).run P w).andThen fun a w₁ => ((loadVar ty a).run P w₁).andThen fun v w₂ => ((asAddr (tmps.getD q undef)).run P w₂).andThen fun b w₃ => ((loadVar ty' b).run P w₃).andThen fun u w₄ => .ok (.tuple #[v, u]) w₄ := by
  simp only [results, h]
  simp [Sem.run_bind, Result.andThen]
theorem Apart.boxed {K : Nat → Prop} {A B : World} (h : Apart K A B) {b : Nat} {t : TypeId} {v : Value} (hb : Boxed A b t v) (hn : ¬ K b) : Boxed B b t v := (h.block b hb.lt hn).trans hb
theorem Apart.below {K : Nat → Prop} {A B : World} (h : Apart K A B) {w : World} {N : Nat} (hb : Below N w A) (hN : N ≤ w.heap.size) (hK : ∀ j, K j → N ≤ j) : Below N w B :=
  ⟨h.os.trans hb.os, h.tape.trans hb.tape, h.output.trans hb.output, Nat.le_trans hb.size h.size, fun j hj => (h.block j (Nat.lt_of_lt_of_le (Nat.lt_of_lt_of_le hj hN) hb.size) (fun e => by have := hK j e; omega)).trans (hb.block j hj)⟩
theorem Apart.row {K : Nat → Prop} {A B : World} (h : Apart K A B) {base : Nat} {e : TypeId} {size : Nat} {v : Value} {n : Nat} {xs : List Value} (hr : A.ownsRow base e size v n xs) (hK : ∀ j, K j → j < base) : B.ownsRow base e size v n xs := by
  obtain ⟨h1, h2⟩ := hr
  refine ⟨h1, h2.imp id ?_⟩
  rintro ⟨g, cap, cur, hv, hg, hh, r⟩
  exact ⟨g, cap, cur, hv, hg, (h.block g (Array.getElem?_eq_some_iff.1 hh).1 (fun e => by have := hK g e; omega)).trans hh, r⟩
def intsV (l : List Int) : List Value := l.map fun (n : Int) => Value.int .i64 n
theorem ints_of_row {w : World} {base : Nat} {v : Value} {xs : List Int} (h : w.ownsRow base 3 1 v xs.length (intsV xs)) : IntsOf w v xs := by
  obtain ⟨hl, h⟩ := h
  rcases h with ⟨rfl, h0⟩ | ⟨g, cap, cur, rfl, hb, hh, hn, hc, hs, ht⟩
  · exact ⟨none, 0, by rw [h0], ⟨by omega, by unfold maxLen; omega⟩, fun h => by omega⟩
  · refine ⟨_, cap, rfl, ⟨hn, hc⟩, fun _ => ⟨g, 0, rfl, (Array.getElem?_eq_some_iff.1 hh).1, fun k hk => ?_⟩⟩
    have hx : (intsV xs)[k]? = some (.int .i64 (xs.getD k 0)) := by simp [intsV, hk]
    rw [← ht, List.getElem?_take, if_pos (by omega)] at hx
    rw [Nat.zero_add]
    simp only [World.cell?, hh]
    simpa using hx
/-- What is read of the first pieces. -/
def numsTo (ps : List (List UInt8)) (k : Nat) : List Int := (ps.take k).map nOf
theorem numsTo_next {ps : List (List UInt8)} {k : Nat} (h : k < ps.length) : numsTo ps (k + 1) = numsTo ps k ++ [nOf ps[k]] := by
  unfold numsTo
  rw [List.take_succ_eq_append_getElem h, List.map_append]; rfl
theorem numsTo_len {ps : List (List UInt8)} {k : Nat} (h : k ≤ ps.length) : (numsTo ps k).length = k := by unfold numsTo; simp; omega
theorem allOf_good {ps : List (List UInt8)} (h : ∀ x ∈ ps, gOf x = true) : Sv.allOf Sv.numS ps = some (ps.map nOf) := by
  induction ps with
  | nil => rfl
  | cons x r ih => rw [Sv.allOf, numS_n, if_pos (h x (by simp)), ih fun y hy => h y (by simp [hy])]; rfl
theorem allOf_bad {ps : List (List UInt8)} {x : List UInt8} (hx : x ∈ ps) (h : gOf x = false) : Sv.allOf Sv.numS ps = none := by
  induction ps with
  | nil => simp at hx
  | cons y r ih =>
    rw [Sv.allOf, numS_n]
    rcases List.mem_cons.1 hx with rfl | hx
    · rw [h]; rfl
    · cases gOf y with
      | true => rw [if_pos rfl, ih hx]; rfl
      | false => rfl
/-- What reading a list of numbers leaves. -/
def ReadsInts (w : World) (l : List UInt8) (e : Ending) (w' : World) : Prop :=
  ∃ v, e = .returned (.tuple #[v, .bool (Sv.listOf Sv.numS l).isSome]) ∧ (∀ xs, Sv.listOf Sv.numS l = some xs → IntsOf w' v xs) ∧ (∃ a n c, v = .slice a n c ∧ ∀ x, a = some x → w.heap.size ≤ x.block) ∧ Below w.heap.size w w'
theorem IntsOf.put {w : World} {v : Value} {xs : List Int} (h : IntsOf w v xs) {D : Nat} {o : Obj} (o' : Obj) (hD : w.heap[D]? = some o) (ho : o.isCells = false) : IntsOf (w.putObj D o') v xs := by
  obtain ⟨ao, c, hv, hc, hr⟩ := h
  refine ⟨ao, c, hv, hc, fun h0 => ?_⟩
  obtain ⟨g, o2, ha, hlt, hcs⟩ := hr h0
  exact ⟨g, o2, ha, Nat.lt_of_lt_of_le hlt (grownBy_putObj' w D o').size, fun k hk => cell_kept (hcs k hk) (grownBy_putObj' w D o') (fun r e => by cases e; exact ⟨_, hD, ho⟩)⟩
theorem spTs_len (c : UInt8) (s : List UInt8) : (spTs c s).length = (splitC c s).length := by simp [spTs]
theorem spTs_at (c : UInt8) (s : List UInt8) (k : Nat) (hk : k < (splitC c s).length) : (spTs c s)[k]'(by rw [spTs_len]; exact hk) = #[Value.string ⟨((splitC c s)[k]).toArray⟩] := by simp [spTs]
theorem infoIntV : (Tryz.prog.info? 3).map (fun i => (i.zero, i.size, i.bytes)) = some (some (.int .i64 0), 1, 8) := by kernel_rfl
theorem own_slice {w : World} {base : Nat} {e : TypeId} {size : Nat} {v : Value} {n : Nat} {xs : List Value} (h : w.ownsRow base e size v n xs) : ∃ ao c, v = .slice ao n c := by
  rcases h.2 with ⟨rfl, h0⟩ | ⟨g, cap, cur, rfl, _⟩
  · exact ⟨none, 0, by rw [h0]⟩
  · exact ⟨_, _, rfl⟩
theorem row_base {w : World} {base : Nat} {e : TypeId} {size : Nat} {ao : Option Addr} {n m c : Nat} {xs : List Value} (h : w.ownsRow base e size (.slice ao m c) n xs) (x : Addr) (hx : ao = some x) : base ≤ x.block := by
  rcases h.2 with ⟨h1, _⟩ | ⟨g, cap, cur, h1, hb, _⟩
  · subst hx; cases h1
  · subst hx
    injection h1 with h2 _ _
    injection h2 with h3
    rw [h3]; exact hb
theorem IntsOf.apart {K : Nat → Prop} {N : Nat} {A B : World} {v : Value} {xs : List Int} (h : IntsOf A v xs) (hv : ∃ a n c, v = .slice a n c ∧ ∀ x, a = some x → N ≤ x.block) (hab : Apart K A B) (hK : ∀ j, K j → j < N) : IntsOf B v xs := by
  obtain ⟨ao, c, rfl, hc, hr⟩ := h
  obtain ⟨_, _, _, e, hx⟩ := hv
  cases e
  refine ⟨ao, c, rfl, hc, fun h0 => ?_⟩
  obtain ⟨b, o, ha, hlt, hcs⟩ := hr h0
  have hb := hx _ ha
  have hblk := hab.block b hlt (fun e => by have := hK b e; simp at hb; omega)
  exact ⟨b, o, ha, Nat.lt_of_lt_of_le hlt hab.size, fun k hk => (World.cell?_of_block (a := ⟨b, o + k, none⟩) hblk).trans (hcs k hk)⟩
/-- What an append onto a row of the call's own leaves as it was. -/
theorem row_apart {w W : World} {base : Nat} {e : TypeId} {size : Nat} {v : Value} {n : Nat} {xs : List Value} {o : Obj} (h : w.ownsRow base e size v n xs) (hg : (w.alloc o).grownBy W v.ownBlock) : Apart (fun j => base ≤ j) w W := by
  refine (Apart.alloc _ w o).trans ⟨hg.os, hg.tape, hg.output, hg.size, fun j hj hn => hg.block j hj fun e => hn (h.lt j e.symm).1⟩
/-- Where the reading of numbers stands. -/
structure RInv (w A : World) (ps : List (List UInt8)) (k : Nat) (W : World) : Prop where
  le : k ≤ ps.length
  b0 : Boxed W w.heap.size 106 (.func (.func 92) #[] #[])
  b1 : Boxed W (w.heap.size + 1) 62 (.slice none 0 0)
  b2 : Boxed W (w.heap.size + 1 + 1) 4 (.bool false)
  row : ∃ v, Boxed W (w.heap.size + 1 + 1 + 1) 62 v ∧ W.ownsRow (A.heap.size + 2) 3 1 v (numsTo ps k).length (intsV (numsTo ps k))
  below : Below w.heap.size w W
  good : ∀ x ∈ ps.take k, gOf x = true
theorem RInv.apart {w A : World} {ps : List (List UInt8)} {k : Nat} {B C : World} (h : RInv w A ps k B) (hA : A.heap.size = w.heap.size + 1 + 1 + 1 + 1 + 3) (hab : Apart (fun j => KSp (w.heap.size + 1 + 1 + 1 + 1) j ∨ j = A.heap.size + 1) B C) : RInv w A ps k C := by
  obtain ⟨h1, h2, h3, h4, ⟨v, h5, h6⟩, h7, h8⟩ := h
  exact ⟨h1, hab.boxed h2 (by unfold KSp; omega), hab.boxed h3 (by unfold KSp; omega), hab.boxed h4 (by unfold KSp; omega), ⟨v, hab.boxed h5 (by unfold KSp; omega), hab.row h6 (fun j hj => by unfold KSp at hj; omega)⟩, hab.below h7 (Nat.le_refl _) (fun j hj => by unfold KSp at hj; omega), h8⟩
set_option maxRecDepth 100000 in
set_option maxHeartbeats 4000000 in
theorem readInts_any (s : ByteArray) (w : World) (hs : s.size ≤ 100000) :
    Calls Tryz.prog 97 #[.string s, .func (.func 92) #[] #[]] w (ReadsInts w s.data.toList) := by
  have hq := dash_eq s
  obtain ⟨i0, hi, hz0, hz1, hz2⟩ := info_parts infoIntV
  have hb3 := ((((Below.refl w.heap.size w).alloc (Nat.le_refl _) (.cells #[.func (.func 92) #[] #[]] 106)).alloc (by simp) (.cells #[.slice none 0 0] 62)).alloc (by simp; omega) (.cells #[.bool false] 4))
  by_cases h : s.data.toList = [45]
  · rw [decide_eq_true h] at hq
    have HL : Hid (Sv.listOf Sv.numS s.data.toList = some []) := by unfold Hid Sv.listOf; rw [if_pos h]
    clear hb3
    have hb := ((((Below.refl w.heap.size w).alloc (Nat.le_refl _) (.cells #[.func (.func 92) #[] #[]] 106)).alloc (by simp) (.cells #[.slice none 0 0] 62)).alloc (by simp; omega) (.cells #[.bool true] 4))
    have HB := hideIt hb
    clear hb
    go_enter Tryz.func97, Tryz.ntmps97
    go_wp2_with fail
    (try simp only [Exit.inBlock, Exit.then])
    refine bodyPost_ret (v := .tuple #[.slice none 0 0, .bool true]) ?_ rfl ⟨.slice none 0 0, by rw [HL.out]; rfl, fun xs hx => ?_, ⟨_, _, _, rfl, fun x hx => by cases hx⟩, HB.out⟩
    · rw [results_cc rfl]
      go_simp
    · rw [HL.out] at hx
      cases hx
      exact ⟨none, 0, rfl, ⟨by simp, by unfold maxLen; omega⟩, fun h => by simp at h⟩
  · rw [decide_eq_false h] at hq
    have HB3 := hideIt hb3
    clear hb3
    have x3 := ((Boxed.new w 106 (.func (.func 92) #[] #[])).alloc (.cells #[.slice none 0 0] 62)).alloc (.cells #[.bool false] 4) |>.alloc (.cells #[.slice none 0 0] 62)
    have x4 := ((Boxed.new (w.alloc (.cells #[.func (.func 92) #[] #[]] 106)) 62 (.slice none 0 0)).alloc (.cells #[.bool false] 4)).alloc (.cells #[.slice none 0 0] 62)
    have x5 := (Boxed.new ((w.alloc (.cells #[.func (.func 92) #[] #[]] 106)).alloc (.cells #[.slice none 0 0] 62)) 4 (.bool false)).alloc (.cells #[.slice none 0 0] 62)
    have x6 := Boxed.new (((w.alloc (.cells #[.func (.func 92) #[] #[]] 106)).alloc (.cells #[.slice none 0 0] 62)).alloc (.cells #[.bool false] 4)) 62 (.slice none 0 0)
    simp only [World.size_alloc] at x4 x5 x6
    have HB4 := hideIt (HB3.out.alloc (by simp; omega) (.cells #[.slice none 0 0] 62))
    have hsz : ((((w.alloc (.cells #[.func (.func 92) #[] #[]] 106)).alloc (.cells #[.slice none 0 0] 62)).alloc (.cells #[.bool false] 4)).alloc (.cells #[.slice none 0 0] 62)).heap.size = w.heap.size + 1 + 1 + 1 + 1 := by simp
    have X3 := hideIt x3
    have X4 := hideIt x4
    have X5 := hideIt x5
    have X6 := hideIt x6
    clear x3 x4 x5 x6 HB3
    refine (callsIn_wide (n := 3)).1 ?_
    refine callsIn_of_wp_marks Tryz.func97 rfl trivial ?_ rfl
    simp only [Tryz.ntmps97, List.size_toArray, List.length_cons, List.length_nil, Nat.reduceAdd, Nat.reduceSub, Array.replicate_succ, Array.replicate_zero, List.push_toArray, List.append_toArray, List.nil_append, List.cons_append]
    gi_wp2_with fail
    generalize (((w.alloc (.cells #[.func (.func 92) #[] #[]] 106)).alloc (.cells #[.slice none 0 0] 62)).alloc (.cells #[.bool false] 4)).alloc (.cells #[.slice none 0 0] 62) = V at *
    refine ⟨trivial, (callsIn_wide.2 (splitSeq_new s 44 V)).mono ?_⟩
    rintro e A ⟨rfl, hspb, hbA, hszA⟩
    have HBA := hideIt (HB4.out.trans (hbA.mono HB4.out.size))
    have XA3 := hideIt (show Boxed A _ _ _ from (hbA.block _ X3.out.lt).trans X3.out)
    have XA4 := hideIt (show Boxed A _ _ _ from (hbA.block _ X4.out.lt).trans X4.out)
    have XA5 := hideIt (show Boxed A _ _ _ from (hbA.block _ X5.out.lt).trans X5.out)
    have XA6 := hideIt (show Boxed A _ _ _ from (hbA.block _ X6.out.lt).trans X6.out)
    have hseq := splitSeq_iter 2 (by omega) V.heap.size 44 s.data.toList A hspb (by simp; omega)
    rw [hsz] at hszA hseq ⊢
    clear hbA X3 X4 X5 X6 HB4 hspb hsz
    gi_wp2_with fail
    have HL : Hid (Sv.listOf Sv.numS s.data.toList = Sv.allOf Sv.numS (splitC 44 s.data.toList)) := by unfold Hid Sv.listOf; rw [if_neg h]
    have HSP := hideIt (S1.splitC_mem 44 s.data.toList)
    have HSL := hideIt (S1.splitC_len 44 s.data.toList)
    have hdl : s.data.toList.length = s.size := by simp
    generalize hgl : s.data.toList = sl at *
    generalize hps : splitC 44 sl = ps at *
    have HTS : Hid (∀ k, (hk : k < ps.length) → ∃ hk' : k < (spTs 44 sl).length, (spTs 44 sl)[k] = #[Value.string ⟨(ps.getD k []).toArray⟩]) := fun k hk => by
      subst hps
      exact ⟨by rw [spTs_len]; exact hk, by rw [spTs_at _ _ _ hk]; simp [hk]⟩
    have HTL : Hid ((spTs 44 sl).length = ps.length) := by unfold Hid; rw [spTs_len, hps]
    have HTZ : Hid (∀ x ∈ spTs 44 sl, x.size = 1) := by
      intro x hx
      obtain ⟨y, _, rfl⟩ := List.mem_map.1 hx
      rfl
    have hb9 := HBA.out.size
    clear hps h hq
    refine wpIn_rangeW rfl (by omega) (gf := 145) rfl trivial (enters_of Tryz.func145 (by kernel_rfl) rfl) (K := KSp (w.heap.size + 1 + 1 + 1 + 1)) (ts := spTs 44 sl) (fun j hj => by unfold KSp at hj; omega) hseq HTZ.out
      (fun k W => RInv w A ps k W) (fun c W => c = .ret ∧ Boxed W (w.heap.size + 1) 62 (.slice none 0 0) ∧ Boxed W (w.heap.size + 1 + 1) 4 (.bool false) ∧ Below w.heap.size w W ∧ Sv.listOf Sv.numS sl = none)
      (fun k B C hi hab => hi.apart hszA hab) (fun c B C hx hab => ⟨hx.1, hab.boxed hx.2.1 (by unfold KSp; omega), hab.boxed hx.2.2.1 (by unfold KSp; omega), hab.below hx.2.2.2.1 (Nat.le_refl _) (fun j hj => by unfold KSp at hj; omega), hx.2.2.2.2⟩)
      ⟨Nat.zero_le _, XA3.out, XA4.out, XA5.out, ⟨_, XA6.out, World.ownsRow_nil _ _ _ _⟩, HBA.out, by simp⟩
      (fun k => { tmps := #[Value.string s, Value.func (Fn.func 92) #[] #[], undef, Value.pointer (some ⟨w.heap.size, 0, none⟩), Value.pointer (some ⟨w.heap.size + 1, 0, none⟩), Value.pointer (some ⟨w.heap.size + 1 + 1, 0, none⟩), Value.pointer (some ⟨w.heap.size + 1 + 1 + 1, 0, none⟩), Value.string ⟨(ps.getD k []).toArray⟩, undef, undef, Value.string s, Value.bool false, Value.string s, Value.func (Fn.func 145) #[] #[Value.pointer (some ⟨w.heap.size + 1 + 1 + 1 + 1 + 1, 0, none⟩), Value.pointer (some ⟨w.heap.size + 1 + 1 + 1 + 1, 0, none⟩), Value.pointer (some ⟨w.heap.size + 1 + 1 + 1 + 1 + 2, 0, none⟩)], Value.string ⟨(ps.getD k []).toArray⟩, undef, undef, undef, undef, undef, undef, undef, undef, undef, undef, undef, undef, undef], defers := [] }) ?assign ?body ?done ?stop
    case assign =>
      intro l k hk W R hR
      rw [HTL.out] at hk
      obtain ⟨hk', e⟩ := HTS.out k hk
      rw [e]
      clear e
      generalize ps.getD k [] = x at *
      gi_wp2_with fail
      exact hR
    case body =>
      intro l k W hk hWs hI
      rw [HTL.out] at hk
      obtain ⟨h1, hb0, hb1, hb2, ⟨v, hb3, hrow⟩, hbel, hgood⟩ := hI
      have hxm : ps.getD k [] ∈ ps := by simp [hk]
      have hxl := HSP.out _ hxm
      have HTK : Hid (ps.take (k + 1) = ps.take k ++ [ps.getD k []]) := by unfold Hid; rw [List.take_succ_eq_append_getElem hk]; simp [hk]
      have HNX : Hid (numsTo ps (k + 1) = numsTo ps k ++ [nOf (ps.getD k [])]) := by unfold Hid; rw [numsTo_next hk]; simp [hk]
      have HNL := hideIt (numsTo_len h1)
      have hsl := HSL.out
      have HBAD : Hid (gOf (ps.getD k []) = false → Sv.listOf Sv.numS sl = none) := fun hg => by rw [HL.out]; exact allOf_bad hxm hg
      generalize ps.getD k [] = x at *
      have HN := hideIt (readNumber_any ⟨x.toArray⟩ W (by unfold maxLen; show x.length ≤ _; omega))
      rw [show (ByteArray.mk x.toArray).data.toList = x by simp] at HN
      have c0 := hb0.cell
      have HB1 := hideIt hb1
      have HB2 := hideIt hb2
      have HB3 := hideIt hb3
      have HB0 := hideIt hb0
      have HROW := hideIt hrow
      have HBEL := hideIt hbel
      have HGOOD := hideIt hgood
      generalize nOf x = nx at *
      clear hgood hbel hseq HTS HTZ HSP hxm
      rcases two (gOf x) with hg | hg
      · rw [hg] at HN
        have c3 := hb3.cell
        have hlen : (numsTo ps k).length + 1 ≤ 200000 := by rw [HNL.out]; omega
        obtain ⟨va, vc, hv⟩ : ∃ ao c, v = .slice ao (numsTo ps k).length c := by
          rcases hrow.2 with ⟨rfl, h0⟩ | ⟨g, cap, cur, rfl, _⟩
          · exact ⟨none, 0, by rw [h0]⟩
          · exact ⟨_, _, rfl⟩
        generalize numsTo ps k = ns at *
        subst hv
        gi_wp2_with fail
        refine ⟨trivial, (CallsIn.inRound l (callsIn_wide.2 HN.out)).mono ?_⟩
        rintro e w1 ⟨rfl, rfl⟩
        gi_wp2_with (gi_at_builtin; refine wpListIn_append_own_at _ rfl _ _ 62 rfl (A.heap.size + 2) 3 i0 (.int .i64 0) 1 8 Tryz.underlying62 hi hz0 hz1 hz2 rfl (by decide) _ _ _ rfl (hrow.alloc _) ⟨_, 0, none⟩ 1 1 [.int .i64 nx] rfl rfl (cell_one_new _ _ _) (by intro u hu; simp at hu; subst hu; rfl) (by unfold maxLen; omega) (by omega) (by simp; omega) ?_; intro v' W2 hown' hgrow' _ _; obtain ⟨na, nc, rfl⟩ := own_slice hown'; have hg2 : (w1.alloc (.cells #[.int .i64 nx] 3)).grownBy W2 (Value.slice va ns.length vc).ownBlock := hgrow'; clear hgrow'; have hap := row_apart hrow hg2; have hbx2 := hap.boxed hb3 (by omega); have c3' := hbx2.cell; have f3' := hbx2.frozen)
        have hab : Apart (fun j => A.heap.size + 2 ≤ j ∨ j = w.heap.size + 1 + 1 + 1) w1 (W2.setCell ⟨w.heap.size + 1 + 1 + 1, 0, none⟩ (.slice na (ns.length + 1) nc)) := (hap.wide fun _ => .inl).trans (Apart.setCell (.inr rfl) _ _ _)
        refine ⟨fun j hj => hab.block j (by unfold KSp at hj; omega) (by unfold KSp at hj; omega), by omega, hab.boxed HB0.out (by omega), hab.boxed HB1.out (by omega), hab.boxed HB2.out (by omega), ⟨_, hbx2.set _, ?_⟩, hab.below HBEL.out (Nat.le_refl _) (fun j hj => by omega), ?_⟩
        · rw [HNX.out, show intsV (ns ++ [nx]) = intsV ns ++ [.int .i64 nx] by simp [intsV], List.length_append]
          exact (Apart.setCell (K := fun j => j = w.heap.size + 1 + 1 + 1) rfl W2 0 _).row hown' (fun j hj => by omega)
        · rw [HTK.out]
          intro y hy
          rcases List.mem_append.1 hy with hy | hy
          · exact HGOOD.out y hy
          · rw [List.mem_singleton] at hy; rw [hy]; exact hg
      · rw [hg] at HN
        have HNO := hideIt (HBAD.out hg)
        have f1 := hb1.frozen
        have f2 := hb2.frozen
        have c1 := hb1.cell
        have c2 := hb2.cell
        gi_wp2_with fail
        refine ⟨trivial, (CallsIn.inRound l (callsIn_wide.2 HN.out)).mono ?_⟩
        rintro e w1 ⟨rfl, rfl⟩
        gi_wp2_with fail
        have hab : Apart (fun j => j = w.heap.size + 1 ∨ j = w.heap.size + 1 + 1) w1 ((w1.setCell ⟨w.heap.size + 1, 0, none⟩ (.slice none 0 0)).setCell ⟨w.heap.size + 1 + 1, 0, none⟩ (.bool false)) := (Apart.setCell (.inl rfl) _ _ _).trans (Apart.setCell (.inr rfl) _ _ _)
        exact ⟨fun j hj => hab.block j (by unfold KSp at hj; omega) (by unfold KSp at hj; omega), rfl, (Apart.setCell (K := fun j => j = w.heap.size + 1 + 1) rfl _ 0 _).boxed (HB1.out.set _) (by omega), ((Apart.setCell (K := fun j => j = w.heap.size + 1) rfl _ 0 _).boxed HB2.out (by omega)).set _, hab.below HBEL.out (Nat.le_refl _) (fun j hj => by omega), HNO.out⟩
    case done =>
      intro W hI hD
      rw [HTL.out] at hI
      obtain ⟨_, hb0, hb1, hb2, ⟨v, hb3, hrow⟩, hbel, hgood⟩ := hI
      have HS : Hid (Sv.listOf Sv.numS sl = some (numsTo ps ps.length)) := by
        unfold Hid
        rw [List.take_length] at hgood
        rw [HL.out, allOf_good hgood, numsTo, List.take_length]
      have HROW := hideIt hrow
      have c3 := hb3.cell
      have c1 := hb1.cell
      have c2 := hb2.cell
      have f1 := hb1.frozen
      have f2 := hb2.frozen
      have HBEL := hideIt hbel
      have HB1 := hideIt hb1
      have HB2 := hideIt hb2
      obtain ⟨va, vc, rfl⟩ := own_slice hrow
      clear hgood hbel hrow hseq HTS HTZ HSP
      generalize numsTo ps ps.length = ns at *
      gi_wp2_with fail
      have hab : Apart (fun j => j = w.heap.size + 1 ∨ j = w.heap.size + 1 + 1) W ((W.setCell ⟨w.heap.size + 1, 0, none⟩ (.slice va ns.length vc)).setCell ⟨w.heap.size + 1 + 1, 0, none⟩ (.bool true)) := (Apart.setCell (.inl rfl) _ _ _).trans (Apart.setCell (.inr rfl) _ _ _)
      have b1 := (Apart.setCell (K := fun j => j = w.heap.size + 1 + 1) rfl _ 0 (.bool true)).boxed (HB1.out.set (.slice va ns.length vc)) (by omega)
      have b2 := ((Apart.setCell (K := fun j => j = w.heap.size + 1) rfl W 0 (.slice va ns.length vc)).boxed HB2.out (by omega)).set (.bool true)
      have hD5 := (hab.block A.heap.size (Array.getElem?_eq_some_iff.1 hD).1 (by omega)).trans hD
      generalize (W.setCell ⟨w.heap.size + 1, 0, none⟩ (.slice va ns.length vc)).setCell ⟨w.heap.size + 1 + 1, 0, none⟩ (.bool true) = W5 at *
      have hput : Apart (fun j => j = A.heap.size) W5 (W5.putObj A.heap.size (.deferred none)) := Apart.putObj (K := fun j => j = A.heap.size) rfl _ _
      have e1 := (hput.boxed b1 (by omega)).cell
      have e2 := (hput.boxed b2 (by omega)).cell
      have HR5 := hideIt (hput.row (hab.row HROW.out (fun j hj => by omega)) (fun j hj => by omega))
      have HB5 := hideIt (hput.below (hab.below HBEL.out (Nat.le_refl _) (fun j hj => by omega)) (Nat.le_refl _) (fun j hj => by omega))
      refine ⟨by simp, .inl ⟨_, _, rfl, run_takeDeferred hD5, ?_⟩⟩
      refine ⟨.tuple #[.slice va ns.length vc, .bool true], ?_, .slice va ns.length vc, by rw [HS.out]; rfl, fun xs hx => ?_, ⟨_, _, _, rfl, fun x hx => Nat.le_trans (by omega) (row_base HR5.out x hx)⟩, HB5.out⟩
      · generalize W5.putObj A.heap.size (Obj.deferred none) = W6 at *
        rw [results_cc rfl]
        go_simp
      · rw [HS.out] at hx
        cases hx
        exact ints_of_row HR5.out
    case stop =>
      rintro c W ⟨rfl, h4, h5, hb, hn⟩ hD
      have c1 := h4.cell
      have c2 := h5.cell
      have HN := hideIt hn
      have HB := hideIt hb
      clear hn hb hseq HTS HTZ HSP
      gi_wp2_with fail
      have hput : Apart (fun j => j = A.heap.size) W (W.putObj A.heap.size (.deferred none)) := Apart.putObj (K := fun j => j = A.heap.size) rfl _ _
      have e1 := (hput.boxed h4 (by omega)).cell
      have e2 := (hput.boxed h5 (by omega)).cell
      have HB5 := hideIt (hput.below HB.out (Nat.le_refl _) (fun j hj => by omega))
      refine ⟨by simp, .inl ⟨_, _, rfl, run_takeDeferred hD, ?_⟩⟩
      refine ⟨.tuple #[.slice none 0 0, .bool false], ?_, .slice none 0 0, by rw [HN.out]; rfl, fun xs hx => ?_, ⟨_, _, _, rfl, fun x hx => by cases hx⟩, HB5.out⟩
      · generalize W.putObj A.heap.size (Obj.deferred none) = W6 at *
        rw [results_cc rfl]
        go_simp
      · rw [HN.out] at hx; cases hx
end Go.Proofs.YtlljniaobbbjgaaGreatDoor

namespace Go.Proofs.YtlljniaobbbjgaaGreatDoor.S1
open Go.RowKit
/-- How far the parting of a text has come: what is parted, and where the next part begins. -/
def PartedC (c : UInt8) (l : List UInt8) (D : List (List UInt8)) (f k : Nat) : Prop :=
  f ≤ k ∧ k ≤ l.length ∧ Ost.splitC c l = D ++ Ost.splitC c (l.drop f) ∧ c ∉ (l.take k).drop f
theorem PartedC.more {c : UInt8} {l : List UInt8} {D : List (List UInt8)} {f k : Nat} (h : PartedC c l D f k) (hk : k < l.length) (hc : l[k] ≠ c) : PartedC c l D f (k + 1) := by
  obtain ⟨h1, h2, h3, h4⟩ := h
  refine ⟨by omega, by omega, h3, ?_⟩
  rw [List.take_succ_eq_append_getElem hk, List.drop_append_of_le_length (by rw [List.length_take]; omega)]
  simp only [List.mem_append, List.mem_singleton, not_or]
  exact ⟨h4, fun e => hc e.symm⟩
theorem PartedC.cut {c : UInt8} {l : List UInt8} {D : List (List UInt8)} {f k : Nat} (h : PartedC c l D f k) (hk : k < l.length) (hc : l[k] = c) : PartedC c l (D ++ [(l.take k).drop f]) (k + 1) (k + 1) := by
  obtain ⟨h1, h2, h3, h4⟩ := h
  refine ⟨Nat.le_refl _, by omega, ?_, by simp⟩
  rw [h3, drop_split l f k h1 (by omega), List.drop_eq_getElem_cons hk, hc, Ost.splitC_cut c _ _ h4]
  simp
theorem PartedC.last {c : UInt8} {l : List UInt8} {D : List (List UInt8)} {f : Nat} (h : PartedC c l D f l.length) : Ost.splitC c l = D ++ [(l.take l.length).drop f] := by
  obtain ⟨h1, h2, h3, h4⟩ := h
  rw [List.take_length] at h4 ⊢
  rw [h3, Ost.splitC_none c _ h4]
theorem PartedC.len {c : UInt8} {l : List UInt8} {D : List (List UInt8)} {f k : Nat} (h : PartedC c l D f k) : D.length ≤ l.length := by
  have := congrArg List.length h.2.2.1
  have h2 := splitC_len c l
  have h3 : 0 < (Ost.splitC c (l.drop f)).length := List.length_pos_iff.2 (Ost.splitC_ne _ _)
  rw [List.length_append] at this
  omega
set_option maxRecDepth 100000 in
set_option maxHeartbeats 2000000 in
theorem wordsC (c : UInt8) (n : Int) (hn : (c.toNat : Int) = n) (s : ByteArray) (w : World) (hs : s.size ≤ 20000) :
    Calls Tryz.prog 47 #[.string s, .int .u8 n] w fun e w' => ∃ v, e = .returned v ∧ w'.ownsRow w.heap.size 9 1 v (Ost.splitC c s.data.toList).length (strs (Ost.splitC c s.data.toList)) ∧ Below w.heap.size w w' := by
  obtain ⟨i0, hi, hz0, hz1, hz2⟩ := info_parts infoStr
  have HC := hideIt hn
  clear hn
  have HL : Hid (s.data.toList.length = s.size) := by unfold Hid; simp
  go_enter Tryz.func47, Tryz.ntmps47
  go_wp2_with fail
  go_loopw [5, 6, 7] (fun v f i wr => ∃ (k fN : Nat) (D : List (List UInt8)), k ≤ s.size + 1 ∧ fN ≤ s.size + 1 ∧ D.length ≤ s.size + 1 ∧ i = .int .i64 k ∧ f = .int .i64 fN ∧ Hid (PartedC c s.data.toList D fN k ∨ (k = s.size + 1 ∧ D = Ost.splitC c s.data.toList)) ∧ wr.ownsRow w.heap.size 9 1 v D.length (strs D) ∧ Below w.heap.size w wr) (fun _ _ i _ => s.size + 1 - (intOf i).toNat)
  case atStart => exact ⟨0, 0, [], by omega, by omega, by simp, rfl, rfl, .inl ⟨Nat.le_refl _, by omega, rfl, by simp⟩, World.ownsRow_nil _ _ _ _, Below.refl _ _⟩
  case round =>
    obtain ⟨k, fN, D, hk, hfN, hD, rfl, rfl, HP, hrow, hnx⟩ := hrel
    have hsz := hnx.size
    by_cases hend : k = s.size + 1
    · have HD : Hid (D = Ost.splitC c s.data.toList) := by
        rcases HP.out with h | h
        · exfalso; have := h.2.1; rw [HL.out] at this; omega
        · exact h.2
      have h1 : ¬ k ≤ s.size := by omega
      have HD2 := HD.out
      subst HD2
      clear HP hend HD
      go_wp2_with fail
      go_ret
      exact ⟨_, rfl, hrow, hnx⟩
    · have hkl : k ≤ s.size := by omega
      have HQ : Hid (PartedC c s.data.toList D fN k) := by
        rcases HP.out with h | h
        · exact h
        · exact absurd h.1 hend
      have hfk : fN ≤ k := HQ.out.1
      have hDl := HQ.out.len
      rw [HL.out] at hDl
      clear HP hend
      have HX : Hid (s.extract fN k = ⟨((s.data.toList.take k).drop fN).toArray⟩) := extract_mk s fN k
      by_cases hlast : k = s.size
      · have HN : Hid (Ost.splitC c s.data.toList = D ++ [(s.data.toList.take k).drop fN]) := by
          have h := HQ.out
          rw [hlast, ← HL.out] at h ⊢
          exact h.last
        have hb1 : ((k : Int) == (s.size : Int)) = true := by simp [hlast]
        have hlen : D.length + 1 ≤ s.size + 1 := by omega
        clear hlast
        go_wp2_with (at_builtin; refine wpList_append_own _ rfl _ _ 41 rfl w.heap.size 9 i0 (.string ⟨#[]⟩) 1 16 Tryz.underlying41 hi hz0 hz1 hz2 rfl (by decide) _ _ _ rfl (hrow.alloc _) ⟨_, 0, none⟩ 1 1 [.string (s.extract fN k)] rfl rfl (cell_one_new _ _ _) (by intro u hu; simp at hu; subst hu; rfl) (by unfold maxLen; omega) (by omega) (by simp; omega) ?_; intro v' w1 hown' hgrow' _)
        go_roundw
        case rel =>
          refine ⟨k + 1, k + 1, D ++ [(s.data.toList.take k).drop fN], by omega, by omega, by simp; omega, by go_num, by go_num, .inr ⟨by have := beq_iff_eq.1 hb1; omega, HN.out.symm⟩, ?_, ?_⟩
          · rw [strs_snoc, List.length_append, ← HX.out]; exact hown'
          · exact (hnx.alloc hsz _).grown hgrow' (by simp; omega) (fun j hj => (hrow.lt j hj).1)
        case measure => simp [intOf]; omega
      · have hlt : k < s.size := by omega
        have hb1 : ((k : Int) == (s.size : Int)) = false := by simp; omega
        clear hlast
        rcases two' ((s[k].toNat : Int) == n) with hb2 | hb2
        · have HN : Hid (PartedC c s.data.toList (D ++ [(s.data.toList.take k).drop fN]) (k + 1) (k + 1)) :=
            HQ.out.cut (by rw [HL.out]; exact hlt) (UInt8.toNat_inj.1 (by have := beq_iff_eq.1 hb2; have h3 := HC.out; show s[k].toNat = c.toNat; omega))
          go_wp2_with (at_builtin; refine wpList_append_own _ rfl _ _ 41 rfl w.heap.size 9 i0 (.string ⟨#[]⟩) 1 16 Tryz.underlying41 hi hz0 hz1 hz2 rfl (by decide) _ _ _ rfl (hrow.alloc _) ⟨_, 0, none⟩ 1 1 [.string (s.extract fN k)] rfl rfl (cell_one_new _ _ _) (by intro u hu; simp at hu; subst hu; rfl) (by unfold maxLen; omega) (by omega) (by simp; omega) ?_; intro v' w1 hown' hgrow' _)
          go_roundw
          case rel =>
            refine ⟨k + 1, k + 1, D ++ [(s.data.toList.take k).drop fN], by omega, by omega, by simp; omega, by go_num, by go_num, .inl HN.out, ?_, ?_⟩
            · rw [strs_snoc, List.length_append, ← HX.out]; exact hown'
            · exact (hnx.alloc hsz _).grown hgrow' (by simp; omega) (fun j hj => (hrow.lt j hj).1)
          case measure => simp [intOf]; omega
        · have HN : Hid (PartedC c s.data.toList D fN (k + 1)) :=
            HQ.out.more (by rw [HL.out]; exact hlt) (fun h => by
              have h2 : s[k].toNat = c.toNat := congrArg UInt8.toNat h
              have h3 := HC.out
              rw [beq_eq_false_iff_ne] at hb2; exact hb2 (by omega))
          go_wp2_with fail
          go_roundw
          case rel => exact ⟨k + 1, fN, D, by omega, by omega, by omega, by go_num, rfl, .inl HN.out, hrow, hnx⟩
          case measure => simp [intOf]; omega
end Go.Proofs.YtlljniaobbbjgaaGreatDoor.S1

namespace Go.Proofs.YtlljniaobbbjgaaGreatDoor
open Go.RowKit
open Qos (Nd Ct Pd nd0 ct0 pd0 nd ct pd silent certain classOf quiet sure sumM sumB Mild ownOf)
/-- A pod lies boxed. -/
def PBoxAt (W : World) (B : Nat) (p : Pd) (cv : Value) : Prop := B < W.heap.size ∧ W.cell? ⟨B, 0, none⟩ = some (.string p.nm) ∧ W.cell? ⟨B, 1, none⟩ = some (.int .i64 p.pr) ∧ W.cell? ⟨B, 2, none⟩ = some cv
theorem PBoxAt.made (w : World) (p : Pd) (cv : Value) : PBoxAt (w.alloc (.cells #[.string p.nm, .int .i64 p.pr, cv] 59)) w.heap.size p cv := ⟨by simp, by simp, by simp, by simp⟩
theorem PBoxAt.below {W W' : World} {B : Nat} {p : Pd} {cv : Value} (h : PBoxAt W B p cv) (hb : Below W.heap.size W W') : PBoxAt W' B p cv := by
  obtain ⟨h0, h1, h2, h3⟩ := h
  exact ⟨Nat.lt_of_lt_of_le h0 hb.size, (hb.cell (p := ⟨B, 0, none⟩) h0).trans h1, (hb.cell (p := ⟨B, 1, none⟩) h0).trans h2, (hb.cell (p := ⟨B, 2, none⟩) h0).trans h3⟩
theorem PBoxAt.alloc {W : World} {B : Nat} {p : Pd} {cv : Value} (h : PBoxAt W B p cv) (o : Obj) : PBoxAt (W.alloc o) B p cv := h.below ((Below.refl _ W).alloc (Nat.le_refl _) o)
theorem PBoxAt.kept {W W' : World} {B : Nat} {p : Pd} {cv : Value} {g : Option Nat} (h : PBoxAt W B p cv) (hg : W.grownBy W' g) (hne : some B ≠ g) : PBoxAt W' B p cv :=
  ⟨Nat.lt_of_lt_of_le h.1 hg.size, (hg.cell_far ⟨B, 0, none⟩ h.1 hne).trans h.2.1, (hg.cell_far ⟨B, 1, none⟩ h.1 hne).trans h.2.2.1, (hg.cell_far ⟨B, 2, none⟩ h.1 hne).trans h.2.2.2⟩
theorem ConsAt.slice {w : World} {v : Value} {cs : List Ct} (h : ConsAt w v cs) : ∃ a n c, v = .slice a n c := by
  obtain ⟨a, c, h, _⟩ := h
  exact ⟨a, _, c, h⟩
end Go.Proofs.YtlljniaobbbjgaaGreatDoor

