/- What Take of package devices answers: a contract. -/
import Derived.Test.YthekalhceamcoaaDCat
namespace Go.Proofs.Ythekalhceamcoaa
open Go.RowKit
open Dvs (Dv dv0 dv nth fits near nearP farP sel ord took usedBy srt takeF Nodes)
theorem flip_bit (m n : Nat) (hm : m < 256) (hn : n ≤ 3) : (255 - m).testBit n = !m.testBit n := by
  have key : ∀ (a : Fin 256) (b : Fin 4), (255 - a.val).testBit b.val = !a.val.testBit b.val := by decide +kernel
  exact key ⟨m, hm⟩ ⟨n, by omega⟩
theorem far_sel {ds : List Dv} (hN : Nodes ds) (us : Nat → Bool) (kind : ByteArray) (m : Nat) (hm : m < 256) : sel (nearP ds us kind (255 - m)) ds.length = sel (farP ds us kind m) ds.length := by
  refine Dvs.sel_congr fun j hj => ?_
  have := hN.2 j hj
  unfold nearP farP near
  rw [flip_bit m _ hm (by omega)]
theorem xor_max (m : Nat) (hm : m < 256) : bits BinOp.xor IntKind.u8 IntKind.u8.max (m : Int) = ((255 - m : Nat) : Int) := by
  have key : ∀ (a : Fin 256), bits BinOp.xor IntKind.u8 IntKind.u8.max ((a.val : Nat) : Int) = ((255 - a.val : Nat) : Int) := by decide +kernel
  exact key ⟨m, hm⟩
/-- What Take leaves. -/
def Took (bad : Nat → Value) (w : World) (pb db : Nat) (ao : Option Addr) (c : Nat) (ds : List Dv) (us : Nat → Bool) (kind : ByteArray) (m : Nat) (many : Int) (e : Ending) (w' : World) : Prop :=
  (takeF ds us kind many ≠ 0 → e = .returned (.tuple #[.slice none 0 0, bad (takeF ds us kind many)]) ∧ Below w.heap.size w w') ∧
  (takeF ds us kind many = 0 → ∃ v g, e = .returned (.tuple #[v, bad 0]) ∧ NumsAt w' v g 0 (ints (srt (took ds us kind m many.toNat))) ∧ (0 < (srt (took ds us kind m many.toNat)).length → w.heap.size ≤ g) ∧ PoolAt w' pb db ao c ds (usedBy us (took ds us kind m many.toNat))) ∧
  w.grownBy w' (some pb)
theorem Took.wrong {bad : Nat → Value} {w : World} {pb db : Nat} {ao : Option Addr} {c : Nat} {ds : List Dv} {us : Nat → Bool} {kind : ByteArray} {m : Nat} {many : Int} {e : Ending} {w' : World} {n : Nat} (hf : takeF ds us kind many = n) (hn : n ≠ 0) (he : e = .returned (.tuple #[.slice none 0 0, bad n])) (hb : Below w.heap.size w w') : Took bad w pb db ao c ds us kind m many e w' :=
  ⟨fun _ => ⟨by rw [hf]; exact he, hb⟩, fun h => by omega, grown_below hb _⟩
theorem Row.nums {w : World} {B : Nat} {v : Value} {l : List Nat} (h : Row w B v l) : ∃ g, NumsAt w v g 0 (ints l) ∧ (0 < l.length → B ≤ g) := by
  unfold Row at h
  rcases h.2 with ⟨rfl, h0⟩ | ⟨g, cap, cur, rfl, hg, hgc, _⟩
  · have := List.eq_nil_of_length_eq_zero h0
    subst this
    exact ⟨0, ⟨none, 0, rfl, fun h => by simp [ints] at h⟩, fun h => by simp at h⟩
  · refine ⟨g, ⟨_, cap, by rw [ints_len], fun _ => ⟨rfl, (Array.getElem?_eq_some_iff.1 hgc).1, fun k hk => ?_⟩⟩, fun _ => hg⟩
    rw [ints_len] at hk
    rw [Nat.zero_add, h.cellAt k (by omega)]
    simp [numsV, nth, ints, hk]
theorem grown_then {a b c : World} {r r' : Option Nat} (h : a.grownBy b r) (k : b.grownBy c r') (hr : ∀ j, r' = some j → a.heap.size ≤ j ∨ r = some j) : a.grownBy c r :=
  ⟨k.os.trans h.os, k.tape.trans h.tape, k.output.trans h.output, Nat.le_trans h.size k.size, fun i hi hne => (k.block i (Nat.lt_of_lt_of_le hi h.size) (fun e => by rcases hr i e.symm with h1 | h1; omega; exact hne h1.symm)).trans (h.block i hi hne)⟩
theorem usedBy_step {us : Nat → Bool} {l : List Nat} {k q : Nat} (hq : l[k]? = some q) (j : Nat) : usedBy us (l.take (k + 1)) j = if j = q then true else usedBy us (l.take k) j := by
  rw [List.take_add_one, hq]
  show usedBy us (l.take k ++ [q]) j = _
  rw [Dvs.usedBy_snoc]
  by_cases e : j = q
  · rw [if_pos e, decide_eq_true e, Bool.or_true]
  · rw [if_neg e, decide_eq_false e, Bool.or_false]
/-- The sort of those that were taken. -/
theorem sort_took {L : List Nat} (h16 : ∀ j ∈ L, j < 16) (hn : L.Nodup) {wr : World} {B g cap : Nat} {cur : Array Value} (hB : B ≤ g) (hgc : wr.heap[g]? = some (.cells cur 3 (0, 0))) (hlc : L.length ≤ cap) (hcm : cap ≤ maxLen) (hcs : cur.size = cap * 1) (hct : cur.toList.take L.length = numsV L) (hsl : L.length < 4611686018427387904) :
    Calls Try.prog 96 #[.slice (some ⟨g, 0, none⟩) L.length cap] wr fun e w' => e = .returned (.tuple #[]) ∧ Row w' B (.slice (some ⟨g, 0, none⟩) (srt L).length cap) (srt L) ∧ wr.grownBy w' (some g) := by
  have hlt : g < wr.heap.size := (Array.getElem?_eq_some_iff.1 hgc).1
  have hil : (ints L).length = L.length := ints_len L
  have hmap : (ints L).map (Value.int .i64) = numsV L := by simp [ints, numsV]
  have hH := holds_of_blockI (ss := ints L) hgc (by rw [hil, hct, hmap])
  have hS := Any.slices_Sort_int Try.sortL9 g 0 cap (ints L) wr hH hlt (by rw [hil]; exact hsl)
  rw [hil] at hS
  refine hS.mono ?_
  rintro e w' ⟨rfl, n, os, rfl⟩
  have hso : (ints L).mergeSort (fun x y => decide (x ≤ y)) = ints (srt L) := Dvs.sorted_srt h16 hn
  have hsl2 : (srt L).length = L.length := Dvs.srt_len h16 hn
  rw [hso]
  refine ⟨rfl, ?_, grownBy_sortedI _⟩
  have := ownsRow_sortedI (ss := ints L) (ts := ints (srt L)) (base := B) (n := n) (os := os) (by rw [ints_len, hil, hsl2]) hB hgc (by rw [hil]; exact hlc) hcm hcs
  rw [hil] at this
  unfold Row
  rw [hsl2]
  have e2 : (ints (srt L)).map (Value.int .i64) = numsV (srt L) := by simp [ints, numsV]
  rw [e2] at this
  exact this
set_option maxRecDepth 100000 in
set_option maxHeartbeats 2000000 in
theorem take_neg (kind : ByteArray) (many : Int) (m : Nat) (w : World) (pb : Nat) (h : many < 0) :
    Calls Try.prog 29 #[.pointer (some ⟨pb, 0, none⟩), .string kind, .int .i64 many, .int .u8 m] w fun e w' => e = .returned (.tuple #[.slice none 0 0, .iface 133 (.int .i64 1)]) ∧ w' = w := by
  go_enter Try.func29, Try.ntmps29
  go_wp2_with fail
  go_ret2
  exact ⟨rfl, rfl⟩
set_option maxRecDepth 100000 in
set_option maxHeartbeats 2000000 in
theorem take_pos (kind : ByteArray) (many m : Nat) (w : World) (pb db : Nat) (ao : Option Addr) (c : Nat) (ds : List Dv) (us : Nat → Bool) (h : PoolAt w pb db ao c ds us) (hN : Nodes ds) (hm : m < 256) :
    Calls Try.prog 29 #[.pointer (some ⟨pb, 0, none⟩), .string kind, .int .i64 many, .int .u8 m] w fun e w' => Took (fun n => errV n) w pb db ao c ds us kind m many e w' := by
  have HR1 := hideIt (ready_any kind m w pb db ao c ds us h hN hm)
  have HR2 : Hid (∀ W, PoolAt W pb db ao c ds us → Calls Try.prog 95 #[.pointer (some ⟨pb, 0, none⟩), .string kind, .int .u8 (bits BinOp.xor IntKind.u8 IntKind.u8.max m)] W fun e w' => ∃ v, e = .returned v ∧ Row w' W.heap.size v (sel (farP ds us kind m) ds.length) ∧ Below W.heap.size W w') := by
    intro W hW
    rw [xor_max m hm, ← far_sel hN us kind m hm]
    exact ready_any kind (255 - m) W pb db ao c ds us hW hN (by omega)
  have HP := hideIt h
  have HN := hideIt hN
  have HO : Hid (ord ds us kind m = sel (nearP ds us kind m) ds.length ++ sel (farP ds us kind m) ds.length) := rfl
  have HOl := hideIt (Dvs.ord_len ds us kind m)
  have hl1 := Dvs.sel_le (nearP ds us kind m) ds.length
  have hl2 := Dvs.sel_le (farP ds us kind m) ds.length
  have h16 := hN.1
  clear h hN
  generalize sel (nearP ds us kind m) ds.length = l1 at *
  generalize sel (farP ds us kind m) ds.length = l2 at *
  go_enter Try.func29, Try.ntmps29
  go_wp2_with fail
  refine HR1.out.mono ?_
  rintro e w1 ⟨v1, rfl, hr1, hb1⟩
  have HS1 := hideIt hr1.src
  have HP1 := hideIt (HP.out.below hb1)
  have HB1 := hideIt hb1
  clear hr1 hb1 HR1
  go_wp2_with fail
  refine (HR2.out w1 HP1.out).mono ?_
  rintro e w2 ⟨v2, rfl, hr2, hb2⟩
  have HB2 := hideIt (HB1.out.trans (hb2.mono HB1.out.size))
  have hbA := (Below.refl w2.heap.size w2).alloc (Nat.le_refl _) (.cells #[v1, v2] 57)
  have HP2 := hideIt ((HP1.out.below hb2).below hbA)
  have HS1' := hideIt ((HS1.out.below hb2).below hbA)
  have HS2' := hideIt (hr2.src.below hbA)
  have HBA := hideIt (HB2.out.trans (hbA.mono HB2.out.size))
  obtain ⟨a1, d1, rfl⟩ := HS1.out.form
  obtain ⟨a2, d2, rfl⟩ := hr2.src.form
  clear hr2 hb2 hbA HR2 HS1 HB1 HP1
  go_wp2_with fail
  refine (concat_two _ _ l1 l2 w2.heap.size _ HS1'.out HS2'.out (by simp) (by simp) (by omega) (by omega)).mono ?_
  rintro e w3 ⟨v3, rfl, hr3, hb3⟩
  have HP3 := hideIt (HP2.out.below hb3)
  have HB3 := hideIt (HBA.out.trans (hb3.mono HBA.out.size))
  have hsz3 : w.heap.size ≤ (w2.alloc (.cells #[.slice a1 l1.length d1, .slice a2 l2.length d2] 57)).heap.size := HBA.out.size
  rw [← HO.out] at hr3
  clear hb3 HP2 HBA HB2 HS1' HS2'
  generalize (w2.alloc (.cells #[.slice a1 l1.length d1, .slice a2 l2.length d2] 57)).heap.size = B3 at *
  have HR3 := hideIt hr3
  unfold Row at hr3
  have hol : (ord ds us kind m).length ≤ 32 := by rw [HO.out, List.length_append]; omega
  have HTF : Hid (takeF ds us kind many = if ((ord ds us kind m).length : Int) < many then 9 else 0) := by unfold Hid takeF; rw [if_neg (by omega), HOl.out]
  by_cases hf : (ord ds us kind m).length < many
  · have HTF1 : Hid (takeF ds us kind many = 9) := HTF.out.trans (if_pos (by omega))
    clear HTF
    rcases hr3.2 with ⟨rfl, h0⟩ | ⟨g, cap, cur, rfl, hg, hgc, hnc, hcm, hcs, hct⟩
    · rw [h0] at hf
      clear hr3
      go_wp2_with fail
      go_ret2
      exact Took.wrong HTF1.out (by decide) rfl HB3.out
    · clear hr3 hgc hcs hct
      go_wp2_with fail
      go_ret2
      exact Took.wrong HTF1.out (by decide) rfl HB3.out
  · have HTF1 : Hid (takeF ds us kind many = 0) := HTF.out.trans (if_neg (by omega))
    clear HTF
    rcases hr3.2 with ⟨rfl, h0⟩ | ⟨g, cap, cur, rfl, hg, hgc, hnc, hcm, hcs, hct⟩
    · have hm0 : many = 0 := by omega
      subst hm0
      have hon := List.eq_nil_of_length_eq_zero h0
      have HTk : Hid (took ds us kind m 0 = []) := by unfold Hid took; simp
      clear hr3
      go_wp2_with fail
      go_loop [37] (fun i => i = .int .i64 0) (fun _ => 0)
      case atStart => rfl
      case round =>
        subst hrel
        go_wp2_with fail
        refine (Any.slices_Sort_int_none Try.sortL9 _ _ _).mono ?_
        rintro e w5 ⟨rfl, rfl⟩
        go_wp2_with fail
        go_ret2
        refine ⟨fun hh => absurd HTF1.out hh, fun _ => ⟨_, 0, rfl, ?_, ?_, ?_⟩, grown_below HB3.out _⟩
        · show NumsAt _ _ _ _ (ints (srt (took ds us kind m 0)))
          rw [HTk.out]
          exact ⟨none, 0, rfl, fun h => by simp [ints, srt, sel] at h⟩
        · show 0 < (srt (took ds us kind m 0)).length → _
          rw [HTk.out]
          exact fun h => by simp [srt, sel] at h
        · show PoolAt _ _ _ _ _ _ (usedBy us (took ds us kind m 0))
          rw [HTk.out, Dvs.usedBy_nil]
          exact HP3.out
    · have hmn : many ≤ (ord ds us kind m).length := by omega
      clear hr3
      have hgp : g ≠ pb := by have := HP.out.lt; omega
      have HTl : Hid ((took ds us kind m many).length = many) := by unfold Hid took; rw [List.length_take]; omega
      have HTt : Hid (took ds us kind m many = (ord ds us kind m).take many) := rfl
      have HT16 : Hid (∀ j ∈ took ds us kind m many, j < 16) := fun j hj => by have := (Dvs.took_mem hj).1; omega
      have HTn := hideIt (Dvs.took_nodup ds us kind m many)
      have HM : Hid (∀ k q : Nat, (ord ds us kind m)[k]? = some q → q < 16) := fun k q hq => by
        have := (Dvs.ord_mem.1 (List.mem_of_getElem? hq)).1
        omega
      have HX : Hid (∀ k, k < (ord ds us kind m).length → ∃ q : Nat, (ord ds us kind m)[k]? = some q ∧ w3.cell? ⟨g, k, none⟩ = some (.int .i64 q)) := fun k hk => by
        refine ⟨(ord ds us kind m)[k], List.getElem?_eq_getElem hk, ?_⟩
        have := HR3.out
        unfold Row at this
        rw [this.cellAt k (by omega)]
        simp [numsV, hk]
      have hlt3 : g < w3.heap.size := (Array.getElem?_eq_some_iff.1 hgc).1
      have HQ := hideIt (And.intro hgc (And.intro hcm (And.intro hcs hct)))
      clear hgc hcs hct hcm
      have hdm : decide ((many : Int) < 0) = false := by simp
      go_wp2_with fail
      go_loopw [37] (fun i wr => ∃ k : Nat, k ≤ many ∧ i = .int .i64 k ∧ PoolAt wr pb db ao c ds (usedBy us ((ord ds us kind m).take k)) ∧ w3.grownBy wr (some pb)) (fun i _ => many - (intOf i).toNat)
      case atStart => exact ⟨0, by omega, rfl, by rw [List.take_zero, Dvs.usedBy_nil]; exact HP3.out, grown_refl _ _⟩
      case round =>
        obtain ⟨k, hk, rfl, hP, hG⟩ := hrel
        by_cases hlt : k < many
        · obtain ⟨q, hq, hx3⟩ := HX.out k (by omega)
          have hq16 := HM.out k q hq
          have hx := (hG.cell_far ⟨g, k, none⟩ hlt3 (by simpa using hgp)).trans hx3
          obtain ⟨hu, hz⟩ := hP.used q hq16
          have HP' := hideIt (hP.set (vs := usedBy us ((ord ds us kind m).take (k + 1))) hq16 true (fun j _ => usedBy_step hq j))
          have HG' := hideIt (hG.trans (grown_setCell wr ⟨pb, 1 + q, none⟩ (.bool true)))
          clear hP hG hx3 hq
          go_wp2_with fail
          go_roundw
          case rel => exact ⟨k + 1, by omega, by go_num, HP'.out, HG'.out⟩
          case measure => simp [intOf]; omega
        · have hke : k = many := by omega
          subst hke
          have HPk := hideIt hP
          have HGk := hideIt hG
          clear hP hG
          have HS : Hid (Calls Try.prog 96 #[.slice (some ⟨g, 0, none⟩) k cap] wr fun e w' => e = .returned (.tuple #[]) ∧ Row w' B3 (.slice (some ⟨g, 0, none⟩) k cap) (srt (took ds us kind m k)) ∧ wr.grownBy w' (some g)) := by
            obtain ⟨q1, q2, q3, q4⟩ := HQ.out
            have := sort_took HT16.out HTn.out hg (wr := wr) ((HGk.out.block g hlt3 (by simpa using hgp)).trans q1) (by rw [HTl.out]; omega) q2 q3 (by
              rw [HTl.out, HTt.out]
              rw [Nat.mul_one] at q4
              have e : (cur.toList.take (ord ds us kind m).length).take k = cur.toList.take k := by rw [List.take_take, Nat.min_eq_left hmn]
              rw [← e, q4]
              simp [numsV, List.map_take]) (by rw [HTl.out]; omega)
            rw [Dvs.srt_len HT16.out HTn.out, HTl.out] at this
            exact this
          go_wp2_with fail
          refine HS.out.mono ?_
          rintro e w5 ⟨rfl, hr5, hg5⟩
          obtain ⟨g5, hn5, hge5⟩ := hr5.nums
          have HP5 := hideIt (HPk.out.kept hg5 (by simpa using fun e => hgp e.symm) (fun h0 => by have := (HP.out.at0 h0).2.2; simp; omega))
          have HG5 := hideIt (grown_then (grown_below HB3.out (some pb)) HGk.out (fun j hj => by right; exact hj))
          have HG6 := hideIt (grown_then HG5.out hg5 (fun j hj => by left; cases hj; omega))
          have HN5 := hideIt (And.intro hn5 hge5)
          clear hr5 hg5 hn5 hge5
          go_wp2_with fail
          go_ret2
          refine ⟨fun hh => absurd HTF1.out hh, fun _ => ⟨_, g5, rfl, HN5.out.1, fun h0 => Nat.le_trans hsz3 (HN5.out.2 h0), ?_⟩, HG6.out⟩
          exact HP5.out
end Go.Proofs.Ythekalhceamcoaa
