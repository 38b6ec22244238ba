/- VR3, VC1, VX1, VF1, VQ1 -/
import Derived.Test.YtlljniaobbbjgaaGreatDoorU5
import Derived.Test.YtlljniaobbbjgaaGreatDoorU4
import Derived.Test.YtlljniaobbbjgaaGreatDoorU2
import Derived.Deep.RegionHeld3
namespace Go.Proofs.YtlljniaobbbjgaaGreatDoor
open Go.RowKit Go.Shelf
open Ost (splitC cut1)
open Qos (Nd nd)
open S1 (Mx)
attribute [local go_sem] Oper.semAt_some
def ndOf (x : List UInt8) : Nd := ⟨⟨(cut1 58 x).1.toArray⟩, nOf (cut1 58 x).2.1⟩
def gN (x : List UInt8) : Bool := gOf (cut1 58 x).2.1
theorem needS_n (x : List UInt8) : Sv.needS x = if gN x = true then some (ndOf x) else none := by
  unfold Sv.needS gN ndOf
  rw [numS_n]
  cases gOf (cut1 58 x).2.1 <;> rfl
def ndsTo (ps : List (List UInt8)) (k : Nat) : List Nd := (ps.take k).map ndOf
theorem ndsTo_next {ps : List (List UInt8)} {k : Nat} (h : k < ps.length) : ndsTo ps (k + 1) = ndsTo ps k ++ [ndOf ps[k]] := by
  unfold ndsTo
  rw [List.take_succ_eq_append_getElem h, List.map_append]; rfl
theorem ndsTo_len {ps : List (List UInt8)} {k : Nat} (h : k ≤ ps.length) : (ndsTo ps k).length = k := by unfold ndsTo; simp; omega
theorem allOfN_good {ps : List (List UInt8)} (h : ∀ x ∈ ps, gN x = true) : Sv.allOf Sv.needS ps = some (ps.map ndOf) := by
  induction ps with
  | nil => rfl
  | cons x r ih => rw [Sv.allOf, needS_n, if_pos (h x (by simp)), ih fun y hy => h y (by simp [hy])]; rfl
theorem allOfN_bad {ps : List (List UInt8)} {x : List UInt8} (hx : x ∈ ps) (h : gN x = false) : Sv.allOf Sv.needS ps = none := by
  induction ps with
  | nil => simp at hx
  | cons y r ih =>
    rw [Sv.allOf, needS_n]
    rcases List.mem_cons.1 hx with rfl | hx
    · rw [h]; rfl
    · cases gN y with
      | true => rw [if_pos rfl, ih hx]; rfl
      | false => rfl
def ndCells (d : Nd) : List Value := [.string d.kind, .int .i64 d.many]
def ndsV (l : List Nd) : List Value := l.flatMap ndCells
theorem ndsV_snoc (l : List Nd) (d : Nd) : ndsV (l ++ [d]) = ndsV l ++ ndCells d := by simp [ndsV]
theorem ndsV_at : ∀ (l : List Nd) (k : Nat), k < l.length → (ndsV l)[k * 2]? = some (.string (nd l k).kind) ∧ (ndsV l)[k * 2 + 1]? = some (.int .i64 (nd l k).many) := by
  intro l
  induction l with
  | nil => intro k hk; simp at hk
  | cons d r ih =>
    intro k hk
    cases k with
    | zero => exact ⟨rfl, rfl⟩
    | succ k =>
      have h := ih k (by simpa using hk)
      have e : ndsV (d :: r) = .string d.kind :: .int .i64 d.many :: ndsV r := rfl
      rw [e, show (k + 1) * 2 = k * 2 + 1 + 1 by omega, List.getElem?_cons_succ, List.getElem?_cons_succ, List.getElem?_cons_succ, List.getElem?_cons_succ]
      exact h
theorem needs_of_row {w : World} {base : Nat} {v : Value} {xs : List Nd} (h : w.ownsRow base 115 2 v xs.length (ndsV xs)) : NeedsAt w v xs := by
  obtain ⟨hl, h⟩ := h
  rcases h with ⟨rfl, h0⟩ | ⟨g, cap, cur, rfl, hb, hh, hn, hc, hs, ht⟩
  · exact ⟨none, 0, by rw [h0], by rw [h0]; unfold maxLen; omega, fun h => by omega⟩
  · refine ⟨_, cap, rfl, Nat.le_trans hn hc, fun _ => ⟨g, 0, rfl, (Array.getElem?_eq_some_iff.1 hh).1, fun k hk => ?_⟩⟩
    obtain ⟨h1, h2⟩ := ndsV_at xs k hk
    rw [← ht, List.getElem?_take, if_pos (by omega)] at h1 h2
    rw [Nat.zero_add]
    simp only [World.cell?, hh]
    exact ⟨by simpa using h1, by simpa using h2⟩
theorem needs_apart {K : Nat → Prop} {N : Nat} {A B : World} {v : Value} {xs : List Nd} (h : NeedsAt A v xs) (hv : ∃ a n c, v = .slice a n c ∧ ∀ x, a = some x → N ≤ x.block) (hab : Apart K A B) (hK : ∀ j, K j → j < N) : NeedsAt B v xs := by
  obtain ⟨ao, c, rfl, hc, hr⟩ := h
  obtain ⟨_, _, _, e, hx⟩ := hv
  cases e
  refine ⟨ao, c, rfl, hc, fun h0 => ?_⟩
  obtain ⟨b, o, ha, hlt, hcs⟩ := hr h0
  have hb := hx _ ha
  have hblk := hab.block b hlt (fun e => by have := hK b e; simp at hb; omega)
  exact ⟨b, o, ha, Nat.lt_of_lt_of_le hlt hab.size, fun k hk => ⟨(World.cell?_of_block (a := ⟨b, o + k * 2, none⟩) hblk).trans (hcs k hk).1, (World.cell?_of_block (a := ⟨b, o + k * 2 + 1, none⟩) hblk).trans (hcs k hk).2⟩⟩
/-- What reading a list of needs leaves. -/
def ReadsNeeds (w : World) (l : List UInt8) (e : Ending) (w' : World) : Prop :=
  ∃ v, e = .returned (.tuple #[v, .bool (Sv.listOf Sv.needS l).isSome]) ∧ (∀ xs, Sv.listOf Sv.needS l = some xs → NeedsAt w' v xs) ∧ (∃ a n c, v = .slice a n c ∧ ∀ x, a = some x → w.heap.size ≤ x.block) ∧ Below w.heap.size w w'
theorem infoNeedV : (Tryz.prog.info? 115).map (fun i => (i.zero, i.size, i.bytes)) = some (some (.agg #[.string ByteArray.empty, .int .i64 0]), 2, 24) := by kernel_rfl
theorem new_need (w : World) (d : Nd) (t : TypeId) : ∀ j u, (ndCells d)[j]? = some u → (w.alloc (.cells #[.string d.kind, .int .i64 d.many] t)).cell? ((⟨w.heap.size, 0, none⟩ : Addr).add j) = some u := by
  intro j u hu
  rw [Addr.add_lit, Nat.zero_add]
  match j, hu with
  | 0, hu => simp [ndCells] at hu; subst hu; simp
  | 1, hu => simp [ndCells] at hu; subst hu; simp
  | j + 2, hu => simp [ndCells] at hu
theorem ndCells_one (d : Nd) : ∀ u ∈ ndCells d, u.oneCell' = true := by
  intro u hu
  simp [ndCells] at hu
  rcases hu with rfl | rfl <;> rfl
/-- Where the reading of needs stands. -/
structure RInvN (w A : World) (ps : List (List UInt8)) (k : Nat) (W : World) : Prop where
  le : k ≤ ps.length
  b0 : Boxed W w.heap.size 154 (.func (.func 95) #[] #[])
  b1 : Boxed W (w.heap.size + 1) 54 (.slice none 0 0)
  b2 : Boxed W (w.heap.size + 1 + 1) 4 (.bool false)
  row : ∃ v, Boxed W (w.heap.size + 1 + 1 + 1) 54 v ∧ W.ownsRow (A.heap.size + 2) 115 2 v (ndsTo ps k).length (ndsV (ndsTo ps k))
  below : Below w.heap.size w W
  good : ∀ x ∈ ps.take k, gN x = true
theorem RInvN.apart {w A : World} {ps : List (List UInt8)} {k : Nat} {B C : World} (h : RInvN w A ps k B) (hA : A.heap.size = w.heap.size + 1 + 1 + 1 + 1 + 3) (hab : Apart (fun j => KSp (w.heap.size + 1 + 1 + 1 + 1) j ∨ j = A.heap.size + 1) B C) : RInvN w A ps k C := by
  obtain ⟨h1, h2, h3, h4, ⟨v, h5, h6⟩, h7, h8⟩ := h
  exact ⟨h1, hab.boxed h2 (by unfold KSp; omega), hab.boxed h3 (by unfold KSp; omega), hab.boxed h4 (by unfold KSp; omega), ⟨v, hab.boxed h5 (by unfold KSp; omega), hab.row h6 (fun j hj => by unfold KSp at hj; omega)⟩, hab.below h7 (Nat.le_refl _) (fun j hj => by unfold KSp at hj; omega), h8⟩
set_option maxRecDepth 100000 in
set_option maxHeartbeats 4000000 in
theorem readNeeds_any (s : ByteArray) (w : World) (hs : s.size ≤ 100000) (hm : Mx w) :
    Calls Tryz.prog 94 #[.string s, .func (.func 95) #[] #[]] w (ReadsNeeds w s.data.toList) := by
  have hq := dash_eq s
  obtain ⟨i0, hi, hz0, hz1, hz2⟩ := info_parts infoNeedV
  have hb3 := ((((Below.refl w.heap.size w).alloc (Nat.le_refl _) (.cells #[.func (.func 95) #[] #[]] 154)).alloc (by simp) (.cells #[.slice none 0 0] 54)).alloc (by simp; omega) (.cells #[.bool false] 4))
  by_cases h : s.data.toList = [45]
  · rw [decide_eq_true h] at hq
    have HL : Hid (Sv.listOf Sv.needS s.data.toList = some []) := by unfold Hid Sv.listOf; rw [if_pos h]
    clear hb3
    have hb := ((((Below.refl w.heap.size w).alloc (Nat.le_refl _) (.cells #[.func (.func 95) #[] #[]] 154)).alloc (by simp) (.cells #[.slice none 0 0] 54)).alloc (by simp; omega) (.cells #[.bool true] 4))
    have HB := hideIt hb
    clear hb
    go_enter Tryz.func94, Tryz.ntmps94
    go_wp2_with fail
    (try simp only [Exit.inBlock, Exit.then])
    refine bodyPost_ret (v := .tuple #[.slice none 0 0, .bool true]) ?_ rfl ⟨.slice none 0 0, by rw [HL.out]; rfl, fun xs hx => ?_, ⟨_, _, _, rfl, fun x hx => by cases hx⟩, HB.out⟩
    · rw [results_cc rfl]
      go_simp
    · rw [HL.out] at hx
      cases hx
      exact ⟨none, 0, rfl, by simp, fun h => by simp at h⟩
  · rw [decide_eq_false h] at hq
    have HB3 := hideIt hb3
    clear hb3
    have x3 := ((Boxed.new w 154 (.func (.func 95) #[] #[])).alloc (.cells #[.slice none 0 0] 54)).alloc (.cells #[.bool false] 4) |>.alloc (.cells #[.slice none 0 0] 54)
    have x4 := ((Boxed.new (w.alloc (.cells #[.func (.func 95) #[] #[]] 154)) 54 (.slice none 0 0)).alloc (.cells #[.bool false] 4)).alloc (.cells #[.slice none 0 0] 54)
    have x5 := (Boxed.new ((w.alloc (.cells #[.func (.func 95) #[] #[]] 154)).alloc (.cells #[.slice none 0 0] 54)) 4 (.bool false)).alloc (.cells #[.slice none 0 0] 54)
    have x6 := Boxed.new (((w.alloc (.cells #[.func (.func 95) #[] #[]] 154)).alloc (.cells #[.slice none 0 0] 54)).alloc (.cells #[.bool false] 4)) 54 (.slice none 0 0)
    simp only [World.size_alloc] at x4 x5 x6
    have HB4 := hideIt (HB3.out.alloc (by simp; omega) (.cells #[.slice none 0 0] 54))
    have hsz : ((((w.alloc (.cells #[.func (.func 95) #[] #[]] 154)).alloc (.cells #[.slice none 0 0] 54)).alloc (.cells #[.bool false] 4)).alloc (.cells #[.slice none 0 0] 54)).heap.size = w.heap.size + 1 + 1 + 1 + 1 := by simp
    have X3 := hideIt x3
    have X4 := hideIt x4
    have X5 := hideIt x5
    have X6 := hideIt x6
    clear x3 x4 x5 x6 HB3
    refine (callsIn_wide (n := 3)).1 ?_
    refine callsIn_of_wp_marks Tryz.func94 rfl trivial ?_ rfl
    simp only [Tryz.ntmps94, List.size_toArray, List.length_cons, List.length_nil, Nat.reduceAdd, Nat.reduceSub, Array.replicate_succ, Array.replicate_zero, List.push_toArray, List.append_toArray, List.nil_append, List.cons_append]
    gi_wp2_with fail
    generalize (((w.alloc (.cells #[.func (.func 95) #[] #[]] 154)).alloc (.cells #[.slice none 0 0] 54)).alloc (.cells #[.bool false] 4)).alloc (.cells #[.slice none 0 0] 54) = V at *
    refine ⟨trivial, (callsIn_wide.2 (splitSeq_new s 44 V)).mono ?_⟩
    rintro e A ⟨rfl, hspb, hbA, hszA⟩
    have HBA := hideIt (HB4.out.trans (hbA.mono HB4.out.size))
    have XA3 := hideIt (show Boxed A _ _ _ from (hbA.block _ X3.out.lt).trans X3.out)
    have XA4 := hideIt (show Boxed A _ _ _ from (hbA.block _ X4.out.lt).trans X4.out)
    have XA5 := hideIt (show Boxed A _ _ _ from (hbA.block _ X5.out.lt).trans X5.out)
    have XA6 := hideIt (show Boxed A _ _ _ from (hbA.block _ X6.out.lt).trans X6.out)
    have hseq := splitSeq_iter 2 (by omega) V.heap.size 44 s.data.toList A hspb (by simp; omega)
    rw [hsz] at hszA hseq ⊢
    clear hbA X3 X4 X5 X6 HB4 hspb hsz
    gi_wp2_with fail
    have HL : Hid (Sv.listOf Sv.needS s.data.toList = Sv.allOf Sv.needS (splitC 44 s.data.toList)) := by unfold Hid Sv.listOf; rw [if_neg h]
    have HSP := hideIt (S1.splitC_mem 44 s.data.toList)
    have HSL := hideIt (S1.splitC_len 44 s.data.toList)
    have hdl : s.data.toList.length = s.size := by simp
    generalize hgl : s.data.toList = sl at *
    generalize hps : splitC 44 sl = ps at *
    have HTS : Hid (∀ k, (hk : k < ps.length) → ∃ hk' : k < (spTs 44 sl).length, (spTs 44 sl)[k] = #[Value.string ⟨(ps.getD k []).toArray⟩]) := fun k hk => by
      subst hps
      exact ⟨by rw [spTs_len]; exact hk, by rw [spTs_at _ _ _ hk]; simp [hk]⟩
    have HTL : Hid ((spTs 44 sl).length = ps.length) := by unfold Hid; rw [spTs_len, hps]
    have HTZ : Hid (∀ x ∈ spTs 44 sl, x.size = 1) := by
      intro x hx
      obtain ⟨y, _, rfl⟩ := List.mem_map.1 hx
      rfl
    have hb9 := HBA.out.size
    clear hps h hq
    refine wpIn_rangeW rfl (by omega) (gf := 145) rfl trivial (enters_of Tryz.func145 (by kernel_rfl) rfl) (K := KSp (w.heap.size + 1 + 1 + 1 + 1)) (ts := spTs 44 sl) (fun j hj => by unfold KSp at hj; omega) hseq HTZ.out
      (fun k W => RInvN w A ps k W) (fun c W => c = .ret ∧ Boxed W (w.heap.size + 1) 54 (.slice none 0 0) ∧ Boxed W (w.heap.size + 1 + 1) 4 (.bool false) ∧ Below w.heap.size w W ∧ Sv.listOf Sv.needS sl = none)
      (fun k B C hi hab => hi.apart hszA hab) (fun c B C hx hab => ⟨hx.1, hab.boxed hx.2.1 (by unfold KSp; omega), hab.boxed hx.2.2.1 (by unfold KSp; omega), hab.below hx.2.2.2.1 (Nat.le_refl _) (fun j hj => by unfold KSp at hj; omega), hx.2.2.2.2⟩)
      ⟨Nat.zero_le _, XA3.out, XA4.out, XA5.out, ⟨_, XA6.out, World.ownsRow_nil _ _ _ _⟩, HBA.out, by simp⟩
      (fun k => { tmps := #[Value.string s, Value.func (Fn.func 95) #[] #[], undef, Value.pointer (some ⟨w.heap.size, 0, none⟩), Value.pointer (some ⟨w.heap.size + 1, 0, none⟩), Value.pointer (some ⟨w.heap.size + 1 + 1, 0, none⟩), Value.pointer (some ⟨w.heap.size + 1 + 1 + 1, 0, none⟩), Value.string ⟨(ps.getD k []).toArray⟩, undef, undef, Value.string s, Value.bool false, Value.string s, Value.func (Fn.func 145) #[] #[Value.pointer (some ⟨w.heap.size + 1 + 1 + 1 + 1 + 1, 0, none⟩), Value.pointer (some ⟨w.heap.size + 1 + 1 + 1 + 1, 0, none⟩), Value.pointer (some ⟨w.heap.size + 1 + 1 + 1 + 1 + 2, 0, none⟩)], Value.string ⟨(ps.getD k []).toArray⟩, undef, undef, undef, undef, undef, undef, undef, undef, undef, undef, undef, undef, undef], defers := [] }) ?assign ?body ?done ?stop
    case assign =>
      intro l k hk W R hR
      rw [HTL.out] at hk
      obtain ⟨hk', e⟩ := HTS.out k hk
      rw [e]
      clear e
      generalize ps.getD k [] = x at *
      gi_wp2_with fail
      exact hR
    case body =>
      intro l k W hk hWs hI
      rw [HTL.out] at hk
      obtain ⟨h1, hb0, hb1, hb2, ⟨v, hb3, hrow⟩, hbel, hgood⟩ := hI
      have hxm : ps.getD k [] ∈ ps := by simp [hk]
      have hxl := HSP.out _ hxm
      have HTK : Hid (ps.take (k + 1) = ps.take k ++ [ps.getD k []]) := by unfold Hid; rw [List.take_succ_eq_append_getElem hk]; simp [hk]
      have HNX : Hid (ndsTo ps (k + 1) = ndsTo ps k ++ [ndOf (ps.getD k [])]) := by unfold Hid; rw [ndsTo_next hk]; simp [hk]
      have HNL := hideIt (ndsTo_len h1)
      have hsl := HSL.out
      have HBAD : Hid (gN (ps.getD k []) = false → Sv.listOf Sv.needS sl = none) := fun hg => by rw [HL.out]; exact allOfN_bad hxm hg
      generalize ps.getD k [] = x at *
      have hN0 := readNeed_any ⟨x.toArray⟩ W (by show x.length < _; omega) (hm.below hbel)
      rw [show (ByteArray.mk x.toArray).data.toList = x by simp] at hN0
      have HN : Hid (Calls Tryz.prog 95 #[.string ⟨x.toArray⟩] W fun e w' => e = .returned (.tuple #[.agg #[.string (ndOf x).kind, .int .i64 (ndOf x).many], .bool (gN x)]) ∧ Below W.heap.size W w') := hN0
      clear hN0
      have c0 := hb0.cell
      have HB1 := hideIt hb1
      have HB2 := hideIt hb2
      have HB3 := hideIt hb3
      have HB0 := hideIt hb0
      have HROW := hideIt hrow
      have HBEL := hideIt hbel
      have HGOOD := hideIt hgood
      generalize ndOf x = nx at *
      clear hgood hbel hseq HTS HTZ HSP hxm
      rcases two (gN x) with hg | hg
      · rw [hg] at HN
        have hlen : (ndsTo ps k).length + 1 ≤ 200000 := by rw [HNL.out]; omega
        obtain ⟨va, vc, hv⟩ := own_slice hrow
        generalize ndsTo ps k = ns at *
        subst hv
        gi_wp2_with fail
        refine ⟨trivial, (CallsIn.inRound l (callsIn_wide.2 HN.out)).mono ?_⟩
        rintro e w1 ⟨rfl, hbw⟩
        have hapw : Apart (fun _ => False) W (w1.alloc (.cells #[.string nx.kind, .int .i64 nx.many] 115)) := (Apart.of_below hbw).trans (Apart.alloc _ _ _)
        have hr1 := hapw.row hrow (fun _ h => h.elim)
        have hb31 := hapw.boxed hb3 id
        have c3 := hb31.cell
        have hs1 : A.heap.size + 1 < (w1.alloc (.cells #[.string nx.kind, .int .i64 nx.many] 115)).heap.size := Nat.lt_of_lt_of_le hWs hapw.size
        have hx0 : (w1.alloc (.cells #[.string nx.kind, .int .i64 nx.many] 115)).cell? ⟨w1.heap.size, 0, none⟩ = some (.string nx.kind) := by simp
        have hx1 : (w1.alloc (.cells #[.string nx.kind, .int .i64 nx.many] 115)).cell? ⟨w1.heap.size, 1, none⟩ = some (.int .i64 nx.many) := by simp
        clear hbw c0 hb0 hb1 hb2 hb3 hrow
        generalize hV2 : w1.alloc (.cells #[.string nx.kind, .int .i64 nx.many] 115) = V2 at *
        gi_wp2_with (gi_at_builtin; refine wpListIn_append_own_at _ rfl _ _ 54 rfl (A.heap.size + 2) 115 i0 _ 2 24 Tryz.underlying54 hi hz0 hz1 hz2 rfl (by decide) _ _ _ rfl (hr1.alloc _) ⟨_, 0, none⟩ 1 1 (ndCells nx) rfl rfl (new_need _ _ _) (ndCells_one nx) (by unfold maxLen; omega) (by omega) (by simp; omega) ?_; intro v' W2 hown' hgrow' _ _; obtain ⟨na, nc, rfl⟩ := own_slice hown'; have hg2 : (V2.alloc (.cells #[.string nx.kind, .int .i64 nx.many] 115)).grownBy W2 (Value.slice va ns.length vc).ownBlock := hgrow'; clear hgrow'; have hap := (hapw.wide (K' := fun j => A.heap.size + 2 ≤ j) fun _ h => h.elim).trans (row_apart hr1 hg2); have hbx2 := hap.boxed HB3.out (by omega); have c3' := hbx2.cell; have f3' := hbx2.frozen)
        have hab : Apart (fun j => A.heap.size + 2 ≤ j ∨ j = w.heap.size + 1 + 1 + 1) W (W2.setCell ⟨w.heap.size + 1 + 1 + 1, 0, none⟩ (.slice na (ns.length + 1) nc)) := (hap.wide fun _ => .inl).trans (Apart.setCell (.inr rfl) _ _ _)
        refine ⟨fun j hj => hab.block j (by unfold KSp at hj; omega) (by unfold KSp at hj; omega), by omega, hab.boxed HB0.out (by omega), hab.boxed HB1.out (by omega), hab.boxed HB2.out (by omega), ⟨_, hbx2.set _, ?_⟩, hab.below HBEL.out (Nat.le_refl _) (fun j hj => by omega), ?_⟩
        · rw [HNX.out, ndsV_snoc, List.length_append]
          exact (Apart.setCell (K := fun j => j = w.heap.size + 1 + 1 + 1) rfl W2 0 _).row hown' (fun j hj => by omega)
        · rw [HTK.out]
          intro y hy
          rcases List.mem_append.1 hy with hy | hy
          · exact HGOOD.out y hy
          · rw [List.mem_singleton] at hy; rw [hy]; exact hg
      · rw [hg] at HN
        have HNO := hideIt (HBAD.out hg)
        gi_wp2_with fail
        refine ⟨trivial, (CallsIn.inRound l (callsIn_wide.2 HN.out)).mono ?_⟩
        rintro e w1 ⟨rfl, hbw⟩
        have hapw : Apart (fun _ => False) W (w1.alloc (.cells #[.string nx.kind, .int .i64 nx.many] 115)) := (Apart.of_below hbw).trans (Apart.alloc _ _ _)
        have d1 := hapw.boxed hb1 id
        have d2 := hapw.boxed hb2 id
        have f1 := d1.frozen
        have f2 := d2.frozen
        have c1 := d1.cell
        have c2 := d2.cell
        clear hbw c0 hb0 hb1 hb2 hb3 hrow
        generalize hV2 : w1.alloc (.cells #[.string nx.kind, .int .i64 nx.many] 115) = V2 at *
        gi_wp2_with fail
        have hab : Apart (fun j => j = w.heap.size + 1 ∨ j = w.heap.size + 1 + 1) W ((V2.setCell ⟨w.heap.size + 1, 0, none⟩ (.slice none 0 0)).setCell ⟨w.heap.size + 1 + 1, 0, none⟩ (.bool false)) := ((hapw.wide fun _ h => h.elim).trans (Apart.setCell (.inl rfl) _ _ _)).trans (Apart.setCell (.inr rfl) _ _ _)
        exact ⟨fun j hj => hab.block j (by unfold KSp at hj; omega) (by unfold KSp at hj; omega), rfl, (Apart.setCell (K := fun j => j = w.heap.size + 1 + 1) rfl _ 0 _).boxed (d1.set _) (by omega), ((Apart.setCell (K := fun j => j = w.heap.size + 1) rfl _ 0 _).boxed d2 (by omega)).set _, hab.below HBEL.out (Nat.le_refl _) (fun j hj => by omega), HNO.out⟩
    case done =>
      intro W hI hD
      rw [HTL.out] at hI
      obtain ⟨_, hb0, hb1, hb2, ⟨v, hb3, hrow⟩, hbel, hgood⟩ := hI
      have HS : Hid (Sv.listOf Sv.needS sl = some (ndsTo ps ps.length)) := by
        unfold Hid
        rw [List.take_length] at hgood
        rw [HL.out, allOfN_good hgood, ndsTo, List.take_length]
      have HROW := hideIt hrow
      have c3 := hb3.cell
      have c1 := hb1.cell
      have c2 := hb2.cell
      have f1 := hb1.frozen
      have f2 := hb2.frozen
      have HBEL := hideIt hbel
      have HB1 := hideIt hb1
      have HB2 := hideIt hb2
      obtain ⟨va, vc, rfl⟩ := own_slice hrow
      clear hgood hbel hrow hseq HTS HTZ HSP
      generalize ndsTo ps ps.length = ns at *
      gi_wp2_with fail
      have hab : Apart (fun j => j = w.heap.size + 1 ∨ j = w.heap.size + 1 + 1) W ((W.setCell ⟨w.heap.size + 1, 0, none⟩ (.slice va ns.length vc)).setCell ⟨w.heap.size + 1 + 1, 0, none⟩ (.bool true)) := (Apart.setCell (.inl rfl) _ _ _).trans (Apart.setCell (.inr rfl) _ _ _)
      have b1 := (Apart.setCell (K := fun j => j = w.heap.size + 1 + 1) rfl _ 0 (.bool true)).boxed (HB1.out.set (.slice va ns.length vc)) (by omega)
      have b2 := ((Apart.setCell (K := fun j => j = w.heap.size + 1) rfl W 0 (.slice va ns.length vc)).boxed HB2.out (by omega)).set (.bool true)
      have hD5 := (hab.block A.heap.size (Array.getElem?_eq_some_iff.1 hD).1 (by omega)).trans hD
      generalize (W.setCell ⟨w.heap.size + 1, 0, none⟩ (.slice va ns.length vc)).setCell ⟨w.heap.size + 1 + 1, 0, none⟩ (.bool true) = W5 at *
      have hput : Apart (fun j => j = A.heap.size) W5 (W5.putObj A.heap.size (.deferred none)) := Apart.putObj (K := fun j => j = A.heap.size) rfl _ _
      have e1 := (hput.boxed b1 (by omega)).cell
      have e2 := (hput.boxed b2 (by omega)).cell
      have HR5 := hideIt (hput.row (hab.row HROW.out (fun j hj => by omega)) (fun j hj => by omega))
      have HB5 := hideIt (hput.below (hab.below HBEL.out (Nat.le_refl _) (fun j hj => by omega)) (Nat.le_refl _) (fun j hj => by omega))
      refine ⟨by simp, .inl ⟨_, _, rfl, run_takeDeferred hD5, ?_⟩⟩
      refine ⟨.tuple #[.slice va ns.length vc, .bool true], ?_, .slice va ns.length vc, by rw [HS.out]; rfl, fun xs hx => ?_, ⟨_, _, _, rfl, fun x hx => Nat.le_trans (by omega) (row_base HR5.out x hx)⟩, HB5.out⟩
      · generalize W5.putObj A.heap.size (Obj.deferred none) = W6 at *
        rw [results_cc rfl]
        go_simp
      · rw [HS.out] at hx
        cases hx
        exact needs_of_row HR5.out
    case stop =>
      rintro c W ⟨rfl, h4, h5, hb, hn⟩ hD
      have c1 := h4.cell
      have c2 := h5.cell
      have HN := hideIt hn
      have HB := hideIt hb
      clear hn hb hseq HTS HTZ HSP
      gi_wp2_with fail
      have hput : Apart (fun j => j = A.heap.size) W (W.putObj A.heap.size (.deferred none)) := Apart.putObj (K := fun j => j = A.heap.size) rfl _ _
      have e1 := (hput.boxed h4 (by omega)).cell
      have e2 := (hput.boxed h5 (by omega)).cell
      have HB5 := hideIt (hput.below HB.out (Nat.le_refl _) (fun j hj => by omega))
      refine ⟨by simp, .inl ⟨_, _, rfl, run_takeDeferred hD, ?_⟩⟩
      refine ⟨.tuple #[.slice none 0 0, .bool false], ?_, .slice none 0 0, by rw [HN.out]; rfl, fun xs hx => ?_, ⟨_, _, _, rfl, fun x hx => by cases hx⟩, HB5.out⟩
      · generalize W.putObj A.heap.size (Obj.deferred none) = W6 at *
        rw [results_cc rfl]
        go_simp
      · rw [HN.out] at hx; cases hx
end Go.Proofs.YtlljniaobbbjgaaGreatDoor

namespace Go.Proofs.YtlljniaobbbjgaaGreatDoor
open Go.RowKit
open Qos (Nd Ct Pd nd ct pd podF leS)
open Sv (Gv Hd gv hd devF devF1 gsF behindF oneF heldF lowAt)
open Dvs (nameMay first)
theorem IntsOf.slice {w : World} {v : Value} {xs : List Int} (h : IntsOf w v xs) : ∃ ao c, v = .slice ao xs.length c := by
  obtain ⟨ao, c, rfl, _⟩ := h
  exact ⟨ao, c, rfl⟩
theorem devF_many {xs : List Int} (h : 16 < xs.length) : devF xs = 2 := by unfold devF; rw [if_pos h]
theorem devF_few {xs : List Int} (h : ¬ 16 < xs.length) : devF xs = first (devF1 xs) xs.length := by unfold devF; rw [if_neg h]
/-- The number ahead, or -1. -/
def lastI (xs : List Int) (k : Nat) : Int := if k = 0 then -1 else xs.getD (k - 1) 0
theorem lastI_next (xs : List Int) (k : Nat) : lastI xs (k + 1) = xs.getD k 0 := rfl
theorem devF1_at {xs : List Int} {k : Nat} (h : first (devF1 xs) k = 0) (hk : k < xs.length) : devF1 xs k = if xs.getD k 0 ≤ lastI xs k ∨ 16 ≤ xs.getD k 0 then 3 else 0 := by
  unfold devF1
  by_cases h0 : k = 0
  · subst h0
    rw [show lastI xs 0 = -1 from rfl]
    by_cases h1 : xs.getD 0 0 < 0 ∨ 15 < xs.getD 0 0
    · rw [if_pos (by omega), if_pos (by omega)]
    · rw [if_neg (by omega), if_neg (by omega)]
  · have e : lastI xs k = xs.getD (k - 1) 0 := by unfold lastI; rw [if_neg h0]
    rw [e]
    have hp := Dvs.first_all h (k - 1) (by omega)
    unfold devF1 at hp
    split at hp
    · cases hp
    rename_i h2
    by_cases h1 : xs.getD k 0 ≤ xs.getD (k - 1) 0 ∨ 16 ≤ xs.getD k 0
    · rw [if_pos h1, if_pos (by omega)]
    · rw [if_neg h1, if_neg (by omega)]
set_option maxRecDepth 100000 in
set_option maxHeartbeats 1000000 in
theorem checkDevs_any (v : Value) (xs : List Int) (w : World) (h : IntsOf w v xs) : Calls Tryz.prog 63 #[v] w fun e w' => e = .returned (errV (devF xs : Nat)) ∧ w' = w := by
  obtain ⟨ao, c, rfl, hm, hr⟩ := h
  have HR := hideIt hr
  clear hr
  have HM := hideIt hm
  unfold maxLen at hm
  by_cases hn : 16 < xs.length
  · have he := devF_many hn
    have hd : decide ((16 : Int) < (xs.length : Int)) = true := decide_eq_true (by omega)
    go_enter Tryz.func63, Tryz.ntmps63
    go_wp2_with fail
    go_ret
    exact ⟨by rw [he]; rfl, rfl⟩
  · rw [devF_few hn]
    have hl : xs.length ≤ 16 := by omega
    have hd : decide ((16 : Int) < (xs.length : Int)) = false := decide_eq_false (by omega)
    go_enter Tryz.func63, Tryz.ntmps63
    go_wp2_with fail
    go_loop [3, 12] (fun la i => ∃ k : Nat, k ≤ xs.length ∧ i = .int .i64 k ∧ la = .int .i64 (lastI xs k) ∧ Hid (first (devF1 xs) k = 0)) (fun _ i => xs.length - (intOf i).toNat)
    case atStart => exact ⟨0, by omega, rfl, rfl, rfl⟩
    case round =>
      obtain ⟨k, hk, rfl, rfl, HF⟩ := hrel
      by_cases hlt : k < xs.length
      · obtain ⟨b, o, rfl, hb, hc⟩ := HR.out (by omega)
        have h1 := hc k hlt
        have HO := hideIt (Dvs.first_hit (f := devF1 xs) (n := xs.length) HF.out · hlt)
        have HZ := hideIt (Dvs.first_zero (f := devF1 xs) (k := k) HF.out)
        have HA := hideIt (devF1_at HF.out hlt)
        have HN := hideIt (lastI_next xs k)
        clear hc HF HR HM
        generalize xs.getD k 0 = x at *
        generalize lastI xs k = L at *
        by_cases ha : x ≤ L
        · have e3 : devF1 xs k = 3 := by rw [HA.out, if_pos (.inl ha)]
          have hd1 : decide (x ≤ L) = true := decide_eq_true ha
          have HO' := hideIt (HO.out (by omega))
          go_wp2_with fail
          go_ret
          exact ⟨by rw [HO'.out, e3]; rfl, rfl⟩
        · have hd1 : decide (x ≤ L) = false := decide_eq_false ha
          by_cases hg : 16 ≤ x
          · have e3 : devF1 xs k = 3 := by rw [HA.out, if_pos (.inr hg)]
            have hd2 : decide (16 ≤ x) = true := decide_eq_true hg
            have HO' := hideIt (HO.out (by omega))
            go_wp2_with fail
            go_ret
            exact ⟨by rw [HO'.out, e3]; rfl, rfl⟩
          · have e0 : devF1 xs k = 0 := by rw [HA.out, if_neg (by omega)]
            have hd2 : decide (16 ≤ x) = false := decide_eq_false hg
            have HZ' := hideIt (HZ.out e0)
            clear HO HZ HA
            go_wp2_with fail
            go_round
            case rel => exact ⟨k + 1, by omega, by go_num, by rw [HN.out], HZ'⟩
            case measure => simp [intOf]; omega
      · have hke : k = xs.length := by omega
        subst hke
        go_wp2_with fail
        go_ret
        exact ⟨by rw [HF.out]; rfl, rfl⟩
theorem GivsIn.at {w : World} {b o : Nat} {gs : List Gv} {dv : Nat → Value} (h : GivsIn w b o gs dv) {k : Nat} (hk : k < gs.length) :
    w.cell? ⟨b, o + k * 2, none⟩ = some (.int .u64 (gv gs k).cp) ∧ w.cell? ⟨b, o + k * 2 + 1, none⟩ = some (dv k) := ⟨(h.2 k hk).1.1, (h.2 k hk).1.2.1⟩
theorem behind_1 {h : Hd} {b : Bool} (e : podF h.pod ≠ 0) : behindF h b = podF h.pod := by unfold behindF; rw [if_pos e]
theorem behind_2 {h : Hd} {b : Bool} (e : podF h.pod = 0) (e2 : b = true ∨ h.gs.length ≠ h.pod.cs.length) : behindF h b = 3 := by unfold behindF; rw [if_neg (by omega), if_pos e2]
theorem behind_3 {h : Hd} {b : Bool} (e : podF h.pod = 0) (e2 : ¬ (b = true ∨ h.gs.length ≠ h.pod.cs.length)) : behindF h b = first (fun k => devF (gv h.gs k).dv) h.gs.length := by unfold behindF; rw [if_neg (by omega), if_neg e2]; rfl
theorem ConsAt.sl {w : World} {v : Value} {cs : List Ct} (h : ConsAt w v cs) : ∃ ao c, v = .slice ao cs.length c := by
  obtain ⟨ao, c, rfl, _⟩ := h
  exact ⟨ao, c, rfl⟩
theorem GivsAt.sl {w : World} {v : Value} {cs : List Gv} (h : GivsAt w v cs) : ∃ ao c, v = .slice ao cs.length c := by
  obtain ⟨ao, c, rfl, _⟩ := h
  exact ⟨ao, c, rfl⟩
set_option maxRecDepth 100000 in
set_option maxHeartbeats 2000000 in
theorem checkHeld_any (h : Hd) (cv gvv : Value) (last : ByteArray) (w : World) (hc : ConsAt w cv h.pod.cs) (hg : GivsAt w gvv h.gs) :
    Calls Tryz.prog 33 #[heldV h cv gvv, .string last] w fun e w' => e = .returned (errV (behindF h (leS h.pod.nm last) : Nat)) ∧ Below w.heap.size w w' := by
  unfold heldV
  have HB0 := hideIt ((Below.refl w.heap.size w).alloc (Nat.le_refl _) (.cells #[.string h.pod.nm, .int .i64 h.pod.pr, cv, gvv] 67))
  have hcb := hc.below HB0.out
  have hgb := hg.below HB0.out
  have HCK := hideIt (check_any h.pod cv _ hcb)
  have HCB := hideIt hcb
  have HGB := hideIt hgb
  obtain ⟨cao, cc, rfl⟩ := hc.sl
  obtain ⟨gao, gc, rfl⟩ := hg.sl
  clear hc hg hcb hgb
  unfold podV at HCK
  by_cases hp : podF h.pod = 0
  · have e0 : errV ((podF h.pod : Nat) : Int) = .nilIface := by rw [hp]; rfl
    go_enter Tryz.func33, Tryz.ntmps33
    go_wp2_with fail
    refine HCK.out.mono ?_
    rintro e w1 ⟨rfl, hb⟩
    rw [e0]
    have HB1 := hideIt (HB0.out.trans (hb.mono HB0.out.size))
    have hG := HGB.out.below hb
    have c0 : w1.cell? ⟨w.heap.size, 0, none⟩ = some (.string h.pod.nm) := (hb.cell (p := ⟨w.heap.size, 0, none⟩) (by simp)).trans (by simp)
    have c2 : w1.cell? ⟨w.heap.size, 2, none⟩ = some (.slice cao h.pod.cs.length cc) := (hb.cell (p := ⟨w.heap.size, 2, none⟩) (by simp)).trans (by simp)
    have c3 : w1.cell? ⟨w.heap.size, 3, none⟩ = some (.slice gao h.gs.length gc) := (hb.cell (p := ⟨w.heap.size, 3, none⟩) (by simp)).trans (by simp)
    clear hb HCK HCB HGB
    rcases two (leS h.pod.nm last) with hle | hle
    · have HE := hideIt (behind_2 (b := leS h.pod.nm last) hp (.inl hle))
      unfold leS at hle
      go_wp2_with fail
      go_ret
      exact ⟨by rw [HE.out]; rfl, HB1.out⟩
    · by_cases hl : h.gs.length = h.pod.cs.length
      · have HE := hideIt (behind_3 (b := leS h.pod.nm last) hp (by rw [hle]; simp [hl]))
        unfold leS at hle
        have hl2 : (h.gs.length : Int) = (h.pod.cs.length : Int) := by omega
        obtain ⟨_, _, hgv, hm, hr⟩ := hG
        cases hgv
        have HR := hideIt hr
        have HM := hideIt hm
        clear hr
        unfold maxLen at hm
        generalize h.gs = gs at *
        go_wp2_with fail
        go_loopw [34] (fun i wr => ∃ k : Nat, k ≤ gs.length ∧ i = .int .i64 k ∧ Below w.heap.size w wr ∧ Below w1.heap.size w1 wr ∧ Hid (first (fun k => devF (gv gs k).dv) k = 0)) (fun i _ => gs.length - (intOf i).toNat)
        case atStart => exact ⟨0, by omega, rfl, HB1.out, Below.refl _ _, rfl⟩
        case round =>
          obtain ⟨k, hk, rfl, hB, hB1, HF⟩ := hrel
          by_cases hlt : k < gs.length
          · obtain ⟨b, o, dv, rfl, hin⟩ := HR.out (by omega)
            have hin := hin.below hB1
            obtain ⟨d0, d1⟩ := hin.at hlt
            have hI := (hin.2 k hlt).2
            have HO : Hid (devF (gv gs k).dv ≠ 0 → first (fun k => devF (gv gs k).dv) gs.length = devF (gv gs k).dv) := hideIt fun h => Dvs.first_hit (f := fun k => devF (gv gs k).dv) (n := gs.length) HF.out h hlt
            have HZ : Hid (devF (gv gs k).dv = 0 → first (fun k => devF (gv gs k).dv) (k + 1) = 0) := hideIt fun h => Dvs.first_zero (f := fun k => devF (gv gs k).dv) (k := k) HF.out h
            have HBW := hideIt ((Below.refl wr.heap.size wr).alloc (Nat.le_refl _) (.cells #[.int .u64 (gv gs k).cp, dv k] 64))
            have HBa := hideIt (hB.alloc hB.size (.cells #[.int .u64 (gv gs k).cp, dv k] 64))
            have HBb := hideIt (hB1.alloc hB1.size (.cells #[.int .u64 (gv gs k).cp, dv k] 64))
            have HCD := hideIt (checkDevs_any (dv k) _ _ (hI.below HBW.out))
            obtain ⟨iao, ic, hsl⟩ := hI.slice
            clear hin hI HF hB hB1
            generalize (gv gs k).cp = cp at *
            generalize devF (gv gs k).dv = F at *
            generalize (gv gs k).dv.length = dn at *
            generalize dv k = d at *
            subst hsl
            go_wp2_with fail
            refine HCD.out.mono ?_
            rintro e w5 ⟨rfl, rfl⟩
            by_cases hF : F = 0
            · have HZ' := hideIt (HZ.out hF)
              rw [show errV (F : Int) = .nilIface by rw [hF]; rfl]
              clear HO HZ hF HCD
              go_wp2_with fail
              go_roundw
              case rel => exact ⟨k + 1, by omega, by go_num, HBa.out, HBb.out, HZ'⟩
              case measure => simp [intOf]; omega
            · have HO' := hideIt (HO.out hF)
              have HP := hideIt (errQ_pos hF)
              rw [HP.out]
              clear HO HZ hF HCD
              go_wp2_with fail
              go_ret
              exact ⟨by rw [HE.out, HO'.out, HP.out]; rfl, HBa.out⟩
          · have hke : k = gs.length := by omega
            subst hke
            have HBa := hideIt hB
            clear hB hB1
            go_wp2_with fail
            go_ret
            exact ⟨by rw [HE.out, HF.out]; rfl, HBa.out⟩
      · have HE := hideIt (behind_2 (b := leS h.pod.nm last) hp (.inr hl))
        unfold leS at hle
        have hl2 : ((h.gs.length : Int) == (h.pod.cs.length : Int)) = false := by simp; omega
        go_wp2_with fail
        go_ret
        exact ⟨by rw [HE.out]; rfl, HB1.out⟩
  · have HE := hideIt (behind_1 (b := leS h.pod.nm last) hp)
    have HP := hideIt (errQ_pos hp)
    go_enter Tryz.func33, Tryz.ntmps33
    go_wp2_with fail
    refine HCK.out.mono ?_
    rintro e w1 ⟨rfl, hb⟩
    have HB1 := hideIt (HB0.out.trans (hb.mono HB0.out.size))
    rw [HP.out]
    clear hb
    go_wp2_with fail
    go_ret
    exact ⟨by rw [HE.out, HP.out]; rfl, HB1.out⟩
theorem HldsIn.at {w : World} {b o : Nat} {hs : List Hd} {cv gvv : Nat → Value} (h : HldsIn w b o hs cv gvv) {k : Nat} (hk : k < hs.length) :
    w.cell? ⟨b, o + k * 4, none⟩ = some (.string (hd hs k).pod.nm) ∧ w.cell? ⟨b, o + k * 4 + 1, none⟩ = some (.int .i64 (hd hs k).pod.pr) ∧ w.cell? ⟨b, o + k * 4 + 2, none⟩ = some (cv k) ∧ w.cell? ⟨b, o + k * 4 + 3, none⟩ = some (gvv k) := (h.2 k hk).1
/-- The name ahead, or none. -/
def lastS (hs : List Hd) (k : Nat) : ByteArray := if k = 0 then ByteArray.empty else (hd hs (k - 1)).pod.nm
theorem lastS_next (hs : List Hd) (k : Nat) : lastS hs (k + 1) = (hd hs k).pod.nm := rfl
theorem name_above {s : ByteArray} (h : nameMay s = true) : leS s ByteArray.empty = false := by
  have h0 := (Sv.name_size h).1
  rw [leS, ByteArray.toList_eq, ByteArray.toList_eq]
  cases hs : s.data.toList with
  | nil => rw [hs] at h0; simp at h0
  | cons a r => rfl
theorem behind_low {h : Hd} {b : Bool} (hb : nameMay h.pod.nm = true → b = false) : behindF h b = behindF h false := by
  unfold behindF
  by_cases hp : podF h.pod = 0
  · have hn := (Qos.pod_len hp).1
    rw [hb hn]
  · rw [if_pos hp, if_pos hp]
theorem one_last (hs : List Hd) (k : Nat) : behindF (hd hs k) (leS (hd hs k).pod.nm (lastS hs k)) = oneF hs k := by
  unfold oneF lowAt lastS
  by_cases h0 : k = 0
  · subst h0
    rw [if_pos rfl]
    show _ = behindF (hd hs 0) false
    exact behind_low name_above
  · rw [if_neg h0, decide_eq_true (by omega : 0 < k)]
    rfl
theorem heldF_many {hs : List Hd} (h : 12 < hs.length) : heldF hs = 2 := by unfold heldF; rw [if_pos h]
theorem heldF_few {hs : List Hd} (h : ¬ 12 < hs.length) : heldF hs = first (oneF hs) hs.length := by unfold heldF; rw [if_neg h]
set_option maxRecDepth 100000 in
set_option maxHeartbeats 2000000 in
theorem saveCheck_any (v : Value) (hs : List Hd) (w : World) (h : HldsAt w v hs) : Calls Tryz.prog 11 #[v] w fun e w' => e = .returned (errV (heldF hs : Nat)) ∧ Below w.heap.size w w' := by
  obtain ⟨ao, c, rfl, hm, hr⟩ := h
  have HR := hideIt hr
  clear hr
  have HM := hideIt hm
  unfold maxLen at hm
  by_cases hn : 12 < hs.length
  · have he := heldF_many hn
    have hd1 : decide ((12 : Int) < (hs.length : Int)) = true := decide_eq_true (by omega)
    go_enter Tryz.func11, Tryz.ntmps11
    go_wp2_with fail
    go_ret
    exact ⟨by rw [he]; rfl, Below.refl _ _⟩
  · rw [heldF_few hn]
    have hl : hs.length ≤ 12 := by omega
    have hd1 : decide ((12 : Int) < (hs.length : Int)) = false := decide_eq_false (by omega)
    go_enter Tryz.func11, Tryz.ntmps11
    go_wp2_with fail
    go_loopw [3, 13] (fun la i wr => ∃ k : Nat, k ≤ hs.length ∧ i = .int .i64 k ∧ la = .string (lastS hs k) ∧ Below w.heap.size w wr ∧ Hid (first (oneF hs) k = 0)) (fun _ i _ => hs.length - (intOf i).toNat)
    case atStart => exact ⟨0, by omega, rfl, rfl, Below.refl _ _, rfl⟩
    case round =>
      obtain ⟨k, hk, rfl, rfl, hB, HF⟩ := hrel
      by_cases hlt : k < hs.length
      · obtain ⟨b, o, cv, gvv, rfl, hin⟩ := HR.out (by omega)
        have hin := hin.below hB
        obtain ⟨d0, d1, d2, d3⟩ := hin.at hlt
        obtain ⟨_, hC, hG⟩ := hin.2 k hlt
        have HO := hideIt (Dvs.first_hit (f := oneF hs) (n := hs.length) HF.out · hlt)
        have HZ := hideIt (Dvs.first_zero (f := oneF hs) (k := k) HF.out)
        have HBW := hideIt ((Below.refl wr.heap.size wr).alloc (Nat.le_refl _) (.cells #[.string (hd hs k).pod.nm, .int .i64 (hd hs k).pod.pr, cv k, gvv k] 67))
        have HBa := hideIt (hB.alloc hB.size (.cells #[.string (hd hs k).pod.nm, .int .i64 (hd hs k).pod.pr, cv k, gvv k] 67))
        have HCH := hideIt (checkHeld_any (hd hs k) (cv k) (gvv k) (lastS hs k) _ (hC.below HBW.out) (hG.below HBW.out))
        rw [one_last hs k] at HCH
        unfold heldV at HCH
        have HN := hideIt (lastS_next hs k)
        obtain ⟨ca, cc, hs1⟩ := hC.sl
        obtain ⟨ga, gc, hs2⟩ := hG.sl
        clear hin hC hG HF hB
        generalize lastS hs k = L at *
        generalize oneF hs k = F at *
        generalize (hd hs k).pod.nm = nm at *
        generalize (hd hs k).pod.pr = pr at *
        generalize (hd hs k).pod.cs.length = cl at *
        generalize (hd hs k).gs.length = gl at *
        generalize cv k = cvk at *
        generalize gvv k = gvk at *
        subst hs1 hs2
        go_wp2_with fail
        refine HCH.out.mono ?_
        rintro e w5 ⟨rfl, hb5⟩
        have HB5 := hideIt (HBa.out.trans (hb5.mono HBa.out.size))
        have c0 : w5.cell? ⟨wr.heap.size, 0, none⟩ = some (.string nm) := (hb5.cell (p := ⟨wr.heap.size, 0, none⟩) (by simp)).trans (by simp)
        clear hb5
        by_cases hF : F = 0
        · have HZ' := hideIt (HZ.out hF)
          rw [show errV (F : Int) = .nilIface by rw [hF]; rfl]
          clear HO HZ hF HCH
          go_wp2_with fail
          go_roundw
          case rel => exact ⟨k + 1, by omega, by go_num, by rw [HN.out], HB5.out, HZ'⟩
          case measure => simp [intOf]; omega
        · have HO' := hideIt (HO.out hF)
          have HP := hideIt (errQ_pos hF)
          rw [HP.out]
          clear HO HZ hF HCH
          go_wp2_with fail
          go_ret
          exact ⟨by rw [HO'.out, HP.out]; rfl, HB5.out⟩
      · have hke : k = hs.length := by omega
        subst hke
        have HBa := hideIt hB
        clear hB
        go_wp2_with fail
        go_ret
        exact ⟨by rw [HF.out]; rfl, HBa.out⟩
end Go.Proofs.YtlljniaobbbjgaaGreatDoor

namespace Go.Proofs.YtlljniaobbbjgaaGreatDoor
open Go.RowKit
open Qos (Nd Ct Pd nd ct pd)
open Sv (Gv Hd gv hd Tx orNo needTxt needsTxt devsTxt setTxt sumTxt fnv)
attribute [local go_sem] Oper.semAt_some
theorem decX (n : Int) (w : World) (h0 : 0 ≤ n) (h1 : n ≤ 9223372036854775807) : Calls Tryz.prog 34 #[.int .i64 n] w fun e w' => e = .returned (.string ⟨(Sv.dec n).toArray⟩) ∧ Below w.heap.size w w' := S1.decimal n w h0 h1
/-- The words ahead of the k-th, one behind the other. -/
def upTo (xs : List Tx) (k : Nat) : Tx := Lib.join (xs.take k) [44]
theorem upTo_all (xs : List Tx) : upTo xs xs.length = Lib.join xs [44] := by unfold upTo; rw [List.take_length]
theorem upTo_next {xs : List Tx} {k : Nat} (h : k < xs.length) : upTo xs (k + 1) = if k = 0 then xs.getD k [] else upTo xs k ++ [44] ++ xs.getD k [] := by
  unfold upTo
  rw [List.take_succ_eq_append_getElem h, Ost.join_snoc, show xs.getD k [] = xs[k] by simp [h]]
  by_cases h0 : k = 0
  · subst h0; simp
  · rw [if_neg h0, if_neg (by intro e; have h2 := congrArg List.length e; rw [List.length_take, Nat.min_eq_left (by omega)] at h2; exact h0 h2)]
theorem upTo_le {xs : List Tx} {k m : Nat} (h : ∀ x ∈ xs, x.length ≤ m) (hk : k ≤ xs.length) : (upTo xs k).length ≤ k * (m + 1) := by
  have h1 := Sv.join_le 44 m (xs.take k) (fun x hx => h x (List.mem_of_mem_take hx))
  rw [List.length_take, Nat.min_eq_left hk] at h1
  exact h1
theorem orNo_isEmpty (l : Tx) : orNo l = if l.isEmpty then [45] else l := by
  unfold orNo
  cases l <;> simp
theorem emptyX (l : List UInt8) : (ByteArray.mk l.toArray).toList.isEmpty = l.isEmpty := by rw [ByteArray.toList_eq]
set_option maxRecDepth 100000 in
set_option maxHeartbeats 1000000 in
theorem listed_any (v : Value) (xs : List Int) (w : World) (h : IntsOf w v xs) (hl : xs.length ≤ 16) (hx : ∀ x ∈ xs, 0 ≤ x ∧ x ≤ 15) : Calls Tryz.prog 37 #[v] w fun e w' => e = .returned (.string ⟨(devsTxt xs).toArray⟩) ∧ Below w.heap.size w w' := by
  obtain ⟨ao, c, rfl, hm, hr⟩ := h
  unfold maxLen at hm
  have HR := hideIt hr
  have HX := hideIt hx
  have HW : Hid (∀ k, k ≤ xs.length → (upTo (xs.map Sv.dec) k).length ≤ 1000) := fun k hk => by
    have := upTo_le (xs := xs.map Sv.dec) (k := k) (m := 20) (fun y hy => by obtain ⟨z, hz, rfl⟩ := List.mem_map.1 hy; exact Sv.dec_le z (by have := hx z hz; omega)) (by simpa using hk)
    have : k * 21 ≤ 16 * 21 := Nat.mul_le_mul_right _ (by omega)
    omega
  have HE : Hid (devsTxt xs = orNo (upTo (xs.map Sv.dec) xs.length)) := by unfold Hid devsTxt; rw [← upTo_all]; simp
  have HN : Hid (∀ k, k < xs.length → upTo (xs.map Sv.dec) (k + 1) = if k = 0 then Sv.dec (xs.getD k 0) else upTo (xs.map Sv.dec) k ++ [44] ++ Sv.dec (xs.getD k 0)) := fun k hk => by
    rw [upTo_next (by simpa using hk)]; simp [hk]
  have H0 : Hid (upTo (xs.map Sv.dec) 0 = []) := by unfold Hid upTo; rfl
  clear hr hx
  generalize upTo (xs.map Sv.dec) = U at *
  go_enter Tryz.func37, Tryz.ntmps37
  go_wp2_with fail
  go_loopw [3, 4] (fun s i wr => ∃ k : Nat, k ≤ xs.length ∧ i = .int .i64 k ∧ s = .string ⟨(U k).toArray⟩ ∧ Below w.heap.size w wr) (fun _ i _ => xs.length - (intOf i).toNat)
  case atStart => exact ⟨0, by omega, rfl, by rw [H0.out], Below.refl _ _⟩
  case round =>
    obtain ⟨k, hk, rfl, rfl, hB⟩ := hrel
    have HB := hideIt hB
    clear hB
    by_cases hlt : k < xs.length
    · obtain ⟨b, o, rfl, hb, hc⟩ := HR.out (by omega)
      have x0 := (HB.out.cell (p := ⟨b, o + k, none⟩) hb).trans (hc k hlt)
      have hxk := HX.out (xs.getD k 0) (by simp [hlt])
      have hU := HW.out k hk
      have hdl := Sv.dec_le (xs.getD k 0) (by omega)
      have HNk := hideIt (HN.out k hlt)
      clear hc
      generalize xs.getD k 0 = x at *
      by_cases h0 : k = 0
      · subst h0
        rw [H0.out]
        rw [Nat.add_zero] at x0
        rw [if_pos rfl] at HNk
        go_wp2_with fail
        refine (decX x wr hxk.1 (by omega)).mono ?_
        rintro e w1 ⟨rfl, hb1⟩
        have HB1 := hideIt (HB.out.trans (hb1.mono HB.out.size))
        clear hb1
        go_wp2_with fail
        go_roundw
        case rel => exact ⟨0 + 1, by omega, by go_num, by rw [HNk.out]; exact congrArg Value.string (by apply ByteArray.ext; simp), HB1.out⟩
        case measure => simp [intOf]; omega
      · have h0' : decide ((0 : Int) < (k : Int)) = true := decide_eq_true (by omega)
        have h0'' : 0 < k := by omega
        rw [if_neg h0] at HNk
        clear h0
        generalize U k = Y at *
        go_wp2_with fail
        refine (decX x wr hxk.1 (by omega)).mono ?_
        rintro e w1 ⟨rfl, hb1⟩
        have HB1 := hideIt (HB.out.trans (hb1.mono HB.out.size))
        clear hb1
        go_wp2_with fail
        go_roundw
        case rel => exact ⟨k + 1, by omega, by go_num, by rw [HNk.out]; exact congrArg Value.string (by apply ByteArray.ext; simp), HB1.out⟩
        case measure => simp [intOf]; omega
    · have hke : k = xs.length := by omega
      have HE2 : Hid (devsTxt xs = orNo (U k)) := by unfold Hid; rw [hke]; exact HE.out
      clear HE HN HW H0 hke
      generalize U k = Y at *
      rcases two Y.isEmpty with hy | hy
      · have hy2 : (ByteArray.mk Y.toArray).toList.isEmpty = true := (emptyX Y).trans hy
        go_wp2_with fail
        go_ret
        exact ⟨by rw [HE2.out, orNo_isEmpty, hy]; rfl, HB.out⟩
      · have hy2 : (ByteArray.mk Y.toArray).toList.isEmpty = false := (emptyX Y).trans hy
        go_wp2_with fail
        go_ret
        exact ⟨by rw [HE2.out, orNo_isEmpty, hy]; rfl, HB.out⟩
theorem txt_neX {A : Nat} (h0 : A ≠ 0) (hA : A < 18446744073709551616) : Ost.txt A ≠ [] := fun e => by
  have hp := Ost.parse_txt A hA
  rw [e] at hp
  have h2 : Ost.parseOut [] = (0, 0) := by decide
  rw [h2] at hp
  injection hp with h3 _
  exact h0 h3.symm
set_option maxRecDepth 100000 in
theorem setWord_any (A : Nat) (w : World) (hA : A < 18446744073709551616) : Calls Tryz.prog 36 #[.int .u64 A] w fun e w' => e = .returned (.string ⟨(setTxt A).toArray⟩) ∧ Below w.heap.size w w' := by
  by_cases h0 : A = 0
  · subst h0
    go_enter Tryz.func36, Tryz.ntmps36
    go_wp2_with fail
    go_ret
    exact ⟨rfl, Below.refl _ _⟩
  · have h1 : ((A : Int) == 0) = false := by simp; omega
    have HE : Hid (setTxt A = Ost.txt A) := by
      unfold Hid setTxt orNo
      rw [if_neg (txt_neX h0 hA)]
    go_enter Tryz.func36, Tryz.ntmps36
    go_wp2_with fail
    refine (S1.setText_any A w hA).mono ?_
    rintro e w1 ⟨rfl, hb⟩
    have HB := hideIt hb
    clear hb
    go_wp2_with fail
    go_ret
    exact ⟨by rw [HE.out]; rfl, HB.out⟩
set_option maxRecDepth 100000 in
theorem summed_any (b : List UInt8) (w : World) (hb : b.length ≤ 1000000) : Calls Tryz.prog 18 #[.string ⟨b.toArray⟩] w fun e w' => e = .returned (.string ⟨(b ++ sumTxt b).toArray⟩) ∧ Below w.heap.size w w' := by
  have HS := hideIt (refSum_any ⟨b.toArray⟩ w (by unfold maxLen; simp [ByteArray.size]; omega))
  rw [show (ByteArray.mk b.toArray).data.toList = b by simp] at HS
  have hlt := Sv.fnv_lt b
  have hdl := Sv.dd_le (fnv b) (by omega)
  have HE : Hid (sumTxt b = [115, 117, 109, 32] ++ Sv.dec (fnv b : Nat) ++ [10]) := by unfold Hid sumTxt Sv.dec; rw [Int.toNat_natCast]
  have hdl2 : (Sv.dec (fnv b : Nat)).length ≤ 20 := by unfold Sv.dec; rw [Int.toNat_natCast]; exact hdl
  clear hdl
  generalize fnv b = f at *
  go_enter Tryz.func18, Tryz.ntmps18
  go_wp2_with fail
  refine HS.out.mono ?_
  rintro e w1 ⟨rfl, rfl⟩
  go_wp2_with fail
  refine (decX (f : Int) _ (by omega) (by omega)).mono ?_
  rintro e w2 ⟨rfl, hb2⟩
  have HB := hideIt hb2
  clear hb2
  generalize Sv.dec (f : Int) = D at *
  go_wp2_with fail
  go_ret
  exact ⟨by rw [HE.out]; exact congrArg (fun x => Ending.returned (Value.string x)) (by apply ByteArray.ext; simp), HB.out⟩
theorem nd_map {ds : List Nd} {k : Nat} (h : k < ds.length) : (ds.map needTxt).getD k [] = needTxt (nd ds k) := by simp [nd, h]
set_option maxRecDepth 100000 in
set_option maxHeartbeats 2000000 in
theorem needsText_any (v : Value) (ds : List Nd) (w : World) (h : NeedsAt w v ds) (hl : ds.length ≤ 3) (hx : ∀ d ∈ ds, Sv.OkN d) : Calls Tryz.prog 35 #[v] w fun e w' => e = .returned (.string ⟨(needsTxt ds).toArray⟩) ∧ Below w.heap.size w w' := by
  obtain ⟨ao, c, rfl, hm, hr⟩ := h
  unfold maxLen at hm
  have HR := hideIt hr
  have HX := hideIt hx
  have HW : Hid (∀ k, k ≤ ds.length → (upTo (ds.map needTxt) k).length ≤ 1000) := fun k hk => by
    have := upTo_le (xs := ds.map needTxt) (k := k) (m := 29) (fun y hy => by obtain ⟨z, hz, rfl⟩ := List.mem_map.1 hy; exact Sv.needTxt_le (hx z hz)) (by simpa using hk)
    have : k * 30 ≤ 3 * 30 := Nat.mul_le_mul_right _ (by omega)
    omega
  have HE : Hid (needsTxt ds = orNo (upTo (ds.map needTxt) ds.length)) := by unfold Hid needsTxt; rw [← upTo_all]; simp
  have HN : Hid (∀ k, k < ds.length → upTo (ds.map needTxt) (k + 1) = if k = 0 then needTxt (nd ds k) else upTo (ds.map needTxt) k ++ [44] ++ needTxt (nd ds k)) := fun k hk => by
    rw [upTo_next (by simpa using hk), nd_map hk]
  have H0 : Hid (upTo (ds.map needTxt) 0 = []) := by unfold Hid upTo; rfl
  clear hr hx
  generalize upTo (ds.map needTxt) = U at *
  go_enter Tryz.func35, Tryz.ntmps35
  go_wp2_with fail
  go_loopw [3, 4] (fun s i wr => ∃ k : Nat, k ≤ ds.length ∧ i = .int .i64 k ∧ s = .string ⟨(U k).toArray⟩ ∧ Below w.heap.size w wr) (fun _ i _ => ds.length - (intOf i).toNat)
  case atStart => exact ⟨0, by omega, rfl, by rw [H0.out], Below.refl _ _⟩
  case round =>
    obtain ⟨k, hk, rfl, rfl, hB⟩ := hrel
    have HB := hideIt hB
    clear hB
    by_cases hlt : k < ds.length
    · obtain ⟨b, o, rfl, hb, hc⟩ := HR.out (by omega)
      have HS0 := hideIt (show wr.drew.cell? ⟨b, o + k * 2, none⟩ = some (.string (nd ds k).kind) ∧ wr.drew.cell? ⟨b, o + k * 2 + 1, none⟩ = some (.int .i64 (nd ds k).many) from ⟨(HB.out.cell (p := ⟨b, o + k * 2, none⟩) hb).trans (hc k hlt).1, (HB.out.cell (p := ⟨b, o + k * 2 + 1, none⟩) hb).trans (hc k hlt).2⟩)
      have HL := hideIt (Nat.lt_of_lt_of_le hb HB.out.size)
      obtain ⟨hn, hm0, hm1⟩ := HX.out (nd ds k) (Sv.mem_nd hlt)
      have hks := (Sv.name_size hn).2
      have hU := HW.out k hk
      have hdl := Sv.dec_le (nd ds k).many (by omega)
      have HNk := hideIt (HN.out k hlt)
      have hm0 : 0 ≤ (nd ds k).many := by omega
      have hm1 : (nd ds k).many ≤ 9223372036854775807 := by omega
      clear hc hn
      generalize nd ds k = x at *
      obtain ⟨kd, mn⟩ := x
      dsimp only at HS0 hm0 hm1 hks hdl
      have hkz : kd.size ≤ 8 := by simpa using hks
      clear hks
      by_cases h0 : k = 0
      · have h0' : decide ((0 : Int) < (k : Int)) = false := decide_eq_false (by omega)
        have h0'' : ¬ 0 < k := by omega
        have HY : Hid (U k = []) := by unfold Hid; rw [h0]; exact H0.out
        rw [if_pos h0] at HNk
        clear h0
        generalize U k = Y at *
        unfold needTxt at HNk
        dsimp only at HNk
        go_wp2_with fail
        refine wp_region_held_drew (S := (fun w' => w'.cell? ⟨b, o + k * 2, none⟩ = some (.string kd) ∧ w'.cell? ⟨b, o + k * 2 + 1, none⟩ = some (.int .i64 mn))) (by kernel_rfl) HS0.out (fun hHeld => ?_)
        refine wpAnyH_take (i := 0) (oi := { dst := some 15, op := Op.move (Operand.tmp 3), type := 9, pos := "ostler.go:416", after := #[], guard := none }) (v := ?v1x0) rfl (by kernel_rfl) (by kernel_rfl) (by kernel_rfl) (fun _ _ _ h => h) (Or.inl ⟨by rfl, ?h1x0⟩) (by assumption) ?r1x0
        case h1x0 =>
          intro w' hSw
          (try dsimp only at hSw)
          go_simp
          first | done | with_reducible rfl | rfl | (rw [if_neg (by omega)])
        (try simp only [Act.put, List.setIfInBounds_toArray, List.set_cons_zero, List.set_cons_succ])
        refine wpAnyH_take (i := 1) (oi := { dst := some 16, op := Op.move (Operand.tmp 0), type := 54, pos := "ostler.go:416", after := #[], guard := none }) (v := ?v2x1) rfl (by kernel_rfl) (by kernel_rfl) (by kernel_rfl) (fun _ _ _ h => h) (Or.inl ⟨by rfl, ?h2x1⟩) (by assumption) ?r2x1
        case h2x1 =>
          intro w' hSw
          (try dsimp only at hSw)
          go_simp
          first | done | with_reducible rfl | rfl | (rw [if_neg (by omega)])
        (try simp only [Act.put, List.setIfInBounds_toArray, List.set_cons_zero, List.set_cons_succ])
        refine wpAnyH_take (i := 2) (oi := { dst := some 17, op := Op.move (Operand.tmp 4), type := 3, pos := "ostler.go:416", after := #[], guard := none }) (v := ?v3x2) rfl (by kernel_rfl) (by kernel_rfl) (by kernel_rfl) (fun _ _ _ h => h) (Or.inl ⟨by rfl, ?h3x2⟩) (by assumption) ?r3x2
        case h3x2 =>
          intro w' hSw
          (try dsimp only at hSw)
          go_simp
          first | done | with_reducible rfl | rfl | (rw [if_neg (by omega)])
        (try simp only [Act.put, List.setIfInBounds_toArray, List.set_cons_zero, List.set_cons_succ])
        refine wpAnyH_take (i := 3) (oi := { dst := some 18, op := Op.indexAddr 54 (Operand.tmp 16) (Operand.tmp 17), type := 0, pos := "ostler.go:416", after := #[{ on := 1, ground := Ground.data }, { on := 2, ground := Ground.data }], guard := none }) (v := ?v4x3) rfl (by kernel_rfl) (by kernel_rfl) (by kernel_rfl) (fun _ _ _ h => h) (Or.inl ⟨by rfl, ?h4x3⟩) (by assumption) ?r4x3
        case h4x3 =>
          intro w' hSw
          (try dsimp only at hSw)
          go_simp
          first | done | with_reducible rfl | rfl | (rw [if_neg (by omega)])
        (try simp only [Act.put, List.setIfInBounds_toArray, List.set_cons_zero, List.set_cons_succ])
        refine wpAnyH_take (i := 4) (oi := { dst := some 19, op := Op.fieldAddr 115 (Operand.tmp 18) 0, type := 0, pos := "ostler.go:416", after := #[{ on := 3, ground := Ground.data }], guard := none }) (v := ?v5x4) rfl (by kernel_rfl) (by kernel_rfl) (by kernel_rfl) (fun _ _ _ h => h) (Or.inl ⟨by rfl, ?h5x4⟩) (by assumption) ?r5x4
        case h5x4 =>
          intro w' hSw
          (try dsimp only at hSw)
          go_simp
          first | done | with_reducible rfl | rfl | (rw [if_neg (by omega)])
        (try simp only [Act.put, List.setIfInBounds_toArray, List.set_cons_zero, List.set_cons_succ])
        refine wpAnyH_take (i := 5) (oi := { dst := some 20, op := Op.load 9 (Operand.tmp 19), type := 9, pos := "ostler.go:416", after := #[{ on := 4, ground := Ground.data }], guard := none }) (v := ?v6x5) rfl (by kernel_rfl) (by kernel_rfl) (by kernel_rfl) (fun _ _ _ h => h) (Or.inl ⟨by rfl, ?h6x5⟩) (by assumption) ?r6x5
        case h6x5 =>
          intro w' hSw
          (try dsimp only at hSw)
          go_simp
          first | done | with_reducible rfl | rfl | (rw [if_neg (by omega)])
        (try simp only [Act.put, List.setIfInBounds_toArray, List.set_cons_zero, List.set_cons_succ])
        refine wpAnyH_take (i := 6) (oi := { dst := some 21, op := Op.binOp BinOp.add 9 (Operand.tmp 15) (Operand.tmp 20) 9, type := 9, pos := "ostler.go:416", after := #[{ on := 0, ground := Ground.data }, { on := 5, ground := Ground.data }], guard := none }) (v := ?v7x6) rfl (by kernel_rfl) (by kernel_rfl) (by kernel_rfl) (fun _ _ _ h => h) (Or.inl ⟨by rfl, ?h7x6⟩) (by assumption) ?r7x6
        case h7x6 =>
          intro w' hSw
          (try dsimp only at hSw)
          go_simp
          first | done | with_reducible rfl | rfl | (rw [if_neg (by omega)])
        (try simp only [Act.put, List.setIfInBounds_toArray, List.set_cons_zero, List.set_cons_succ])
        refine wpAnyH_take (i := 7) (oi := { dst := some 22, op := Op.binOp BinOp.add 9 (Operand.tmp 21) (Operand.const (Value.string { data := #[58] })) 9, type := 9, pos := "ostler.go:416", after := #[{ on := 6, ground := Ground.data }], guard := none }) (v := ?v8x7) rfl (by kernel_rfl) (by kernel_rfl) (by kernel_rfl) (fun _ _ _ h => h) (Or.inl ⟨by rfl, ?h8x7⟩) (by assumption) ?r8x7
        case h8x7 =>
          intro w' hSw
          (try dsimp only at hSw)
          go_simp
          first | done | with_reducible rfl | rfl | (rw [if_neg (by omega)])
        (try simp only [Act.put, List.setIfInBounds_toArray, List.set_cons_zero, List.set_cons_succ])
        refine wpAnyH_take (i := 8) (oi := { dst := some 23, op := Op.move (Operand.tmp 0), type := 54, pos := "ostler.go:416", after := #[], guard := none }) (v := ?v9x8) rfl (by kernel_rfl) (by kernel_rfl) (by kernel_rfl) (fun _ _ _ h => h) (Or.inl ⟨by rfl, ?h9x8⟩) (by assumption) ?r9x8
        case h9x8 =>
          intro w' hSw
          (try dsimp only at hSw)
          go_simp
          first | done | with_reducible rfl | rfl | (rw [if_neg (by omega)])
        (try simp only [Act.put, List.setIfInBounds_toArray, List.set_cons_zero, List.set_cons_succ])
        refine wpAnyH_take (i := 9) (oi := { dst := some 24, op := Op.move (Operand.tmp 4), type := 3, pos := "ostler.go:416", after := #[], guard := none }) (v := ?v10x9) rfl (by kernel_rfl) (by kernel_rfl) (by kernel_rfl) (fun _ _ _ h => h) (Or.inl ⟨by rfl, ?h10x9⟩) (by assumption) ?r10x9
        case h10x9 =>
          intro w' hSw
          (try dsimp only at hSw)
          go_simp
          first | done | with_reducible rfl | rfl | (rw [if_neg (by omega)])
        (try simp only [Act.put, List.setIfInBounds_toArray, List.set_cons_zero, List.set_cons_succ])
        refine wpAnyH_take (i := 10) (oi := { dst := some 25, op := Op.indexAddr 54 (Operand.tmp 23) (Operand.tmp 24), type := 0, pos := "ostler.go:416", after := #[{ on := 8, ground := Ground.data }, { on := 9, ground := Ground.data }], guard := none }) (v := ?v11x10) rfl (by kernel_rfl) (by kernel_rfl) (by kernel_rfl) (fun _ _ _ h => h) (Or.inl ⟨by rfl, ?h11x10⟩) (by assumption) ?r11x10
        case h11x10 =>
          intro w' hSw
          (try dsimp only at hSw)
          go_simp
          first | done | with_reducible rfl | rfl | (rw [if_neg (by omega)])
        (try simp only [Act.put, List.setIfInBounds_toArray, List.set_cons_zero, List.set_cons_succ])
        refine wpAnyH_take (i := 11) (oi := { dst := some 26, op := Op.fieldAddr 115 (Operand.tmp 25) 1, type := 0, pos := "ostler.go:416", after := #[{ on := 10, ground := Ground.data }], guard := none }) (v := ?v12x11) rfl (by kernel_rfl) (by kernel_rfl) (by kernel_rfl) (fun _ _ _ h => h) (Or.inl ⟨by rfl, ?h12x11⟩) (by assumption) ?r12x11
        case h12x11 =>
          intro w' hSw
          (try dsimp only at hSw)
          go_simp
          first | done | with_reducible rfl | rfl | (rw [if_neg (by omega)])
        (try simp only [Act.put, List.setIfInBounds_toArray, List.set_cons_zero, List.set_cons_succ])
        refine wpAnyH_take (i := 12) (oi := { dst := some 27, op := Op.load 3 (Operand.tmp 26), type := 3, pos := "ostler.go:416", after := #[{ on := 11, ground := Ground.data }], guard := none }) (v := ?v13x12) rfl (by kernel_rfl) (by kernel_rfl) (by kernel_rfl) (fun _ _ _ h => h) (Or.inl ⟨by rfl, ?h13x12⟩) (by assumption) ?r13x12
        case h13x12 =>
          intro w' hSw
          (try dsimp only at hSw)
          go_simp
          first | done | with_reducible rfl | rfl | (rw [if_neg (by omega)])
        (try simp only [Act.put, List.setIfInBounds_toArray, List.set_cons_zero, List.set_cons_succ])
        refine wpAnyH_ready (rs := [13]) (by kernel_rfl) (by simp) (AllReadyH.cons rfl (fun K hK => ?_) AllReadyH.nil)
        go_simp
        go_wp2_with fail
        refine (decX mn _ hm0 hm1).mono ?_
        rintro e W1 ⟨rfl, hb1⟩
        have HB1 := hideIt (HB.out.trans ((show Below wr.heap.size wr W1 from ⟨hb1.os, hb1.tape, hb1.output, hb1.size, hb1.block⟩).mono HB.out.size))
        have HS1 := hideIt (show W1.cell? ⟨b, o + k * 2, none⟩ = some (.string kd) ∧ W1.cell? ⟨b, o + k * 2 + 1, none⟩ = some (.int .i64 mn) from ⟨(hb1.cell (p := ⟨b, o + k * 2, none⟩) HL.out).trans HS0.out.1, (hb1.cell (p := ⟨b, o + k * 2 + 1, none⟩) HL.out).trans HS0.out.2⟩)
        clear hb1
        generalize Sv.dec mn = D at *
        go_wp2_with fail
        refine hK.out _ _ HS1.out (fun hHeld => ?_)
        clear hK K
        refine wpAnyH_take (i := 14) (oi := { dst := some 29, op := Op.binOp BinOp.add 9 (Operand.tmp 22) (Operand.tmp 28) 9, type := 9, pos := "ostler.go:416", after := #[{ on := 7, ground := Ground.data }, { on := 13, ground := Ground.data }], guard := none }) (v := ?v14x14) rfl (by kernel_rfl) (by kernel_rfl) (by kernel_rfl) (fun _ _ _ h => h) (Or.inl ⟨by rfl, ?h14x14⟩) (by assumption) ?r14x14
        case h14x14 =>
          intro w' hSw
          (try dsimp only at hSw)
          go_simp
          first | done | with_reducible rfl | rfl | (rw [if_neg (by omega)])
        (try simp only [Act.put, List.setIfInBounds_toArray, List.set_cons_zero, List.set_cons_succ])
        refine wpAnyH_take (i := 15) (oi := { dst := some 3, op := Op.assign (Operand.tmp 29), type := 9, pos := "ostler.go:416", after := #[{ on := 14, ground := Ground.data }, { on := 13, ground := Ground.chain }, { on := 0, ground := Ground.phase }, { on := 1, ground := Ground.phase }, { on := 2, ground := Ground.phase }, { on := 3, ground := Ground.phase }, { on := 4, ground := Ground.phase }, { on := 5, ground := Ground.phase }, { on := 6, ground := Ground.phase }, { on := 7, ground := Ground.phase }, { on := 8, ground := Ground.phase }, { on := 9, ground := Ground.phase }, { on := 10, ground := Ground.phase }, { on := 11, ground := Ground.phase }, { on := 12, ground := Ground.phase }, { on := 13, ground := Ground.phase }, { on := 14, ground := Ground.phase }], guard := none }) (v := ?v15x15) rfl (by kernel_rfl) (by kernel_rfl) (by kernel_rfl) (fun _ _ _ h => h) (Or.inl ⟨by rfl, ?h15x15⟩) (by assumption) ?r15x15
        case h15x15 =>
          intro w' hSw
          (try dsimp only at hSw)
          go_simp
          first | done | with_reducible rfl | rfl | (rw [if_neg (by omega)])
        (try simp only [Act.put, List.setIfInBounds_toArray, List.set_cons_zero, List.set_cons_succ])
        refine wpAnyH_done (by kernel_rfl) ?_ _
        clear hHeld
        go_wp2_with fail
        go_roundw
        case rel => exact ⟨k + 1, by omega, by go_num, by rw [HNk.out]; exact congrArg Value.string (by rw [HY.out]; apply ByteArray.ext; simp), HB1.out⟩
        case measure => simp [intOf]; omega
      · have h0' : decide ((0 : Int) < (k : Int)) = true := decide_eq_true (by omega)
        have h0'' : 0 < k := by omega
        rw [if_neg h0] at HNk
        clear h0
        generalize U k = Y at *
        unfold needTxt at HNk
        dsimp only at HNk
        go_wp2_with fail
        refine wp_region_held_drew (S := (fun w' => w'.cell? ⟨b, o + k * 2, none⟩ = some (.string kd) ∧ w'.cell? ⟨b, o + k * 2 + 1, none⟩ = some (.int .i64 mn))) (by kernel_rfl) HS0.out (fun hHeld => ?_)
        refine wpAnyH_take (i := 0) (oi := { dst := some 15, op := Op.move (Operand.tmp 3), type := 9, pos := "ostler.go:416", after := #[], guard := none }) (v := ?v16x0) rfl (by kernel_rfl) (by kernel_rfl) (by kernel_rfl) (fun _ _ _ h => h) (Or.inl ⟨by rfl, ?h16x0⟩) (by assumption) ?r16x0
        case h16x0 =>
          intro w' hSw
          (try dsimp only at hSw)
          go_simp
          first | done | with_reducible rfl | rfl | (rw [if_neg (by omega)])
        (try simp only [Act.put, List.setIfInBounds_toArray, List.set_cons_zero, List.set_cons_succ])
        refine wpAnyH_take (i := 1) (oi := { dst := some 16, op := Op.move (Operand.tmp 0), type := 54, pos := "ostler.go:416", after := #[], guard := none }) (v := ?v17x1) rfl (by kernel_rfl) (by kernel_rfl) (by kernel_rfl) (fun _ _ _ h => h) (Or.inl ⟨by rfl, ?h17x1⟩) (by assumption) ?r17x1
        case h17x1 =>
          intro w' hSw
          (try dsimp only at hSw)
          go_simp
          first | done | with_reducible rfl | rfl | (rw [if_neg (by omega)])
        (try simp only [Act.put, List.setIfInBounds_toArray, List.set_cons_zero, List.set_cons_succ])
        refine wpAnyH_take (i := 2) (oi := { dst := some 17, op := Op.move (Operand.tmp 4), type := 3, pos := "ostler.go:416", after := #[], guard := none }) (v := ?v18x2) rfl (by kernel_rfl) (by kernel_rfl) (by kernel_rfl) (fun _ _ _ h => h) (Or.inl ⟨by rfl, ?h18x2⟩) (by assumption) ?r18x2
        case h18x2 =>
          intro w' hSw
          (try dsimp only at hSw)
          go_simp
          first | done | with_reducible rfl | rfl | (rw [if_neg (by omega)])
        (try simp only [Act.put, List.setIfInBounds_toArray, List.set_cons_zero, List.set_cons_succ])
        refine wpAnyH_take (i := 3) (oi := { dst := some 18, op := Op.indexAddr 54 (Operand.tmp 16) (Operand.tmp 17), type := 0, pos := "ostler.go:416", after := #[{ on := 1, ground := Ground.data }, { on := 2, ground := Ground.data }], guard := none }) (v := ?v19x3) rfl (by kernel_rfl) (by kernel_rfl) (by kernel_rfl) (fun _ _ _ h => h) (Or.inl ⟨by rfl, ?h19x3⟩) (by assumption) ?r19x3
        case h19x3 =>
          intro w' hSw
          (try dsimp only at hSw)
          go_simp
          first | done | with_reducible rfl | rfl | (rw [if_neg (by omega)])
        (try simp only [Act.put, List.setIfInBounds_toArray, List.set_cons_zero, List.set_cons_succ])
        refine wpAnyH_take (i := 4) (oi := { dst := some 19, op := Op.fieldAddr 115 (Operand.tmp 18) 0, type := 0, pos := "ostler.go:416", after := #[{ on := 3, ground := Ground.data }], guard := none }) (v := ?v20x4) rfl (by kernel_rfl) (by kernel_rfl) (by kernel_rfl) (fun _ _ _ h => h) (Or.inl ⟨by rfl, ?h20x4⟩) (by assumption) ?r20x4
        case h20x4 =>
          intro w' hSw
          (try dsimp only at hSw)
          go_simp
          first | done | with_reducible rfl | rfl | (rw [if_neg (by omega)])
        (try simp only [Act.put, List.setIfInBounds_toArray, List.set_cons_zero, List.set_cons_succ])
        refine wpAnyH_take (i := 5) (oi := { dst := some 20, op := Op.load 9 (Operand.tmp 19), type := 9, pos := "ostler.go:416", after := #[{ on := 4, ground := Ground.data }], guard := none }) (v := ?v21x5) rfl (by kernel_rfl) (by kernel_rfl) (by kernel_rfl) (fun _ _ _ h => h) (Or.inl ⟨by rfl, ?h21x5⟩) (by assumption) ?r21x5
        case h21x5 =>
          intro w' hSw
          (try dsimp only at hSw)
          go_simp
          first | done | with_reducible rfl | rfl | (rw [if_neg (by omega)])
        (try simp only [Act.put, List.setIfInBounds_toArray, List.set_cons_zero, List.set_cons_succ])
        refine wpAnyH_take (i := 6) (oi := { dst := some 21, op := Op.binOp BinOp.add 9 (Operand.tmp 15) (Operand.tmp 20) 9, type := 9, pos := "ostler.go:416", after := #[{ on := 0, ground := Ground.data }, { on := 5, ground := Ground.data }], guard := none }) (v := ?v22x6) rfl (by kernel_rfl) (by kernel_rfl) (by kernel_rfl) (fun _ _ _ h => h) (Or.inl ⟨by rfl, ?h22x6⟩) (by assumption) ?r22x6
        case h22x6 =>
          intro w' hSw
          (try dsimp only at hSw)
          go_simp
          first | done | with_reducible rfl | rfl | (rw [if_neg (by omega)])
        (try simp only [Act.put, List.setIfInBounds_toArray, List.set_cons_zero, List.set_cons_succ])
        refine wpAnyH_take (i := 7) (oi := { dst := some 22, op := Op.binOp BinOp.add 9 (Operand.tmp 21) (Operand.const (Value.string { data := #[58] })) 9, type := 9, pos := "ostler.go:416", after := #[{ on := 6, ground := Ground.data }], guard := none }) (v := ?v23x7) rfl (by kernel_rfl) (by kernel_rfl) (by kernel_rfl) (fun _ _ _ h => h) (Or.inl ⟨by rfl, ?h23x7⟩) (by assumption) ?r23x7
        case h23x7 =>
          intro w' hSw
          (try dsimp only at hSw)
          go_simp
          first | done | with_reducible rfl | rfl | (rw [if_neg (by omega)])
        (try simp only [Act.put, List.setIfInBounds_toArray, List.set_cons_zero, List.set_cons_succ])
        refine wpAnyH_take (i := 8) (oi := { dst := some 23, op := Op.move (Operand.tmp 0), type := 54, pos := "ostler.go:416", after := #[], guard := none }) (v := ?v24x8) rfl (by kernel_rfl) (by kernel_rfl) (by kernel_rfl) (fun _ _ _ h => h) (Or.inl ⟨by rfl, ?h24x8⟩) (by assumption) ?r24x8
        case h24x8 =>
          intro w' hSw
          (try dsimp only at hSw)
          go_simp
          first | done | with_reducible rfl | rfl | (rw [if_neg (by omega)])
        (try simp only [Act.put, List.setIfInBounds_toArray, List.set_cons_zero, List.set_cons_succ])
        refine wpAnyH_take (i := 9) (oi := { dst := some 24, op := Op.move (Operand.tmp 4), type := 3, pos := "ostler.go:416", after := #[], guard := none }) (v := ?v25x9) rfl (by kernel_rfl) (by kernel_rfl) (by kernel_rfl) (fun _ _ _ h => h) (Or.inl ⟨by rfl, ?h25x9⟩) (by assumption) ?r25x9
        case h25x9 =>
          intro w' hSw
          (try dsimp only at hSw)
          go_simp
          first | done | with_reducible rfl | rfl | (rw [if_neg (by omega)])
        (try simp only [Act.put, List.setIfInBounds_toArray, List.set_cons_zero, List.set_cons_succ])
        refine wpAnyH_take (i := 10) (oi := { dst := some 25, op := Op.indexAddr 54 (Operand.tmp 23) (Operand.tmp 24), type := 0, pos := "ostler.go:416", after := #[{ on := 8, ground := Ground.data }, { on := 9, ground := Ground.data }], guard := none }) (v := ?v26x10) rfl (by kernel_rfl) (by kernel_rfl) (by kernel_rfl) (fun _ _ _ h => h) (Or.inl ⟨by rfl, ?h26x10⟩) (by assumption) ?r26x10
        case h26x10 =>
          intro w' hSw
          (try dsimp only at hSw)
          go_simp
          first | done | with_reducible rfl | rfl | (rw [if_neg (by omega)])
        (try simp only [Act.put, List.setIfInBounds_toArray, List.set_cons_zero, List.set_cons_succ])
        refine wpAnyH_take (i := 11) (oi := { dst := some 26, op := Op.fieldAddr 115 (Operand.tmp 25) 1, type := 0, pos := "ostler.go:416", after := #[{ on := 10, ground := Ground.data }], guard := none }) (v := ?v27x11) rfl (by kernel_rfl) (by kernel_rfl) (by kernel_rfl) (fun _ _ _ h => h) (Or.inl ⟨by rfl, ?h27x11⟩) (by assumption) ?r27x11
        case h27x11 =>
          intro w' hSw
          (try dsimp only at hSw)
          go_simp
          first | done | with_reducible rfl | rfl | (rw [if_neg (by omega)])
        (try simp only [Act.put, List.setIfInBounds_toArray, List.set_cons_zero, List.set_cons_succ])
        refine wpAnyH_take (i := 12) (oi := { dst := some 27, op := Op.load 3 (Operand.tmp 26), type := 3, pos := "ostler.go:416", after := #[{ on := 11, ground := Ground.data }], guard := none }) (v := ?v28x12) rfl (by kernel_rfl) (by kernel_rfl) (by kernel_rfl) (fun _ _ _ h => h) (Or.inl ⟨by rfl, ?h28x12⟩) (by assumption) ?r28x12
        case h28x12 =>
          intro w' hSw
          (try dsimp only at hSw)
          go_simp
          first | done | with_reducible rfl | rfl | (rw [if_neg (by omega)])
        (try simp only [Act.put, List.setIfInBounds_toArray, List.set_cons_zero, List.set_cons_succ])
        refine wpAnyH_ready (rs := [13]) (by kernel_rfl) (by simp) (AllReadyH.cons rfl (fun K hK => ?_) AllReadyH.nil)
        go_simp
        go_wp2_with fail
        refine (decX mn _ hm0 hm1).mono ?_
        rintro e W1 ⟨rfl, hb1⟩
        have HB1 := hideIt (HB.out.trans ((show Below wr.heap.size wr W1 from ⟨hb1.os, hb1.tape, hb1.output, hb1.size, hb1.block⟩).mono HB.out.size))
        have HS1 := hideIt (show W1.cell? ⟨b, o + k * 2, none⟩ = some (.string kd) ∧ W1.cell? ⟨b, o + k * 2 + 1, none⟩ = some (.int .i64 mn) from ⟨(hb1.cell (p := ⟨b, o + k * 2, none⟩) HL.out).trans HS0.out.1, (hb1.cell (p := ⟨b, o + k * 2 + 1, none⟩) HL.out).trans HS0.out.2⟩)
        clear hb1
        generalize Sv.dec mn = D at *
        go_wp2_with fail
        refine hK.out _ _ HS1.out (fun hHeld => ?_)
        clear hK K
        refine wpAnyH_take (i := 14) (oi := { dst := some 29, op := Op.binOp BinOp.add 9 (Operand.tmp 22) (Operand.tmp 28) 9, type := 9, pos := "ostler.go:416", after := #[{ on := 7, ground := Ground.data }, { on := 13, ground := Ground.data }], guard := none }) (v := ?v29x14) rfl (by kernel_rfl) (by kernel_rfl) (by kernel_rfl) (fun _ _ _ h => h) (Or.inl ⟨by rfl, ?h29x14⟩) (by assumption) ?r29x14
        case h29x14 =>
          intro w' hSw
          (try dsimp only at hSw)
          go_simp
          first | done | with_reducible rfl | rfl | (rw [if_neg (by omega)])
        (try simp only [Act.put, List.setIfInBounds_toArray, List.set_cons_zero, List.set_cons_succ])
        refine wpAnyH_take (i := 15) (oi := { dst := some 3, op := Op.assign (Operand.tmp 29), type := 9, pos := "ostler.go:416", after := #[{ on := 14, ground := Ground.data }, { on := 13, ground := Ground.chain }, { on := 0, ground := Ground.phase }, { on := 1, ground := Ground.phase }, { on := 2, ground := Ground.phase }, { on := 3, ground := Ground.phase }, { on := 4, ground := Ground.phase }, { on := 5, ground := Ground.phase }, { on := 6, ground := Ground.phase }, { on := 7, ground := Ground.phase }, { on := 8, ground := Ground.phase }, { on := 9, ground := Ground.phase }, { on := 10, ground := Ground.phase }, { on := 11, ground := Ground.phase }, { on := 12, ground := Ground.phase }, { on := 13, ground := Ground.phase }, { on := 14, ground := Ground.phase }], guard := none }) (v := ?v30x15) rfl (by kernel_rfl) (by kernel_rfl) (by kernel_rfl) (fun _ _ _ h => h) (Or.inl ⟨by rfl, ?h30x15⟩) (by assumption) ?r30x15
        case h30x15 =>
          intro w' hSw
          (try dsimp only at hSw)
          go_simp
          first | done | with_reducible rfl | rfl | (rw [if_neg (by omega)])
        (try simp only [Act.put, List.setIfInBounds_toArray, List.set_cons_zero, List.set_cons_succ])
        refine wpAnyH_done (by kernel_rfl) ?_ _
        clear hHeld
        go_wp2_with fail
        go_roundw
        case rel => exact ⟨k + 1, by omega, by go_num, by rw [HNk.out]; exact congrArg Value.string (by apply ByteArray.ext; simp), HB1.out⟩
        case measure => simp [intOf]; omega
    · have hke : k = ds.length := by omega
      have HE2 : Hid (needsTxt ds = orNo (U k)) := by unfold Hid; rw [hke]; exact HE.out
      clear HE HN HW H0 hke
      generalize U k = Y at *
      rcases two Y.isEmpty with hy | hy
      · have hy2 : (ByteArray.mk Y.toArray).toList.isEmpty = true := (emptyX Y).trans hy
        go_wp2_with fail
        go_ret
        exact ⟨by rw [HE2.out, orNo_isEmpty, hy]; rfl, HB.out⟩
      · have hy2 : (ByteArray.mk Y.toArray).toList.isEmpty = false := (emptyX Y).trans hy
        go_wp2_with fail
        go_ret
        exact ⟨by rw [HE2.out, orNo_isEmpty, hy]; rfl, HB.out⟩
end Go.Proofs.YtlljniaobbbjgaaGreatDoor

namespace Go.Proofs.YtlljniaobbbjgaaGreatDoor
open Go.RowKit
open Qos (Nd Ct Pd nd ct pd podF leS)
open Sv (Gv Hd gv hd devF devF1 gsF behindF oneF heldF lowAt)
open Dvs (nameMay first)
theorem below_drewF (w : World) (n : Nat) : Below w.heap.size w (w.drewN n) := ⟨rfl, rfl, rfl, Nat.le_refl _, fun _ _ => rfl⟩
theorem below_drewF2 (w : World) (m n : Nat) : Below w.heap.size w ((w.drewN m).drewN n) := ⟨rfl, rfl, rfl, Nat.le_refl _, fun _ _ => rfl⟩
theorem devF1_bad {xs : List Int} {k : Nat} (h : xs.getD k 0 < 0 ∨ 15 < xs.getD k 0 ∨ (0 < k ∧ xs.getD k 0 ≤ xs.getD (k - 1) 0)) : devF1 xs k = 3 := by unfold devF1; rw [if_pos h]
theorem devF1_good {xs : List Int} {k : Nat} (h : ¬ (xs.getD k 0 < 0 ∨ 15 < xs.getD k 0 ∨ (0 < k ∧ xs.getD k 0 ≤ xs.getD (k - 1) 0))) : devF1 xs k = 0 := by unfold devF1; rw [if_neg h]
def PodFaultIs : Prop := ∀ (p : Pd) (cv : Value) (w : World), ConsAt w cv p.cs → Calls Tryz.prog 26 #[podV p cv] w fun e w' => e = .returned (.int .i64 (podF p : Nat)) ∧ Below w.heap.size w w'
set_option maxRecDepth 100000 in
set_option maxHeartbeats 4000000 in
theorem heldFault_of (HPF : PodFaultIs) (v : Value) (hs : List Hd) (w : World) (h : HldsAt w v hs) : Calls Tryz.prog 8 #[v] w fun e w' => e = .returned (.int .i64 (heldF hs : Nat)) ∧ Below w.heap.size w w' := by
  obtain ⟨ao, c, rfl, hm, hr⟩ := h
  have HR := hideIt hr
  clear hr
  unfold maxLen at hm
  by_cases hn : 12 < hs.length
  · have he := heldF_many hn
    have hd1 : decide ((12 : Int) < (hs.length : Int)) = true := decide_eq_true (by omega)
    go_enter Tryz.func8, Tryz.ntmps8
    go_wp2_with fail
    go_ret
    exact ⟨by rw [he]; rfl, Below.refl _ _⟩
  · rw [heldF_few hn]
    have hl : hs.length ≤ 12 := by omega
    have hd1 : decide ((12 : Int) < (hs.length : Int)) = false := decide_eq_false (by omega)
    go_enter Tryz.func8, Tryz.ntmps8
    go_wp2_with fail
    go_loopw [3] (fun i wr => ∃ k : Nat, k ≤ hs.length ∧ i = .int .i64 k ∧ Below w.heap.size w wr ∧ Hid (first (oneF hs) k = 0)) (fun i _ => hs.length - (intOf i).toNat)
    case atStart => exact ⟨0, by omega, rfl, Below.refl _ _, rfl⟩
    case round =>
      obtain ⟨k, hk, rfl, hB, HF⟩ := hrel
      by_cases hlt : k < hs.length
      · obtain ⟨b, o, cv, gvv, rfl, hin⟩ := HR.out (by omega)
        have hin := hin.below hB
        obtain ⟨d0, d1, d2, d3⟩ := hin.at hlt
        obtain ⟨_, hC, hG⟩ := hin.2 k hlt
        have HBL := hideIt hin.1
        have HIN := hideIt hin
        have HO := hideIt (Dvs.first_hit (f := oneF hs) (n := hs.length) HF.out · hlt)
        have HZ := hideIt (Dvs.first_zero (f := oneF hs) (k := k) HF.out)
        have HBW := hideIt ((Below.refl wr.heap.size wr).alloc (Nat.le_refl _) (.cells #[.string (hd hs k).pod.nm, .int .i64 (hd hs k).pod.pr, cv k, gvv k] 67))
        have HBa := hideIt (hB.alloc hB.size (.cells #[.string (hd hs k).pod.nm, .int .i64 (hd hs k).pod.pr, cv k, gvv k] 67))
        have HPK := hideIt (HPF (hd hs k).pod (cv k) _ (hC.below HBW.out))
        unfold podV at HPK
        have HGA := hideIt (hG.below HBW.out)
        obtain ⟨ca, cc, hs1⟩ := hC.sl
        obtain ⟨ga, gc, hs2⟩ := hG.sl
        have HONE : Hid (oneF hs k = behindF (hd hs k) (lowAt hs k)) := rfl
        have HLOW : Hid (lowAt hs k = (decide (0 < k) && leS (hd hs k).pod.nm (hd hs (k - 1)).pod.nm)) := rfl
        clear hC hG HF hB hin
        generalize oneF hs k = F at *
        generalize lowAt hs k = LB at *
        generalize cv k = cvk at *
        generalize gvv k = gvk at *
        subst hs1 hs2
        go_wp2_with fail
        refine HPK.out.mono ?_
        rintro e W1 ⟨rfl, hb1⟩
        have HBY := hideIt hb1
        have HB1 := hideIt (HBa.out.trans (hb1.mono HBa.out.size))
        have c0 : W1.cell? ⟨wr.heap.size, 0, none⟩ = some (.string (hd hs k).pod.nm) := (hb1.cell (p := ⟨wr.heap.size, 0, none⟩) (by simp)).trans (by simp)
        have c2 : W1.cell? ⟨wr.heap.size, 2, none⟩ = some (.slice ca (hd hs k).pod.cs.length cc) := (hb1.cell (p := ⟨wr.heap.size, 2, none⟩) (by simp)).trans (by simp)
        have c3 : W1.cell? ⟨wr.heap.size, 3, none⟩ = some (.slice ga (hd hs k).gs.length gc) := (hb1.cell (p := ⟨wr.heap.size, 3, none⟩) (by simp)).trans (by simp)
        have HLW : Hid (wr.heap.size < W1.heap.size) := Nat.lt_of_lt_of_le (by simp) hb1.size
        have HPV : Hid (0 < k → W1.cell? ⟨b, o + (k - 1) * 4, none⟩ = some (.string (hd hs (k - 1)).pod.nm)) := fun h0 => ((HBW.out.trans (hb1.mono HBW.out.size)).cell (p := ⟨b, o + (k - 1) * 4, none⟩) HBL.out).trans (HIN.out.at (k := k - 1) (by omega)).1
        clear hb1 HPK HIN d0 d1 d2 d3
        by_cases hp : podF (hd hs k).pod = 0
        · rw [hp]
          by_cases h0 : 0 < k
          · have z0 := HPV.out h0
            have wA : IntKind.i64.wrap ((k : Int) - 1) = (k : Int) - 1 := by rw [IntKind.wrap_i64]; omega
            have wB : wrap64 ((k : Int) - 1) = (k : Int) - 1 := by unfold wrap64; omega
            have i0 : (0 : Int) ≤ (k : Int) - 1 := by omega
            have i1 : (k : Int) - 1 < hs.length := by omega
            have i2 : ((k : Int) - 1).toNat = k - 1 := by omega
            have i3 : (0 : Int) < k := by omega
            have m2 : decide (0 < k) = true := decide_eq_true h0
            have m4 : decide ((0 : Int) < k) = true := decide_eq_true (by omega)
            have m3 : (1 : Int) ≤ k := by omega
            have m1 : 1 ≤ k := h0
            have HLE : Hid (LB = leS (hd hs k).pod.nm (hd hs (k - 1)).pod.nm) := by unfold Hid; rw [HLOW.out, m2]; rfl
            clear HPV HLOW m2
            rcases two (leS (hd hs k).pod.nm (hd hs (k - 1)).pod.nm) with hle | hle
            · have HV := hideIt (HONE.out.trans (behind_2 hp (.inl (HLE.out.trans hle))))
              have hle' : (Op.bytesLess (hd hs k).pod.nm.toList (hd hs (k - 1)).pod.nm.toList || (hd hs k).pod.nm.toList == (hd hs (k - 1)).pod.nm.toList) = true := hle
              have HW3 := hideIt (HO.out (by rw [HV.out]; decide))
              clear hle hp HO HZ HONE
              generalize (hd hs (k - 1)).pod.nm = zn at *
              go_wp2_with fail
              go_quiet (fail)
              go_wp2_with fail
              go_ret
              exact ⟨by rw [HW3.out, HV.out]; rfl, HB1.out.trans ((below_drewF W1 _).mono HB1.out.size)⟩
            · have hle' : (Op.bytesLess (hd hs k).pod.nm.toList (hd hs (k - 1)).pod.nm.toList || (hd hs k).pod.nm.toList == (hd hs (k - 1)).pod.nm.toList) = false := hle
              have HLF := hideIt (HLE.out.trans hle)
              clear hle HLE
              generalize (hd hs (k - 1)).pod.nm = zn at *
              by_cases hlg : (hd hs k).gs.length = (hd hs k).pod.cs.length
              · have HE := hideIt (HONE.out.trans (behind_3 hp (by rw [HLF.out]; simp [hlg])))
                have hl2 : ((hd hs k).gs.length : Int) = ((hd hs k).pod.cs.length : Int) := by omega
                clear hp hlg HONE HLF
                go_wp2_with fail
                go_quiet (fail)
                clear hl2
                have HBq := hideIt (HB1.out.trans ((below_drewF W1 nq).mono HB1.out.size))
                have HBp := hideIt (below_drewF W1 nq)
                generalize W1.drewN nq = W2 at *
                replace c3 := (HBp.out.cell (p := ⟨wr.heap.size, 3, none⟩) HLW.out).trans c3
                have HGB := hideIt (HGA.out.below ((HBY.out).trans (HBp.out.mono HBY.out.size)))
                have HLW2 := hideIt (Nat.lt_of_lt_of_le HLW.out HBp.out.size)
                generalize wr.heap.size = bx at *
                clear HBp
                obtain ⟨_, _, hgv, gm, hgr⟩ := HGB.out
                cases hgv
                have HGR := hideIt hgr
                unfold maxLen at gm
                clear hgr HGB HGA
                go_wp2_with fail
                go_loopw [6] (fun i wq => ∃ j : Nat, j ≤ (hd hs k).gs.length ∧ i = .int .i64 j ∧ Below W2.heap.size W2 wq ∧ Hid (first (fun k2 => devF (gv (hd hs k).gs k2).dv) j = 0)) (fun i _ => (hd hs k).gs.length - (intOf i).toNat)
                case atStart => exact ⟨0, by omega, rfl, Below.refl _ _, rfl⟩
                case round =>
                  obtain ⟨j, hj, rfl, hBj, HFj⟩ := hrel
                  have HBj := hideIt hBj
                  replace c3 := (hBj.cell (p := ⟨bx, 3, none⟩) HLW2.out).trans c3
                  clear hBj
                  by_cases hjl : j < (hd hs k).gs.length
                  · obtain ⟨gb, go, dv, rfl, hgin⟩ := HGR.out (by omega)
                    have hgin := hgin.below HBj.out
                    obtain ⟨g0, g1⟩ := hgin.at hjl
                    have hI := (hgin.2 j hjl).2
                    have HO2 : Hid (devF (gv (hd hs k).gs j).dv ≠ 0 → first (fun k2 => devF (gv (hd hs k).gs k2).dv) (hd hs k).gs.length = devF (gv (hd hs k).gs j).dv) := hideIt fun h => Dvs.first_hit (f := fun k2 => devF (gv (hd hs k).gs k2).dv) (n := (hd hs k).gs.length) HFj.out h hjl
                    have HZ2 : Hid (devF (gv (hd hs k).gs j).dv = 0 → first (fun k2 => devF (gv (hd hs k).gs k2).dv) (j + 1) = 0) := hideIt fun h => Dvs.first_zero (f := fun k2 => devF (gv (hd hs k).gs k2).dv) (k := j) HFj.out h
                    obtain ⟨ia, ic, hsl, im, hir⟩ := hI
                    have HIR := hideIt hir
                    unfold maxLen at im
                    clear hgin hir HFj HGR
                    generalize (gv (hd hs k).gs j).dv = xs at *
                    generalize (gv (hd hs k).gs j).cp = cp at *
                    generalize dv j = dj at *
                    subst hsl
                    by_cases hx16 : 16 < xs.length
                    · have hd16 : decide ((16 : Int) < (xs.length : Int)) = true := decide_eq_true (by omega)
                      have HV := hideIt (HO.out (by rw [HE.out, HO2.out (by rw [devF_many hx16]; decide), devF_many hx16]; decide))
                      have HV2 := hideIt (HO2.out (by rw [devF_many hx16]; decide))
                      have HV3 := hideIt (devF_many hx16)
                      clear HO HO2 HZ HZ2
                      go_wp2_with fail
                      go_ret
                      exact ⟨by rw [HV.out, HE.out, HV2.out, HV3.out]; rfl, HBq.out.trans (HBj.out.mono HBq.out.size)⟩
                    · have hd16 : decide ((16 : Int) < (xs.length : Int)) = false := decide_eq_false (by omega)
                      have HFEW := hideIt (devF_few hx16)
                      have hxl : xs.length ≤ 16 := by omega
                      go_wp2_with fail
                      generalize hwq : wr = W3 at *
                      clear hwq
                      go_loopw [8] (fun i wz => ∃ n m : Nat, n ≤ xs.length ∧ i = .int .i64 n ∧ wz = W3.drewN m ∧ Hid (first (devF1 xs) n = 0)) (fun i _ => xs.length - (intOf i).toNat)
                      case atStart => exact ⟨0, 0, by omega, rfl, rfl, rfl⟩
                      case round =>
                        obtain ⟨n, m, hnn, rfl, rfl, HFn⟩ := hrel
                        by_cases hnl : n < xs.length
                        · obtain ⟨ib, io, rfl, hib, hic⟩ := HIR.out (by omega)
                          have x0 := hic n hnl
                          have HBAD : Hid ((xs.getD n 0 < 0 ∨ 15 < xs.getD n 0 ∨ (0 < n ∧ xs.getD n 0 ≤ xs.getD (n - 1) 0)) → F = 3) := fun h => by
                            have h1 := Dvs.first_hit (f := devF1 xs) (n := xs.length) HFn.out (by rw [devF1_bad h]; decide) hnl
                            have h2 : devF xs = 3 := by rw [HFEW.out, h1, devF1_bad h]
                            rw [HE.out, HO2.out (by rw [h2]; decide), h2]
                          have HGD : Hid (¬ (xs.getD n 0 < 0 ∨ 15 < xs.getD n 0 ∨ (0 < n ∧ xs.getD n 0 ≤ xs.getD (n - 1) 0)) → first (devF1 xs) (n + 1) = 0) := fun h => Dvs.first_zero (f := devF1 xs) (k := n) HFn.out (devF1_good h)
                          have hxp : 0 < n → W3.cell? ⟨ib, io + (n - 1), none⟩ = some (.int .i64 (xs.getD (n - 1) 0)) := fun h => hic (n - 1) (by omega)
                          have HXP := hideIt hxp
                          clear hic hxp HFn
                          generalize xs.getD (n - 1) 0 = y at *
                          generalize xs.getD n 0 = x at *
                          have HRT := hideIt (HO.out)
                          by_cases a1 : x < 0
                          · have q1 : decide (x < 0) = true := decide_eq_true a1
                            have HV := hideIt (HBAD.out (.inl a1))
                            clear HBAD HGD HXP
                            go_wp2_with fail
                            go_quiet (fail)
                            go_wp2_with fail
                            go_ret
                            exact ⟨by rw [HRT.out (by rw [HV.out]; decide), HV.out]; rfl, (HBq.out.trans (HBj.out.mono HBq.out.size)).trans ((below_drewF2 W3 _ _).mono (Nat.le_trans HBq.out.size HBj.out.size))⟩
                          · have q1 : decide (x < 0) = false := decide_eq_false a1
                            by_cases a2 : 15 < x
                            · have q2 : decide (15 < x) = true := decide_eq_true a2
                              have HV := hideIt (HBAD.out (.inr (.inl a2)))
                              clear HBAD HGD HXP
                              go_wp2_with fail
                              go_quiet (fail)
                              go_wp2_with fail
                              go_ret
                              exact ⟨by rw [HRT.out (by rw [HV.out]; decide), HV.out]; rfl, (HBq.out.trans (HBj.out.mono HBq.out.size)).trans ((below_drewF2 W3 _ _).mono (Nat.le_trans HBq.out.size HBj.out.size))⟩
                            · have q2 : decide (15 < x) = false := decide_eq_false a2
                              by_cases h0 : 0 < n
                              · have x1 := HXP.out h0
                                have wA : IntKind.i64.wrap ((n : Int) - 1) = (n : Int) - 1 := by rw [IntKind.wrap_i64]; omega
                                have wB : wrap64 ((n : Int) - 1) = (n : Int) - 1 := by unfold wrap64; omega
                                have i0 : (0 : Int) ≤ (n : Int) - 1 := by omega
                                have i1 : (n : Int) - 1 < xs.length := by omega
                                have i2 : ((n : Int) - 1).toNat = n - 1 := by omega
                                have i3 : (0 : Int) < n := by omega
                                have m2 : decide (0 < n) = true := decide_eq_true h0
                                have m4 : decide ((0 : Int) < n) = true := decide_eq_true (by omega)
                                have m3 : (1 : Int) ≤ n := by omega
                                have m1 : 1 ≤ n := h0
                                by_cases a3 : x ≤ y
                                · have q3 : decide (x ≤ y) = true := decide_eq_true a3
                                  have HV := hideIt (HBAD.out (.inr (.inr ⟨h0, a3⟩)))
                                  clear HBAD HGD HXP
                                  go_wp2_with fail
                                  go_quiet (fail)
                                  go_wp2_with fail
                                  go_ret
                                  exact ⟨by rw [HRT.out (by rw [HV.out]; decide), HV.out]; rfl, (HBq.out.trans (HBj.out.mono HBq.out.size)).trans ((below_drewF2 W3 _ _).mono (Nat.le_trans HBq.out.size HBj.out.size))⟩
                                · have q3 : decide (x ≤ y) = false := decide_eq_false a3
                                  have HV := hideIt (HGD.out (by omega))
                                  clear HBAD HGD HXP
                                  go_wp2_with fail
                                  go_quiet (fail)
                                  go_wp2_with fail
                                  go_roundw
                                  case rel => exact ⟨n + 1, _, by omega, by go_num, rfl, HV⟩
                                  case measure => simp [intOf]; omega
                              · have hn0 : n = 0 := by omega
                                subst hn0
                                rw [Nat.add_zero] at x0
                                have HV := hideIt (HGD.out (by omega))
                                clear HBAD HGD HXP
                                go_wp2_with fail
                                go_quiet (fail)
                                go_wp2_with fail
                                go_roundw
                                case rel => exact ⟨0 + 1, _, by omega, by go_num, rfl, HV⟩
                                case measure => simp [intOf]; omega
                        · have hne : n = xs.length := by omega
                          subst hne
                          have HV := hideIt (HZ2.out (by rw [HFEW.out]; exact HFn.out))
                          clear HO2 HZ2 HIR
                          go_wp2_with fail
                          go_roundw
                          case rel => exact ⟨j + 1, by omega, by go_num, HBj.out.trans ((below_drewF W3 m).mono HBj.out.size), HV⟩
                          case measure => simp [intOf]; omega
                  · have hje : j = (hd hs k).gs.length := by omega
                    have HV := hideIt (HZ.out (by rw [HE.out, ← hje]; exact HFj.out))
                    clear HO HZ HFj
                    generalize (hd hs k).gs = gs at *
                    subst hje
                    go_wp2_with fail
                    go_roundw
                    case rel => exact ⟨k + 1, by omega, by go_num, HBq.out.trans (HBj.out.mono HBq.out.size), HV⟩
                    case measure => simp [intOf]; omega
              · have HV := hideIt (HONE.out.trans (behind_2 hp (.inr hlg)))
                have hl2 : (((hd hs k).gs.length : Int) == ((hd hs k).pod.cs.length : Int)) = false := by simp; omega
                have HW3 := hideIt (HO.out (by rw [HV.out]; decide))
                clear hp HO HZ HONE
                go_wp2_with fail
                go_quiet (fail)
                go_wp2_with fail
                go_ret
                exact ⟨by rw [HW3.out, HV.out]; rfl, HB1.out.trans ((below_drewF W1 _).mono HB1.out.size)⟩
          · have hk0 : k = 0 := by omega
            subst hk0
            have HLF : Hid (LB = false) := HLOW.out
            clear HPV HLOW h0
            by_cases hlg : (hd hs 0).gs.length = (hd hs 0).pod.cs.length
            · have HE := hideIt (HONE.out.trans (behind_3 hp (by rw [HLF.out]; simp [hlg])))
              have hl2 : ((hd hs 0).gs.length : Int) = ((hd hs 0).pod.cs.length : Int) := by omega
              clear hp hlg HONE HLF
              go_wp2_with fail
              go_quiet (fail)
              clear hl2
              have HBq := hideIt (HB1.out.trans ((below_drewF W1 nq).mono HB1.out.size))
              have HBp := hideIt (below_drewF W1 nq)
              generalize W1.drewN nq = W2 at *
              replace c3 := (HBp.out.cell (p := ⟨wr.heap.size, 3, none⟩) HLW.out).trans c3
              have HGB := hideIt (HGA.out.below ((HBY.out).trans (HBp.out.mono HBY.out.size)))
              have HLW2 := hideIt (Nat.lt_of_lt_of_le HLW.out HBp.out.size)
              generalize wr.heap.size = bx at *
              clear HBp
              obtain ⟨_, _, hgv, gm, hgr⟩ := HGB.out
              cases hgv
              have HGR := hideIt hgr
              unfold maxLen at gm
              clear hgr HGB HGA
              go_wp2_with fail
              go_loopw [6] (fun i wq => ∃ j : Nat, j ≤ (hd hs 0).gs.length ∧ i = .int .i64 j ∧ Below W2.heap.size W2 wq ∧ Hid (first (fun k2 => devF (gv (hd hs 0).gs k2).dv) j = 0)) (fun i _ => (hd hs 0).gs.length - (intOf i).toNat)
              case atStart => exact ⟨0, by omega, rfl, Below.refl _ _, rfl⟩
              case round =>
                obtain ⟨j, hj, rfl, hBj, HFj⟩ := hrel
                have HBj := hideIt hBj
                replace c3 := (hBj.cell (p := ⟨bx, 3, none⟩) HLW2.out).trans c3
                clear hBj
                by_cases hjl : j < (hd hs 0).gs.length
                · obtain ⟨gb, go, dv, rfl, hgin⟩ := HGR.out (by omega)
                  have hgin := hgin.below HBj.out
                  obtain ⟨g0, g1⟩ := hgin.at hjl
                  have hI := (hgin.2 j hjl).2
                  have HO2 : Hid (devF (gv (hd hs 0).gs j).dv ≠ 0 → first (fun k2 => devF (gv (hd hs 0).gs k2).dv) (hd hs 0).gs.length = devF (gv (hd hs 0).gs j).dv) := hideIt fun h => Dvs.first_hit (f := fun k2 => devF (gv (hd hs 0).gs k2).dv) (n := (hd hs 0).gs.length) HFj.out h hjl
                  have HZ2 : Hid (devF (gv (hd hs 0).gs j).dv = 0 → first (fun k2 => devF (gv (hd hs 0).gs k2).dv) (j + 1) = 0) := hideIt fun h => Dvs.first_zero (f := fun k2 => devF (gv (hd hs 0).gs k2).dv) (k := j) HFj.out h
                  obtain ⟨ia, ic, hsl, im, hir⟩ := hI
                  have HIR := hideIt hir
                  unfold maxLen at im
                  clear hgin hir HFj HGR
                  generalize (gv (hd hs 0).gs j).dv = xs at *
                  generalize (gv (hd hs 0).gs j).cp = cp at *
                  generalize dv j = dj at *
                  subst hsl
                  by_cases hx16 : 16 < xs.length
                  · have hd16 : decide ((16 : Int) < (xs.length : Int)) = true := decide_eq_true (by omega)
                    have HV := hideIt (HO.out (by rw [HE.out, HO2.out (by rw [devF_many hx16]; decide), devF_many hx16]; decide))
                    have HV2 := hideIt (HO2.out (by rw [devF_many hx16]; decide))
                    have HV3 := hideIt (devF_many hx16)
                    clear HO HO2 HZ HZ2
                    go_wp2_with fail
                    go_ret
                    exact ⟨by rw [HV.out, HE.out, HV2.out, HV3.out]; rfl, HBq.out.trans (HBj.out.mono HBq.out.size)⟩
                  · have hd16 : decide ((16 : Int) < (xs.length : Int)) = false := decide_eq_false (by omega)
                    have HFEW := hideIt (devF_few hx16)
                    have hxl : xs.length ≤ 16 := by omega
                    go_wp2_with fail
                    generalize hwq : wr = W3 at *
                    clear hwq
                    go_loopw [8] (fun i wz => ∃ n m : Nat, n ≤ xs.length ∧ i = .int .i64 n ∧ wz = W3.drewN m ∧ Hid (first (devF1 xs) n = 0)) (fun i _ => xs.length - (intOf i).toNat)
                    case atStart => exact ⟨0, 0, by omega, rfl, rfl, rfl⟩
                    case round =>
                      obtain ⟨n, m, hnn, rfl, rfl, HFn⟩ := hrel
                      by_cases hnl : n < xs.length
                      · obtain ⟨ib, io, rfl, hib, hic⟩ := HIR.out (by omega)
                        have x0 := hic n hnl
                        have HBAD : Hid ((xs.getD n 0 < 0 ∨ 15 < xs.getD n 0 ∨ (0 < n ∧ xs.getD n 0 ≤ xs.getD (n - 1) 0)) → F = 3) := fun h => by
                          have h1 := Dvs.first_hit (f := devF1 xs) (n := xs.length) HFn.out (by rw [devF1_bad h]; decide) hnl
                          have h2 : devF xs = 3 := by rw [HFEW.out, h1, devF1_bad h]
                          rw [HE.out, HO2.out (by rw [h2]; decide), h2]
                        have HGD : Hid (¬ (xs.getD n 0 < 0 ∨ 15 < xs.getD n 0 ∨ (0 < n ∧ xs.getD n 0 ≤ xs.getD (n - 1) 0)) → first (devF1 xs) (n + 1) = 0) := fun h => Dvs.first_zero (f := devF1 xs) (k := n) HFn.out (devF1_good h)
                        have hxp : 0 < n → W3.cell? ⟨ib, io + (n - 1), none⟩ = some (.int .i64 (xs.getD (n - 1) 0)) := fun h => hic (n - 1) (by omega)
                        have HXP := hideIt hxp
                        clear hic hxp HFn
                        generalize xs.getD (n - 1) 0 = y at *
                        generalize xs.getD n 0 = x at *
                        have HRT := hideIt (HO.out)
                        by_cases a1 : x < 0
                        · have q1 : decide (x < 0) = true := decide_eq_true a1
                          have HV := hideIt (HBAD.out (.inl a1))
                          clear HBAD HGD HXP
                          go_wp2_with fail
                          go_quiet (fail)
                          go_wp2_with fail
                          go_ret
                          exact ⟨by rw [HRT.out (by rw [HV.out]; decide), HV.out]; rfl, (HBq.out.trans (HBj.out.mono HBq.out.size)).trans ((below_drewF2 W3 _ _).mono (Nat.le_trans HBq.out.size HBj.out.size))⟩
                        · have q1 : decide (x < 0) = false := decide_eq_false a1
                          by_cases a2 : 15 < x
                          · have q2 : decide (15 < x) = true := decide_eq_true a2
                            have HV := hideIt (HBAD.out (.inr (.inl a2)))
                            clear HBAD HGD HXP
                            go_wp2_with fail
                            go_quiet (fail)
                            go_wp2_with fail
                            go_ret
                            exact ⟨by rw [HRT.out (by rw [HV.out]; decide), HV.out]; rfl, (HBq.out.trans (HBj.out.mono HBq.out.size)).trans ((below_drewF2 W3 _ _).mono (Nat.le_trans HBq.out.size HBj.out.size))⟩
                          · have q2 : decide (15 < x) = false := decide_eq_false a2
                            by_cases h0 : 0 < n
                            · have x1 := HXP.out h0
                              have wA : IntKind.i64.wrap ((n : Int) - 1) = (n : Int) - 1 := by rw [IntKind.wrap_i64]; omega
                              have wB : wrap64 ((n : Int) - 1) = (n : Int) - 1 := by unfold wrap64; omega
                              have i0 : (0 : Int) ≤ (n : Int) - 1 := by omega
                              have i1 : (n : Int) - 1 < xs.length := by omega
                              have i2 : ((n : Int) - 1).toNat = n - 1 := by omega
                              have i3 : (0 : Int) < n := by omega
                              have m2 : decide (0 < n) = true := decide_eq_true h0
                              have m4 : decide ((0 : Int) < n) = true := decide_eq_true (by omega)
                              have m3 : (1 : Int) ≤ n := by omega
                              have m1 : 1 ≤ n := h0
                              by_cases a3 : x ≤ y
                              · have q3 : decide (x ≤ y) = true := decide_eq_true a3
                                have HV := hideIt (HBAD.out (.inr (.inr ⟨h0, a3⟩)))
                                clear HBAD HGD HXP
                                go_wp2_with fail
                                go_quiet (fail)
                                go_wp2_with fail
                                go_ret
                                exact ⟨by rw [HRT.out (by rw [HV.out]; decide), HV.out]; rfl, (HBq.out.trans (HBj.out.mono HBq.out.size)).trans ((below_drewF2 W3 _ _).mono (Nat.le_trans HBq.out.size HBj.out.size))⟩
                              · have q3 : decide (x ≤ y) = false := decide_eq_false a3
                                have HV := hideIt (HGD.out (by omega))
                                clear HBAD HGD HXP
                                go_wp2_with fail
                                go_quiet (fail)
                                go_wp2_with fail
                                go_roundw
                                case rel => exact ⟨n + 1, _, by omega, by go_num, rfl, HV⟩
                                case measure => simp [intOf]; omega
                            · have hn0 : n = 0 := by omega
                              subst hn0
                              rw [Nat.add_zero] at x0
                              have HV := hideIt (HGD.out (by omega))
                              clear HBAD HGD HXP
                              go_wp2_with fail
                              go_quiet (fail)
                              go_wp2_with fail
                              go_roundw
                              case rel => exact ⟨0 + 1, _, by omega, by go_num, rfl, HV⟩
                              case measure => simp [intOf]; omega
                      · have hne : n = xs.length := by omega
                        subst hne
                        have HV := hideIt (HZ2.out (by rw [HFEW.out]; exact HFn.out))
                        clear HO2 HZ2 HIR
                        go_wp2_with fail
                        go_roundw
                        case rel => exact ⟨j + 1, by omega, by go_num, HBj.out.trans ((below_drewF W3 m).mono HBj.out.size), HV⟩
                        case measure => simp [intOf]; omega
                · have hje : j = (hd hs 0).gs.length := by omega
                  have HV := hideIt (HZ.out (by rw [HE.out, ← hje]; exact HFj.out))
                  clear HO HZ HFj
                  generalize (hd hs 0).gs = gs at *
                  subst hje
                  go_wp2_with fail
                  go_roundw
                  case rel => exact ⟨0 + 1, by omega, by go_num, HBq.out.trans (HBj.out.mono HBq.out.size), HV⟩
                  case measure => simp [intOf]; omega
            · have HV := hideIt (HONE.out.trans (behind_2 hp (.inr hlg)))
              have hl2 : (((hd hs 0).gs.length : Int) == ((hd hs 0).pod.cs.length : Int)) = false := by simp; omega
              have HW3 := hideIt (HO.out (by rw [HV.out]; decide))
              clear hp HO HZ HONE
              go_wp2_with fail
              go_quiet (fail)
              go_wp2_with fail
              go_ret
              exact ⟨by rw [HW3.out, HV.out]; rfl, HB1.out.trans ((below_drewF W1 _).mono HB1.out.size)⟩
        · have HV := hideIt (HONE.out.trans (behind_1 (b := LB) hp))
          have hpd : decide ((0 : Int) < ((podF (hd hs k).pod : Nat) : Int)) = true := decide_eq_true (by omega)
          have HW3 := hideIt (HO.out (by rw [HV.out]; exact hp))
          have hp0 : 0 < podF (hd hs k).pod := by omega
          have hp1 : ¬ (podF (hd hs k).pod = 0) := hp
          clear hp HO HZ HONE
          generalize podF (hd hs k).pod = PF at *
          go_wp2_with fail
          go_ret
          exact ⟨by rw [HW3.out, HV.out]; rfl, HB1.out⟩
      · have hke : k = hs.length := by omega
        subst hke
        have HBa := hideIt hB
        clear hB
        go_wp2_with fail
        go_ret
        exact ⟨by rw [HF.out]; rfl, HBa.out⟩
end Go.Proofs.YtlljniaobbbjgaaGreatDoor

namespace Go.Proofs.YtlljniaobbbjgaaGreatDoor
open Go.RowKit
open Qos (Nd Ct Pd nd ct pd)
open Sv (Gv Hd gv hd)
theorem flat_at {α : Type} (f : α → List Value) (n : Nat) (hf : ∀ x, (f x).length = n) : ∀ (l : List α) (k j : Nat) (hk : k < l.length), j < n → (l.flatMap f)[k * n + j]? = (f l[k])[j]? := by
  intro l
  induction l with
  | nil => intro k j hk; simp at hk
  | cons x r ih =>
    intro k j hk hj
    cases k with
    | zero =>
      rw [List.flatMap_cons, Nat.zero_mul, Nat.zero_add, List.getElem?_append_left (by rw [hf]; exact hj)]
      rfl
    | succ k =>
      rw [List.flatMap_cons, List.getElem?_append_right (by rw [hf, Nat.add_mul]; omega), hf, show (k + 1) * n + j - n = k * n + j by rw [Nat.add_mul]; omega, ih k j (by simpa using hk) hj]
      rfl
theorem row_form {W : World} {base : Nat} {e : TypeId} {size : Nat} {v : Value} {n : Nat} {xs : List Value} (h : W.ownsRow base e size v n xs) (h0 : 0 < n) : ∃ g cap, v = .slice (some ⟨g, 0, none⟩) n cap ∧ n ≤ cap ∧ cap ≤ maxLen ∧ g < W.heap.size ∧ base ≤ g ∧ ∀ i, i < n * size → W.cell? ⟨g, i, none⟩ = xs[i]? := by
  obtain ⟨hl, h⟩ := h
  rcases h with ⟨_, h1⟩ | ⟨g, cap, cur, rfl, hb, hh, hn, hc, hs, ht⟩
  · omega
  · refine ⟨g, cap, rfl, hn, hc, (Array.getElem?_eq_some_iff.1 hh).1, hb, fun i hi => ?_⟩
    rw [← ht, List.getElem?_take, if_pos hi]
    simp only [World.cell?, hh]
    simp
theorem row_cap {W : World} {base : Nat} {e : TypeId} {size : Nat} {v : Value} {n : Nat} {xs : List Value} (h : W.ownsRow base e size v n xs) : ∃ ao c, v = .slice ao n c ∧ n ≤ c ∧ c ≤ maxLen := by
  rcases h.2 with ⟨rfl, rfl⟩ | ⟨g, cap, cur, rfl, hb, hh, hn, hc, _⟩
  · exact ⟨none, 0, rfl, Nat.le_refl _, by unfold maxLen; omega⟩
  · exact ⟨_, cap, rfl, hn, hc⟩
/-- Lists that are read, in blocks that Q names. -/
def NeedsQ (W : World) (Q : Nat → Prop) (v : Value) (ds : List Nd) : Prop :=
  ∃ ao c, v = .slice ao ds.length c ∧ ds.length ≤ maxLen ∧ (0 < ds.length → ∃ b o, ao = some ⟨b, o, none⟩ ∧ Q b ∧ b < W.heap.size ∧ ∀ k, k < ds.length → W.cell? ⟨b, o + k * 2, none⟩ = some (.string (nd ds k).kind) ∧ W.cell? ⟨b, o + k * 2 + 1, none⟩ = some (.int .i64 (nd ds k).many))
def IntsQ (W : World) (Q : Nat → Prop) (v : Value) (xs : List Int) : Prop :=
  ∃ ao c, v = .slice ao xs.length c ∧ (xs.length ≤ c ∧ c ≤ maxLen) ∧ (0 < xs.length → ∃ b o, ao = some ⟨b, o, none⟩ ∧ Q b ∧ b < W.heap.size ∧ ∀ k, k < xs.length → W.cell? ⟨b, o + k, none⟩ = some (.int .i64 (xs.getD k 0)))
theorem NeedsQ.plain {W : World} {Q : Nat → Prop} {v : Value} {ds : List Nd} (h : NeedsQ W Q v ds) : NeedsAt W v ds := by
  obtain ⟨ao, c, hv, hc, hr⟩ := h
  refine ⟨ao, c, hv, hc, fun h0 => ?_⟩
  obtain ⟨b, o, ha, _, hlt, hcs⟩ := hr h0
  exact ⟨b, o, ha, hlt, hcs⟩
theorem IntsQ.plain {W : World} {Q : Nat → Prop} {v : Value} {xs : List Int} (h : IntsQ W Q v xs) : IntsOf W v xs := by
  obtain ⟨ao, c, hv, hc, hr⟩ := h
  refine ⟨ao, c, hv, hc, fun h0 => ?_⟩
  obtain ⟨b, o, ha, _, hlt, hcs⟩ := hr h0
  exact ⟨b, o, ha, hlt, hcs⟩
theorem NeedsQ.of {W : World} {Q : Nat → Prop} {N : Nat} {v : Value} {ds : List Nd} (h : NeedsAt W v ds) (hv : ∃ a n c, v = .slice a n c ∧ ∀ x : Addr, a = some x → N ≤ x.block) (hQ : ∀ b, N ≤ b → b < W.heap.size → Q b) : NeedsQ W Q v ds := by
  obtain ⟨ao, c, rfl, hc, hr⟩ := h
  obtain ⟨_, _, _, e, hx⟩ := hv
  cases e
  refine ⟨ao, c, rfl, hc, fun h0 => ?_⟩
  obtain ⟨b, o, ha, hlt, hcs⟩ := hr h0
  exact ⟨b, o, ha, hQ b (hx _ ha) hlt, hlt, hcs⟩
theorem IntsQ.of {W : World} {Q : Nat → Prop} {N : Nat} {v : Value} {xs : List Int} (h : IntsOf W v xs) (hv : ∃ a n c, v = .slice a n c ∧ ∀ x : Addr, a = some x → N ≤ x.block) (hQ : ∀ b, N ≤ b → b < W.heap.size → Q b) : IntsQ W Q v xs := by
  obtain ⟨ao, c, rfl, hc, hr⟩ := h
  obtain ⟨_, _, _, e, hx⟩ := hv
  cases e
  refine ⟨ao, c, rfl, hc, fun h0 => ?_⟩
  obtain ⟨b, o, ha, hlt, hcs⟩ := hr h0
  exact ⟨b, o, ha, hQ b (hx _ ha) hlt, hlt, hcs⟩
theorem NeedsQ.apart {K Q Q' : Nat → Prop} {A B : World} {v : Value} {ds : List Nd} (h : NeedsQ A Q v ds) (hab : Apart K A B) (hK : ∀ j, Q j → ¬ K j) (hQ : ∀ j, j < A.heap.size → Q j → Q' j) : NeedsQ B Q' v ds := by
  obtain ⟨ao, c, hv, hc, hr⟩ := h
  refine ⟨ao, c, hv, hc, fun h0 => ?_⟩
  obtain ⟨b, o, ha, hb, hlt, hcs⟩ := hr h0
  have hblk := hab.block b hlt (hK b hb)
  exact ⟨b, o, ha, hQ b hlt hb, Nat.lt_of_lt_of_le hlt hab.size, fun k hk => ⟨(World.cell?_of_block (a := ⟨b, o + k * 2, none⟩) hblk).trans (hcs k hk).1, (World.cell?_of_block (a := ⟨b, o + k * 2 + 1, none⟩) hblk).trans (hcs k hk).2⟩⟩
theorem IntsQ.apart {K Q Q' : Nat → Prop} {A B : World} {v : Value} {xs : List Int} (h : IntsQ A Q v xs) (hab : Apart K A B) (hK : ∀ j, Q j → ¬ K j) (hQ : ∀ j, j < A.heap.size → Q j → Q' j) : IntsQ B Q' v xs := by
  obtain ⟨ao, c, hv, hc, hr⟩ := h
  refine ⟨ao, c, hv, hc, fun h0 => ?_⟩
  obtain ⟨b, o, ha, hb, hlt, hcs⟩ := hr h0
  have hblk := hab.block b hlt (hK b hb)
  exact ⟨b, o, ha, hQ b hlt hb, Nat.lt_of_lt_of_le hlt hab.size, fun k hk => (World.cell?_of_block (a := ⟨b, o + k, none⟩) hblk).trans (hcs k hk)⟩
/-- Rows of containers, of what they were given, of what is held: by their elements and the slices in them. -/
def cCells (p : Ct × Value) : List Value := contCells p.1 p.2
def gCells (p : Gv × Value) : List Value := [.int .u64 p.1.cp, p.2]
def rowC (l : List (Ct × Value)) : List Value := l.flatMap cCells
def rowG (l : List (Gv × Value)) : List Value := l.flatMap gCells
/-- One that is held, as it is read: its containers and what they were given, with the slices. -/
structure Hp where
  nm : ByteArray
  pr : Int
  cl : List (Ct × Value)
  gl : List (Gv × Value)
  cv : Value
  gv : Value
def Hp.hd (p : Hp) : Hd := ⟨⟨p.nm, p.pr, p.cl.map Prod.fst⟩, p.gl.map Prod.fst⟩
def hCells (p : Hp) : List Value := [.string p.nm, .int .i64 p.pr, p.cv, p.gv]
def rowH (l : List Hp) : List Value := l.flatMap hCells
theorem rowC_snoc (l : List (Ct × Value)) (p : Ct × Value) : rowC (l ++ [p]) = rowC l ++ cCells p := by simp [rowC]
theorem rowG_snoc (l : List (Gv × Value)) (p : Gv × Value) : rowG (l ++ [p]) = rowG l ++ gCells p := by simp [rowG]
theorem rowH_snoc (l : List Hp) (p : Hp) : rowH (l ++ [p]) = rowH l ++ hCells p := by simp [rowH]
/-- A block that is no row's that is written still. -/
def Free (base : Nat) (v : Value) (la : Hp) (j : Nat) : Prop := base ≤ j ∧ v.ownBlock ≠ some j ∧ la.cv.ownBlock ≠ some j ∧ la.gv.ownBlock ≠ some j
theorem row_kept {K : Nat → Prop} {A B : World} {base : Nat} {e : TypeId} {size : Nat} {v : Value} {n : Nat} {xs : List Value} (hr : A.ownsRow base e size v n xs) (h : Apart K A B) (hK : ∀ j, v.ownBlock = some j → ¬ K j) : B.ownsRow base e size v n xs := by
  obtain ⟨h1, h2⟩ := hr
  refine ⟨h1, h2.imp id ?_⟩
  rintro ⟨g, cap, cur, rfl, hg, hh, r⟩
  exact ⟨g, cap, cur, rfl, hg, (h.block g (Array.getElem?_eq_some_iff.1 hh).1 (hK g rfl)).trans hh, r⟩
/-- The rows of one, in blocks that Q names. -/
structure OneQ (W : World) (base : Nat) (Q : Nat → Prop) (p : Hp) : Prop where
  rc : W.ownsRow base 56 6 p.cv p.cl.length (rowC p.cl)
  rg : W.ownsRow base 64 2 p.gv p.gl.length (rowG p.gl)
  nc : ∀ x ∈ p.cl, NeedsQ W Q x.2 x.1.ds
  ng : ∀ x ∈ p.gl, IntsQ W Q x.2 x.1.dv ∧ x.1.cp < 18446744073709551616
theorem OneQ.apart {W W' : World} {base : Nat} {Q Q' K : Nat → Prop} {p : Hp} (h : OneQ W base Q p) (hab : Apart K W W') (hK : ∀ j, Q j → ¬ K j) (hQ : ∀ j, j < W.heap.size → Q j → Q' j)
    (hc : ∀ j, p.cv.ownBlock = some j → ¬ K j) (hg : ∀ j, p.gv.ownBlock = some j → ¬ K j) : OneQ W' base Q' p :=
  ⟨row_kept h.rc hab hc, row_kept h.rg hab hg, fun x hx => (h.nc x hx).apart hab hK hQ, fun x hx => ⟨(h.ng x hx).1.apart hab hK hQ, (h.ng x hx).2⟩⟩
theorem cons_at {W : World} {base : Nat} {Q : Nat → Prop} {p : Hp} (h : OneQ W base Q p) : ConsAt W p.cv (p.cl.map Prod.fst) := by
  obtain ⟨ao, c, hv, h1, h2⟩ := row_cap h.rc
  refine ⟨ao, c, by rw [List.length_map]; exact hv, ⟨by rw [List.length_map]; exact h1, h2⟩, fun h0 => ?_⟩
  rw [List.length_map] at h0
  obtain ⟨g, cap, hv2, _, _, hlt, _, hcell⟩ := row_form h.rc h0
  rw [hv] at hv2
  cases hv2
  refine ⟨g, 0, fun k => (p.cl.getD k default).2, rfl, hlt, fun k hk => ?_⟩
  rw [List.length_map] at hk
  have e1 : ct (p.cl.map Prod.fst) k = p.cl[k].1 := by simp [ct, hk]
  have e2 : (p.cl.getD k default).2 = p.cl[k].2 := by simp [hk]
  rw [e1]
  dsimp only
  rw [e2]
  refine ⟨fun j hj => ?_, (h.nc _ (List.getElem_mem hk)).plain⟩
  rw [Nat.zero_add, hcell _ (by omega)]
  exact flat_at cCells 6 (fun x => rfl) p.cl k j hk hj
theorem givs_at {W : World} {base : Nat} {Q : Nat → Prop} {p : Hp} (h : OneQ W base Q p) : GivsAt W p.gv (p.gl.map Prod.fst) := by
  obtain ⟨ao, c, hv, h1, h2⟩ := row_cap h.rg
  refine ⟨ao, c, by rw [List.length_map]; exact hv, ⟨by rw [List.length_map]; exact h1, h2⟩, fun h0 => ?_⟩
  rw [List.length_map] at h0
  obtain ⟨g, cap, hv2, _, _, hlt, _, hcell⟩ := row_form h.rg h0
  rw [hv] at hv2
  cases hv2
  refine ⟨g, 0, fun k => (p.gl.getD k default).2, rfl, hlt, fun k hk => ?_⟩
  rw [List.length_map] at hk
  have e1 : gv (p.gl.map Prod.fst) k = p.gl[k].1 := by simp [gv, hk]
  have e2 : (p.gl.getD k default).2 = p.gl[k].2 := by simp [hk]
  rw [e1]
  dsimp only
  rw [e2]
  have hm := h.ng _ (List.getElem_mem hk)
  refine ⟨⟨?_, ?_, hm.2⟩, hm.1.plain⟩
  · have := hcell (k * 2 + 0) (by omega)
    rw [Nat.zero_add]
    rw [Nat.add_zero] at this
    rw [this]
    exact flat_at gCells 2 (fun x => rfl) p.gl k 0 hk (by omega)
  · rw [Nat.zero_add, hcell (k * 2 + 1) (by omega)]
    exact flat_at gCells 2 (fun x => rfl) p.gl k 1 hk (by omega)
/-- What is held so far: a row of those ahead and the last one; each has rows of its own, no two in one block. -/
structure HeldQ (W : World) (base : Nat) (v : Value) (el : List Hp) (la : Hp) : Prop where
  row : W.ownsRow base 67 4 v (el.length + 1) (rowH (el ++ [la]))
  hel : ∀ p ∈ el, OneQ W base (Free base v la) p ∧ (∀ j, p.cv.ownBlock = some j → Free base v la j) ∧ (∀ j, p.gv.ownBlock = some j → Free base v la j)
  hla : OneQ W base (Free base v la) la
  vc : ∀ j, la.cv.ownBlock = some j → v.ownBlock ≠ some j
  vg : ∀ j, la.gv.ownBlock = some j → v.ownBlock ≠ some j
  cg : ∀ j, la.cv.ownBlock = some j → la.gv.ownBlock ≠ some j
theorem HeldQ.plain {W : World} {base : Nat} {v : Value} {el : List Hp} {la : Hp} (h : HeldQ W base v el la) : HldsAt W v ((el ++ [la]).map Hp.hd) := by
  obtain ⟨ao, c, hv, h1, h2⟩ := row_cap h.row
  have hlen : ((el ++ [la]).map Hp.hd).length = el.length + 1 := by simp
  refine ⟨ao, c, by rw [hlen]; exact hv, ⟨by rw [hlen]; exact h1, h2⟩, fun _ => ?_⟩
  obtain ⟨g, cap, hv2, _, _, hlt, _, hcell⟩ := row_form h.row (by omega)
  rw [hv] at hv2
  cases hv2
  refine ⟨g, 0, fun k => ((el ++ [la]).getD k la).cv, fun k => ((el ++ [la]).getD k la).gv, rfl, hlt, fun k hk => ?_⟩
  have hk2 : k < (el ++ [la]).length := by simpa using hk
  have e1 : hd ((el ++ [la]).map Hp.hd) k = (el ++ [la])[k].hd := by simp only [hd, List.getD_eq_getElem?_getD, List.getElem?_map, List.getElem?_eq_getElem hk2]; rfl
  have e2 : (el ++ [la]).getD k la = (el ++ [la])[k] := by rw [List.getD_eq_getElem?_getD, List.getElem?_eq_getElem hk2]; rfl
  rw [e1]
  dsimp only
  rw [e2]
  have hone : OneQ W base (Free base v la) (el ++ [la])[k] := by
    rcases List.mem_append.1 (List.getElem_mem hk2) with hm | hm
    · exact (h.hel _ hm).1
    · rw [List.mem_singleton.1 hm]; exact h.hla
  have hk3 : k < el.length + 1 := by rw [hlen] at hk; exact hk
  have cell : ∀ j, j < 4 → W.cell? ⟨g, 0 + k * 4 + j, none⟩ = (hCells (el ++ [la])[k])[j]? := fun j hj => by
    rw [Nat.zero_add, hcell _ (by omega)]
    exact flat_at hCells 4 (fun x => rfl) _ k j hk2 hj
  exact ⟨⟨cell 0 (by omega), cell 1 (by omega), cell 2 (by omega), cell 3 (by omega)⟩, cons_at hone, givs_at hone⟩
end Go.Proofs.YtlljniaobbbjgaaGreatDoor

