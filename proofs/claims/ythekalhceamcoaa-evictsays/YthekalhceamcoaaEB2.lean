/- Who must go: the contract of evict.Relieve. -/
import Derived.Test.YthekalhceamcoaaEV10
import Derived.Test.YthekalhceamcoaaEB1
namespace Go.Proofs.Ythekalhceamcoaa
open Go.RowKit Go.Shelf
open Qos (Nd Ct Pd pd0 nd ct pd usedOf Tame Tot orI goRun goStep goRun_snoc goRun_in goRun_all downs downs_length Least)
attribute [local go_sem] Oper.semAt_some
theorem keeps_below {W W' : World} (h : Below W.heap.size W W') : KeepsOthers W W' :=
  ⟨h.size, fun k _ hk _ => (h.block k (Array.getElem?_eq_some_iff.1 hk).1).trans hk⟩
/-- slices.Backward of pods: a function that has the slice in a box. -/
theorem back_in (a : Option Addr) (len cap : Nat) (w : World) :
    Calls Try.prog 112 #[.slice a len cap] w fun e w' => e = .returned (.func (.func 150) #[] #[.pointer (some ⟨w.heap.size, 0, none⟩)]) ∧ w' = w.alloc (.cells #[.slice a len cap] 84) := by
  go_enter Try.func112, Try.ntmps112
  go_wp2_with fail
  go_ret
  exact ⟨rfl, rfl⟩
/-- All lies as it lay, but two blocks. -/
structure But (B1 B2 : Nat) (A W : World) : Prop where
  os : W.os = A.os
  tape : W.tape = A.tape
  output : W.output = A.output
  size : A.heap.size ≤ W.heap.size
  block : ∀ k, k < A.heap.size → k ≠ B1 → k ≠ B2 → W.heap[k]? = A.heap[k]?
theorem But.refl (B1 B2 : Nat) (A : World) : But B1 B2 A A := ⟨rfl, rfl, rfl, Nat.le_refl _, fun _ _ _ _ => rfl⟩
theorem But.then {B1 B2 : Nat} {A W W' : World} (h : But B1 B2 A W) (hb : Below W.heap.size W W') : But B1 B2 A W' :=
  ⟨hb.os.trans h.os, hb.tape.trans h.tape, hb.output.trans h.output, Nat.le_trans h.size hb.size, fun k hk h1 h2 => (hb.block k (Nat.lt_of_lt_of_le hk h.size)).trans (h.block k hk h1 h2)⟩
theorem But.set {B1 B2 : Nat} {A W : World} (h : But B1 B2 A W) (b j : Nat) (v : Value) (hb : b = B1 ∨ b = B2) : But B1 B2 A (W.setCell ⟨b, j, none⟩ v) :=
  ⟨h.os, h.tape, h.output, Nat.le_trans h.size (KeepsWalks.setCell W _ v).size, fun k hk h1 h2 => (Below.heap_setCell _ _ _ k (fun e => by rcases hb with rfl | rfl <;> simp_all)).trans (h.block k hk h1 h2)⟩
theorem But.own {β : Type} (B1 B2 : Nat) (A : World) : OwnFrom A.heap.size (fun (_ : β) W => But B1 B2 A W) := fun _ W W' row h hg hr =>
  ⟨hg.os.trans h.os, hg.tape.trans h.tape, hg.output.trans h.output, Nat.le_trans h.size hg.size, fun k hk h1 h2 => (hg.block k (Nat.lt_of_lt_of_le hk h.size) (fun e => by have := (hr k e.symm).1; omega)).trans (h.block k hk h1 h2)⟩
theorem But.below {B1 B2 K : Nat} {A W : World} (h : But B1 B2 A W) (hK : K ≤ B1) (hK2 : K ≤ B2) (hA : K ≤ A.heap.size) : Below K A W :=
  ⟨h.os, h.tape, h.output, h.size, fun k hk => h.block k (by omega) (by omega) (by omega)⟩
theorem two_own {β : Type} (B : Nat) (A : World) (hB : B < A.heap.size) (m b : β → Int) : OwnFrom A.heap.size (fun s W => TwoAt W B (m s) (b s)) := fun _ _ _ _ h hg hr =>
  h.kept hg (fun e => by have := (hr _ e.symm).1; omega)
def encP (qs : List Pd) (cv : Nat → Value) (x : Nat) : Array Value := #[.int .i64 (x : Int), .agg #[.string (pd qs x).nm, .int .i64 (pd qs x).pr, cv x]]
set_option maxRecDepth 100000 in
set_option maxHeartbeats 1000000 in
theorem back0_in (F : Fence) (n : Nat) (h7 : F.fn 150) (hro : F.round = none) (l Bs : Nat) (qa : Option Addr) (qc : Nat) (J : List Nat → World → Prop)
    (W : World) (hBs : W.cell? ⟨Bs, 0, none⟩ = some (.slice qa 0 qc)) (h0 : J [] W) :
    CallsIn F n Try.prog 150 #[.func (.yield l) #[] #[], .pointer (some ⟨Bs, 0, none⟩)] W fun e W' => (∃ v, e = .returned v) ∧ J [] W' := by
  refine callsIn_of_wp Try.func150 rfl h7 ?_ hro
  simp only [Try.ntmps150, List.size_toArray, List.length_cons, List.length_nil, Nat.reduceAdd, Nat.reduceSub, Array.replicate_succ, Array.replicate_zero, List.push_toArray, List.append_toArray, List.nil_append, List.cons_append]
  gi_wp2
  gi_loopw [3] (fun i wr => i = .int .i64 (-1) ∧ J [] wr) (fun _ _ => 0)
  case atStart => exact ⟨rfl, h0⟩
  case round =>
    obtain ⟨rfl, hJs⟩ := hrel
    gi_wp2
    go_end0
    exact ⟨⟨_, rfl⟩, hJs⟩
theorem back_stops (F : Fence) (n : Nat) (h7 : F.fn 150) (hro : F.round = none) (hn : 1 ≤ n) (Bs : Nat) (qa : Option Addr) (qc : Nat) (qs : List Pd) (w0 w : World) (hb : Below w0.heap.size w0 w) (hBs : w.cell? ⟨Bs, 0, none⟩ = some (.slice qa qs.length qc)) (hBl : Bs < w.heap.size) (hP : PodsAt w0 (.slice qa qs.length qc) qs) (hlen : qs.length ≤ 16) :
    ∃ b cv, (b < w0.heap.size ∨ b = Bs) ∧ (∀ k, ∃ a m c, cv k = .slice a m c) ∧
      SeqStopsK F n Try.prog 150 #[.pointer (some ⟨Bs, 0, none⟩)] (encP qs cv) (KpB b Bs) (fun ys => ys = downs qs.length qs.length) (fun _ => True) qs.length w := by
  obtain ⟨ao, c, hv, _, hr⟩ := hP
  cases hv
  by_cases h0 : 0 < qs.length
  · obtain ⟨b, o, cv, rfl, hin⟩ := hr h0
    have hrow : RowP w b o qs (fun k => if k < qs.length then cv k else .slice none 0 0) := by
      have h1 : RowP w0 b o qs (fun k => if k < qs.length then cv k else .slice none 0 0) := fun k hk => by
        simp only [if_pos hk]
        exact (hin.2 k hk).1
      exact h1.kept (hb.block b hin.1)
    refine ⟨b, fun k => if k < qs.length then cv k else .slice none 0 0, .inl hin.1, fun k => ?_, fun l J Jx W hW _ _ hY h0 => ?_⟩
    · by_cases hk : k < qs.length
      · simp only [if_pos hk]; exact (hin.2 k hk).2.slice
      · simp only [if_neg hk]; exact ⟨_, _, _, rfl⟩
    · refine back1_in F n h7 hro hn l Bs b o qc qs _ hlen (fun k => ?_) J Jx hY W ((hW.cell (p := ⟨Bs, 0, none⟩) hBl).trans hBs) (hrow.kept (hW.block b (Nat.lt_of_lt_of_le hin.1 hb.size))) h0
      by_cases hk : k < qs.length
      · simp only [if_pos hk]; exact (hin.2 k hk).2.slice
      · simp only [if_neg hk]; exact ⟨_, _, _, rfl⟩
  · have hq0 : qs.length = 0 := by omega
    refine ⟨Bs, fun _ => .slice none 0 0, .inr rfl, fun k => ⟨_, _, _, rfl⟩, fun l J Jx W hW _ _ hY h0 => ?_⟩
    refine (back0_in F n h7 hro l Bs qa qc J W ((hW.cell (p := ⟨Bs, 0, none⟩) hBl).trans (by rw [hq0] at hBs; exact hBs)) h0).mono ?_
    rintro e W' ⟨he, hj⟩
    exact ⟨he, .inl ⟨_, rfl, by rw [hq0]; exact hj⟩⟩
theorem PBoxAt.own (B : Nat) (x : Pd) (cv : Value) : Own (fun (_ : Unit) W => PBoxAt W B x cv) := fun _ _ _ _ hs hg hr => by
  obtain ⟨h0, h1, h2, h3⟩ := hs
  exact ⟨Nat.lt_of_lt_of_le h0 hg.size, cell_kept h1 hg hr, cell_kept h2 hg hr, cell_kept h3 hg hr⟩
theorem two_far {w : World} {B : Nat} {m b : Int} (h : TwoAt w B m b) (g j : Nat) (v : Value) (hne : B ≠ g) : TwoAt (w.setCell ⟨g, j, none⟩ v) B m b := by
  have hh := Below.heap_setCell w ⟨g, j, none⟩ v B hne
  obtain ⟨⟨c0, f0⟩, ⟨c1, f1⟩⟩ := h
  exact ⟨⟨(World.cell?_of_block (a := ⟨B, 0, none⟩) hh).trans c0, (World.frozen?_of_block (a := ⟨B, 0, none⟩) hh).trans f0⟩, ⟨(World.cell?_of_block (a := ⟨B, 1, none⟩) hh).trans c1, (World.frozen?_of_block (a := ⟨B, 1, none⟩) hh).trans f1⟩⟩
theorem boxed_far {w : World} {B : Nat} {t : TypeId} {u : Value} (h : Boxed w B t u) (g j : Nat) (v : Value) (hne : B ≠ g) : Boxed (w.setCell ⟨g, j, none⟩ v) B t u :=
  (Below.heap_setCell w ⟨g, j, none⟩ v B hne).trans h
theorem pd_small {qs : List Pd} (h : FitE qs) (x : Nat) : (pd qs x).nm.size ≤ 1000 := by
  by_cases hx : x < qs.length
  · have := (h.2 qs[x] (List.getElem_mem hx)).2
    simp [pd, hx]
    exact this
  · simp [pd, hx, pd0]
theorem pods_take {w : World} {qa : Option Addr} {qc : Nat} {qs : List Pd} (h : PodsAt w (.slice qa qs.length qc) qs) {g : Nat} (hg : g ≤ qs.length) : PodsAt w (.slice qa g qc) (qs.take g) := by
  obtain ⟨ao, c, hv, hm, hr⟩ := h
  cases hv
  have hl : (qs.take g).length = g := by rw [List.length_take]; omega
  refine ⟨qa, qc, by rw [hl], by omega, fun h0 => ?_⟩
  obtain ⟨b, o, cv, ha, hlt, hc⟩ := hr (by omega)
  refine ⟨b, o, cv, ha, hlt, fun k hk => ?_⟩
  rw [hl] at hk
  have e : pd (qs.take g) k = pd qs k := by simp [pd, hk]
  rw [e]
  exact hc k (by omega)
theorem texts_put {w : World} {v : Value} {l : List ByteArray} (h : TextsAt w v l) {D : Nat} {o : Obj} (o' : Obj) (hD : w.heap[D]? = some o) (ho : o.isCells = false) : TextsAt (w.putObj D o') v l := by
  obtain ⟨ao, c, hv, hc, hr⟩ := h
  refine ⟨ao, c, hv, hc, fun h0 => ?_⟩
  obtain ⟨g, ha, hlt, hcs⟩ := hr h0
  exact ⟨g, ha, Nat.lt_of_lt_of_le hlt (grownBy_putObj' w D o').size, fun k hk => cell_kept (hcs k hk) (grownBy_putObj' w D o') (fun r e => by cases e; exact ⟨_, hD, ho⟩)⟩
theorem tot_plus {h l v n : Int} (t : Tot h l v) : Tot (h + n / 1073741824 + (l + n % 1073741824) / 1073741824) ((l + n) % 1073741824) (v + n) := by
  obtain ⟨h1, h2, h3⟩ := t
  exact ⟨by omega, by omega, by omega⟩
set_option maxRecDepth 100000 in
set_option maxHeartbeats 4000000 in
theorem relieve_any (v uv : Value) (ps : List Pd) (us : List Nd) (most : Int) (w : World) (h : PodsAt w v ps) (hu : NeedsAt w uv us) (hf : FitE ps) (hfu : FewUses us) (hm1 : -9223372036854775808 ≤ most) (hm2 : most ≤ 9223372036854775807) :
    Calls Try.prog 66 #[v, uv, .int .i64 most] w fun e w' => (∃ v' qs g, e = .returned v' ∧ TextsAt w' v' ((qs.take g).map Pd.nm) ∧ Sorted us ps qs ∧ Least us qs most 0 g) ∧ Below w.heap.size w w' := by
  have HU := hideIt (uses_any uv us w hu hfu)
  have HP := hideIt h
  obtain ⟨ao, c, rfl, _, _⟩ := h
  obtain ⟨ao2, c2, rfl, _, _⟩ := hu
  refine (callsIn_wide (n := 3)).1 ?_
  refine callsIn_of_wp_marks Try.func66 rfl trivial ?_ rfl
  simp only [Try.ntmps66, List.size_toArray, List.length_cons, List.length_nil, Nat.reduceAdd, Nat.reduceSub, Array.replicate_succ, Array.replicate_zero, List.push_toArray, List.append_toArray, List.nil_append, List.cons_append]
  gi_wp2_with fail
  refine ⟨trivial, (callsIn_wide.2 HU.out).mono ?_⟩
  rintro e w1 ⟨⟨n, rfl, hm⟩, hb1⟩
  have HB1 := hideIt hb1
  have hb2 := (Below.refl w1.heap.size w1).alloc (Nat.le_refl _) (.cells #[.map (some w.heap.size)] 166)
  have HB2 := hideIt (hb1.trans (hb2.mono hb1.size))
  have HM2 := hideIt (hm.alloc (.cells #[.map (some w.heap.size)] 166))
  have HX2 := hideIt (Boxed.new w1 166 (.map (some w.heap.size)))
  have hs2 : (w1.alloc (.cells #[.map (some w.heap.size)] 166)).heap.size = w1.heap.size + 1 := by simp
  have HO := hideIt (order_any _ ps w.heap.size n us _ (HP.out.below HB2.out) hf HM2.out hfu.2.1)
  have hc2 : (w1.alloc (.cells #[.map (some w.heap.size)] 166)).cell? ⟨w1.heap.size, 0, none⟩ = some (.map (some w.heap.size)) := by simp
  have hlt1 : w.heap.size < w1.heap.size := hm.lt
  clear hm hb1 hb2 HU
  gi_wp2_with fail
  generalize w1.alloc (.cells #[.map (some w.heap.size)] 166) = W2 at *
  refine ⟨trivial, (callsIn_wide.2 HO.out).mono ?_⟩
  rintro e w3 ⟨⟨v3, qs, rfl, hq, hs, hcap⟩, hb3⟩
  have HB3 := hideIt (HB2.out.trans (hb3.mono HB2.out.size))
  have HM3 := hideIt (HM2.out.below hb3 HM2.out.lt)
  have HX3 := hideIt (show Boxed w3 w1.heap.size 166 (.map (some w.heap.size)) from (hb3.block _ (by omega)).trans HX2.out)
  have HS := hideIt hs
  have HQ := hideIt hq
  have hql : qs.length ≤ 16 := by rw [hs.1.length_eq]; exact hf.1
  have hsz3 := hb3.size
  obtain ⟨qa, qc, rfl, _, _⟩ := hq
  have hqc : qs.length ≤ qc := by obtain ⟨_, _, _, e, hle⟩ := hcap; cases e; exact hle
  clear hcap
  have HPL := hideIt (plus_any 0 0 most w3 (by omega) (by omega) (by omega) (by omega) hm1 hm2)
  clear hb3 hs HO HB2 HM2 HX2 hc2
  gi_wp2_with fail
  refine ⟨trivial, (callsIn_wide.2 HPL.out).mono ?_⟩
  rintro e w4 ⟨rfl, hb4⟩
  have HT4 := hideIt (tot_plus (n := most) Tot.zero)
  have HB4 := hideIt (HB3.out.trans (hb4.mono HB3.out.size))
  have HM4 := hideIt (HM3.out.below hb4 HM3.out.lt)
  have HX4 := hideIt (show Boxed w4 w1.heap.size 166 (.map (some w.heap.size)) from (hb4.block _ (by omega)).trans HX3.out)
  have HQ4 := hideIt (HQ.out.below hb4)
  have hsz4 := hb4.size
  clear hb4 HB3 HM3 HX3 HPL
  generalize (0 : Int) + most / 1073741824 + (0 + most % 1073741824) / 1073741824 = LH at *
  generalize ((0 : Int) + most) % 1073741824 = LL at *
  gi_wp2_with fail
  refine ⟨trivial, (callsIn_wide.2 (back_in _ _ _ _)).mono ?_⟩
  rintro e w8 ⟨rfl, rfl⟩
  have a1 := (Below.refl w4.heap.size w4).alloc (Nat.le_refl _) (.cells #[.int .i64 LH, .int .i64 LL] 171)
  have a2 := a1.alloc (by simp) (.cells #[.int .i64 (qs.length : Int)] 3)
  have a3 := a2.alloc (by simp; omega) (.cells #[.int .i64 0, .int .i64 0] 171)
  have HBA := hideIt (a3.alloc (by simp; omega) (.cells #[.slice qa qs.length qc] 84))
  have HL9 := hideIt (((TwoAt.made w4 171 LH LL).alloc (.cells #[.int .i64 (qs.length : Int)] 3)).alloc (.cells #[.int .i64 0, .int .i64 0] 171) |>.alloc (.cells #[.slice qa qs.length qc] 84))
  have hx10 := ((Boxed.new (w4.alloc (.cells #[.int .i64 LH, .int .i64 LL] 171)) 3 (.int .i64 (qs.length : Int))).alloc (.cells #[.int .i64 0, .int .i64 0] 171)).alloc (.cells #[.slice qa qs.length qc] 84)
  have hx11 := (TwoAt.made ((w4.alloc (.cells #[.int .i64 LH, .int .i64 LL] 171)).alloc (.cells #[.int .i64 (qs.length : Int)] 3)) 171 0 0).alloc (.cells #[.slice qa qs.length qc] 84)
  have hxs := Boxed.new (((w4.alloc (.cells #[.int .i64 LH, .int .i64 LL] 171)).alloc (.cells #[.int .i64 (qs.length : Int)] 3)).alloc (.cells #[.int .i64 0, .int .i64 0] 171)) 84 (.slice qa qs.length qc)
  have hsA : ((((w4.alloc (.cells #[.int .i64 LH, .int .i64 LL] 171)).alloc (.cells #[.int .i64 (qs.length : Int)] 3)).alloc (.cells #[.int .i64 0, .int .i64 0] 171)).alloc (.cells #[.slice qa qs.length qc] 84)).heap.size = w4.heap.size + 1 + 1 + 1 + 1 := by simp
  simp only [World.size_alloc] at hx10 hx11 hxs
  have HX10 := hideIt hx10
  have HX11 := hideIt hx11
  have HXS := hideIt hxs
  clear a1 a2 a3 hx10 hx11 hxs
  gi_wp2_with fail
  generalize ((((w4.alloc (.cells #[.int .i64 LH, .int .i64 LL] 171)).alloc (.cells #[.int .i64 (qs.length : Int)] 3)).alloc (.cells #[.int .i64 0, .int .i64 0] 171)).alloc (.cells #[.slice qa qs.length qc] 84)) = A at *
  obtain ⟨b, cv, hb, hcv, hseq⟩ := back_stops Fence.wide (3 - 1) trivial rfl (by omega) (w4.heap.size + 1 + 1 + 1) qa qc qs w4 A HBA.out HXS.out.cell (by omega) HQ4.out hql
  have HCV := hideIt hcv
  have hbA : b < A.heap.size := by rcases hb with hb | hb <;> omega
  have hbn : b ≠ w4.heap.size + 1 ∧ b ≠ w4.heap.size + 1 + 1 := by rcases hb with hb | hb <;> omega
  clear hcv hb
  refine wpIn_rangeFunc_ownH (α := Nat) rfl (by omega) (gf := 150) (lb := #[.pointer (some ⟨w4.heap.size + 1 + 1 + 1, 0, none⟩)]) rfl trivial (enters_of Try.func150 (by kernel_rfl) rfl)
    hseq (fun h k => KpB.trans h k) (fun W l o o' hl hW h1 h2 => ⟨World.putObj_heap_other (by omega), World.putObj_heap_other (by omega)⟩) (Below.refl _ _) (fun _ => rfl)
    (fun pre W => (∃ h l, TwoAt W (w4.heap.size + 1 + 1) h l ∧ Tot h l (goRun us qs most pre).1) ∧ Boxed W (w4.heap.size + 1) 3 (.int .i64 ((goRun us qs most pre).2 : Int)) ∧ But (w4.heap.size + 1) (w4.heap.size + 1 + 1) A W)
    (fun _ _ _ => False)
    (fun s W W' row hs hg hr => by
      obtain ⟨⟨h, l, ht, hT⟩, hbx, hbut⟩ := hs
      exact ⟨⟨h, l, ht.kept hg (fun e => by have := (hr _ e.symm).1; omega), hT⟩, hbx.kept hg (fun e => by have := (hr _ e.symm).1; omega), But.own _ _ A s W W' row hbut hg hr⟩)
    (fun _ _ _ _ _ hs _ _ => hs)
    ⟨⟨0, 0, HX11.out, Tot.zero⟩, HX10.out, But.refl _ _ _⟩
    (fun x a' W => ∃ Bx, A.heap.size ≤ Bx ∧ PBoxAt W Bx (pd qs x) (cv x) ∧ a' = { tmps := #[Value.slice ao ps.length c, Value.slice ao2 us.length c2, Value.int IntKind.i64 most, undef, undef, undef, Value.slice none 0 0, Value.pointer (some { block := w1.heap.size, off := 0 }), Value.slice qa qs.length qc, Value.pointer (some { block := w4.heap.size, off := 0 }), Value.pointer (some { block := w4.heap.size + 1, off := 0 }), Value.pointer (some { block := w4.heap.size + 1 + 1, off := 0 }), .int .i64 (x : Int), .pointer (some ⟨Bx, 0, none⟩), Value.slice ao2 us.length c2, Value.map (some w.heap.size), Value.slice ao ps.length c, Value.map (some w.heap.size), Value.slice qa qs.length qc, Value.agg #[Value.int IntKind.i64 0, Value.int IntKind.i64 0], Value.int IntKind.i64 most, Value.agg #[Value.int IntKind.i64 LH, Value.int IntKind.i64 LL], Value.slice qa qs.length qc, Value.int IntKind.i64 (qs.length : Int), Value.agg #[Value.int IntKind.i64 0, Value.int IntKind.i64 0], Value.slice qa qs.length qc, Value.func (Fn.func 150) #[] #[Value.pointer (some { block := w4.heap.size + 1 + 1 + 1, off := 0 })], .int .i64 (x : Int), .agg #[.string (pd qs x).nm, .int .i64 (pd qs x).pr, cv x], undef, undef, undef, undef, undef, undef, undef, undef, undef, undef, undef, undef, undef, undef, undef], defers := [] })
    (fun x a' => Own.from (fun u W W' row hs hg hr => by
      obtain ⟨Bx, h1, h2, h3⟩ := hs
      exact ⟨Bx, h1, PBoxAt.own Bx _ _ u W W' row h2 hg hr, h3⟩) _) ?assign ?body ?done ?stop
  case assign =>
    rintro l pre x W K ⟨⟨h, l', ht, hT⟩, hbx, hbut⟩ hK
    obtain ⟨ca, cm, cc, hce⟩ := HCV.out x
    have HK := hideIt hK
    have hsz := hbut.size
    clear hK
    unfold encP
    rw [hce]
    gi_wp2_with fail
    refine HK.out _ _ ((KeepsOthers.alloc _ _).from _) ⟨Below.heap_alloc _ _ _ (by omega), Below.heap_alloc _ _ _ (by omega)⟩ ⟨⟨h, l', ht.alloc _, hT⟩, hbx.alloc _, hbut.then ((Below.refl _ _).alloc (Nat.le_refl _) _)⟩ ⟨W.heap.size, hsz, ?_, ?_⟩
    · rw [hce]; exact PBoxAt.made W (pd qs x) _
    · rw [hce]
  case body =>
    rintro l pre x a' W hl ⟨r, hr⟩ ⟨⟨h, l', ht, hT⟩, hbx, hbut⟩ ⟨Bx, hBx, hpx, rfl⟩ hlt
    obtain ⟨ca, cm, cc, hce⟩ := HCV.out x
    rw [hce] at hpx ⊢
    have hin := goRun_in hfu.2.1 qs most (pre := pre) (by omega)
    have hui := Qos.used_in hfu.2.1 (pd qs x).nm
    have hhi := hT.high hin.1 hin.2
    have hb9 := hbut.below (K := w4.heap.size + 1) (Nat.le_refl _) (by omega) (by omega)
    have hmb : W.cell? ⟨w1.heap.size, 0, none⟩ = some (.map (some w.heap.size)) := (hb9.cell (p := ⟨w1.heap.size, 0, none⟩) (by show w1.heap.size < _; omega)).trans ((HBA.out.cell (p := ⟨w1.heap.size, 0, none⟩) (by show w1.heap.size < _; omega)).trans HX4.out.cell)
    have hlk := look_use ((HM4.out.below HBA.out (by omega)).below hb9 (by omega)) (pd qs x).nm (pd_small (hf.perm HS.out.1) x)
    have HL9' := hideIt (show TwoAt W w4.heap.size LH LL from by
      obtain ⟨⟨c0, f0⟩, ⟨c1, f1⟩⟩ := HL9.out
      have hh := hb9.block w4.heap.size (by omega)
      exact ⟨⟨(World.cell?_of_block (a := ⟨w4.heap.size, 0, none⟩) hh).trans c0, (World.frozen?_of_block (a := ⟨w4.heap.size, 0, none⟩) hh).trans f0⟩, ⟨(World.cell?_of_block (a := ⟨w4.heap.size, 1, none⟩) hh).trans c1, (World.frozen?_of_block (a := ⟨w4.heap.size, 1, none⟩) hh).trans f1⟩⟩)
    have HSN := hideIt (goRun_snoc us qs most pre x)
    have HT' := hideIt (tot_plus (n := usedOf us (pd qs x).nm) hT)
    have HBX := hideIt hbx
    have HBUT := hideIt hbut
    have HT := hideIt ht
    obtain ⟨_, p0, p1, p2⟩ := hpx
    obtain ⟨⟨t0, f0⟩, ⟨t1, f1⟩⟩ := ht
    have HPL := hideIt (plus_any h l' (usedOf us (pd qs x).nm) W hT.1 hT.2.1 hhi.1 hhi.2 (by omega) (by omega))
    unfold goStep at HSN
    generalize hgr : goRun us qs most pre = st at *
    generalize usedOf us (pd qs x).nm = US at *
    generalize (pd qs x).nm = nmx at *
    generalize (pd qs x).pr = prx at *
    clear hin hui hhi hT hbx hbut hb9 hgr hce HCV hseq HX11 HX10 HXS
    gi_wp2_with fail
    refine ⟨trivial, (CallsIn.inRound l (callsIn_wide.2 HPL.out)).mono ?_⟩
    rintro e w5 ⟨rfl, hb5⟩
    have HK5 := hideIt ((keeps_below hb5).from A.heap.size)
    have HBUT5 := hideIt (HBUT.out.then hb5)
    have HT5 := hideIt (HT.out.below hb5)
    have HL5 := hideIt (HL9'.out.below hb5)
    have HBX5 := hideIt (show Boxed w5 (w4.heap.size + 1) 3 (.int .i64 (st.2 : Int)) from (hb5.block _ HBX.out.lt).trans HBX.out)
    obtain ⟨⟨s0, z0⟩, ⟨s1, z1⟩⟩ := HT.out.below hb5
    clear hb5 HPL t0 t1 f0 f1 p0 p1 p2 hlk hmb HT HBX
    generalize h + US / 1073741824 + (l' + US % 1073741824) / 1073741824 = H2 at *
    generalize (l' + US) % 1073741824 = L2 at *
    have HT6 := hideIt ((HT5.out.set0 H2).set1 L2)
    have HL6 := hideIt (two_far (two_far HL5.out (w4.heap.size + 1 + 1) 0 (.int .i64 H2) (by omega)) (w4.heap.size + 1 + 1) 1 (.int .i64 L2) (by omega))
    have HBX6 := hideIt (boxed_far (boxed_far HBX5.out (w4.heap.size + 1 + 1) 0 (.int .i64 H2) (by omega)) (w4.heap.size + 1 + 1) 1 (.int .i64 L2) (by omega))
    have HBUT6 := hideIt ((HBUT5.out.set (w4.heap.size + 1 + 1) 0 (.int .i64 H2) (.inr rfl)).set (w4.heap.size + 1 + 1) 1 (.int .i64 L2) (.inr rfl))
    have HK6 := hideIt ((HK5.out.trans ((KeepsOthers.setCell w5 ⟨w4.heap.size + 1 + 1, 0, none⟩ (.int .i64 H2)).from _)).trans ((KeepsOthers.setCell (w5.setCell ⟨w4.heap.size + 1 + 1, 0, none⟩ (.int .i64 H2)) ⟨w4.heap.size + 1 + 1, 1, none⟩ (.int .i64 L2)).from _))
    have z1' : (w5.setCell ⟨w4.heap.size + 1 + 1, 0, none⟩ (.int .i64 H2)).frozen? ⟨w4.heap.size + 1 + 1, 1, none⟩ = false := (HT5.out.set0 H2).2.2
    have s1' := (HT5.out.set0 H2).2.1
    obtain ⟨⟨q0, _⟩, ⟨q1, _⟩⟩ := HT6.out
    obtain ⟨⟨r0, _⟩, ⟨r1, _⟩⟩ := HL6.out
    have HC := hideIt (compare_any H2 L2 LH LL ((w5.setCell ⟨w4.heap.size + 1 + 1, 0, none⟩ (.int .i64 H2)).setCell ⟨w4.heap.size + 1 + 1, 1, none⟩ (.int .i64 L2)))
    have HLE := hideIt (tot_le HT'.out HT4.out)
    clear HL9' HBUT5 HK5 HT5 HL5 HBX5 HT4
    gi_wp2_with fail
    refine ⟨trivial, (CallsIn.inRound l (callsIn_wide.2 HC.out)).mono ?_⟩
    clear s0 z0 s1 z1 z1' s1' q0 q1 r0 r1 HC HL6
    generalize (w5.setCell ⟨w4.heap.size + 1 + 1, 0, none⟩ (.int .i64 H2)).setCell ⟨w4.heap.size + 1 + 1, 1, none⟩ (.int .i64 L2) = W6 at *
    rintro e w7 ⟨rfl, hb7⟩
    have HK7 := hideIt (HK6.out.trans ((keeps_below hb7).from _))
    have HBUT7 := hideIt (HBUT6.out.then hb7)
    have HT7 := hideIt (HT6.out.below hb7)
    have hbx7 : Boxed w7 (w4.heap.size + 1) 3 (.int .i64 (st.2 : Int)) := (hb7.block _ HBX6.out.lt).trans HBX6.out
    have HBX7 := hideIt hbx7
    have hc7 := hbx7.cell
    have hf7 := hbx7.frozen
    have HKB := hideIt (fun W' (hbut : But (w4.heap.size + 1) (w4.heap.size + 1 + 1) A W') => (show KpB b (w4.heap.size + 1 + 1 + 1) W W' from
      ⟨(hbut.block b hbA hbn.1 hbn.2).trans (HBUT.out.block b hbA hbn.1 hbn.2).symm, (hbut.block (w4.heap.size + 1 + 1 + 1) (by omega) (by omega) (by omega)).trans (HBUT.out.block (w4.heap.size + 1 + 1 + 1) (by omega) (by omega) (by omega)).symm⟩))
    clear hb7 hbx7 HK6 HBUT6 HT6 HBX6 HBUT
    by_cases hm : st.1 + US ≤ most
    · have hle := HLE.out.2 (by omega)
      have HSN' := hideIt (show goRun us qs most (pre ++ [x]) = (st.1 + US, x) by rw [HSN.out, if_pos hm])
      clear HLE HSN hm
      generalize orI (Lib.compareInt H2 LH) (Lib.compareInt L2 LL) = cc at *
      gi_wp2_with fail
      exact ⟨HK7.out.trans ((KeepsOthers.setCell _ _ _).from _), HKB.out _ (HBUT7.out.set (w4.heap.size + 1) 0 _ (.inl rfl)), ⟨H2, L2, two_far HT7.out _ _ _ (by omega), by rw [HSN'.out]; exact HT'.out⟩, by rw [HSN'.out]; exact HBX7.out.set _, HBUT7.out.set (w4.heap.size + 1) 0 _ (.inl rfl)⟩
    · have hgt : 0 < orI (Lib.compareInt H2 LH) (Lib.compareInt L2 LL) := by
        refine Int.not_le.1 fun hc => hm ?_
        have := HLE.out.1 hc
        omega
      have HSN' := hideIt (show goRun us qs most (pre ++ [x]) = (st.1 + US, st.2) by rw [HSN.out, if_neg hm])
      clear HLE HSN hm
      generalize orI (Lib.compareInt H2 LH) (Lib.compareInt L2 LL) = cc at *
      gi_wp2_with fail
      exact ⟨HK7.out, HKB.out _ HBUT7.out, ⟨H2, L2, HT7.out, by rw [HSN'.out]; exact HT'.out⟩, by rw [HSN'.out]; exact HBX7.out, HBUT7.out⟩
  case done =>
    rintro D xs W hD rfl ⟨_, hbx, hbut⟩ hK
    have HLS := hideIt (goRun_all us qs most)
    have hg := HLS.out.hi
    have hb9 := hbut.below (K := w4.heap.size + 1) (Nat.le_refl _) (by omega) (by omega)
    have hbW : Below w4.heap.size w4 W := HBA.out.trans (hb9.mono (by omega))
    have HBW := hideIt (HB4.out.trans (hbW.mono HB4.out.size))
    have HPW := hideIt (pods_take (HQ4.out.below hbW) hg)
    have hc := hbx.cell
    have HK := hideIt hK
    have hDA := hD
    generalize hgg : (goRun us qs most (downs qs.length qs.length)).2 = g at *
    have HN := hideIt (names_any _ (qs.take g) W HPW.out (by rw [List.length_take]; omega))
    clear hbx hbut hb9 hbW hseq HCV HX10 HX11 HXS hgg HL9 HK
    gi_wp2_with fail
    refine ⟨trivial, (callsIn_wide.2 HN.out).mono ?_⟩
    rintro e w9 ⟨⟨v9, rfl, ht9⟩, hb9⟩
    have hK9 : w9.heap[D]? = some (.deferred (some [])) := (hb9.block D (Array.getElem?_eq_some_iff.1 hK).1).trans hK
    have HT9 := hideIt ht9.read
    have HB9 := hideIt (HBW.out.trans (hb9.mono HBW.out.size))
    have hwD : w.heap.size ≤ D := by have := HB4.out.size; omega
    clear ht9 hb9 hK HN hc
    gi_wp2_with fail
    refine ⟨by simp, .inl ⟨_, _, rfl, run_takeDeferred hK9, ?_⟩⟩
    exact ⟨_, results_tmp rfl _ _ _, ⟨_, qs, g, rfl, texts_put HT9.out _ hK9 rfl, HS.out, HLS.out⟩, HB9.out.trans (belowK_b (w := w) (Nat.le_refl _) _ D _ _ hwD hK9 rfl rfl)⟩
  case stop => exact fun _ _ _ _ _ _ h _ => h.elim
end Go.Proofs.Ythekalhceamcoaa
