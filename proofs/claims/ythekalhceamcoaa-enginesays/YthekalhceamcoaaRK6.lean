/- What runs, in order, and copied apart: contracts. -/
import Derived.Test.YthekalhceamcoaaRK5
namespace Go.Proofs.Ythekalhceamcoaa
open Go.RowKit
open Qos (cmpS ltS orI)
theorem RunsAt.slice {base : Nat} {w : World} {v : Value} {ys : List RV} (h : RunsAt base w v ys) : ∃ a c, v = .slice a ys.length c := by
  obtain ⟨a, c, hv, _⟩ := h
  exact ⟨a, c, hv⟩
set_option maxRecDepth 100000 in
set_option maxHeartbeats 1000000 in
theorem sortedFunc_any (Bm b nn : Nat) (xs : List RV) (w : World) (hm : w.cell? ⟨Bm, 0, none⟩ = some (.map (some b))) (hown : MapR w b nn xs) (hl : xs.length ≤ 1000) :
    Calls Try.prog 121 #[.func (.func 154) #[] #[.pointer (some ⟨Bm, 0, none⟩)], .func (.func 123) #[] #[]] w fun e w' => (∃ v qs, e = .returned v ∧ RunsAt w.heap.size w' v qs ∧ qs.Perm xs ∧ InOrder qs) ∧ Below w.heap.size w w' := by
  have HC := hideIt (collect_any Bm b nn xs w hm hown hl)
  clear hm hown
  go_enter Try.func121, Try.ntmps121
  go_wp2_with fail
  refine HC.out.mono ?_
  rintro e w1 ⟨⟨v, ys, rfl, hp, hr⟩, hb⟩
  have HS := hideIt (sortRuns_any ys w1 v w.heap.size hr (by rw [hp.length_eq]; exact hl))
  have HP := hideIt hp
  have HB := hideIt hb
  obtain ⟨a, c, rfl, _⟩ := hr.slice
  clear hr hp hb HC
  go_wp2_with fail
  refine HS.out.mono ?_
  rintro e w2 ⟨rfl, ⟨qs, hq, hqp, hqo⟩, hb2⟩
  have HQ := hideIt hq
  have HQP := hideIt (hqp.trans HP.out)
  have HQO := hideIt hqo
  have HB2 := hideIt (HB.out.trans hb2)
  clear hq hqp hqo hb2 HS
  go_wp2_with fail
  go_ret
  exact ⟨⟨_, qs, rfl, HQ.out, HQP.out, HQO.out⟩, HB2.out⟩
/-- Its devices, as they lie there. -/
def devAt (w : World) (x : RV) (k : Nat) : Int := match x.da with
  | some a => match w.cell? (a.add k) with
    | some (.int _ n) => n
    | _ => 0
  | none => 0
def devsOf (w : World) (x : RV) : List Int := (List.range x.dn).map (devAt w x)
/-- They can be read. -/
def DevsOk (w : World) (x : RV) : Prop := 0 < x.dn → ∃ g o, x.da = some ⟨g, o, none⟩ ∧ g < w.heap.size ∧ ∀ k, k < x.dn → w.cell? ⟨g, o + k, none⟩ = some (.int .i64 (devAt w x k))
theorem devs_kept {w w' : World} {x : RV} (h : DevsOk w x) (hk : ∀ g o, x.da = some ⟨g, o, none⟩ → g < w.heap.size → w'.heap[g]? = w.heap[g]?) (hs : w.heap.size ≤ w'.heap.size) : DevsOk w' x ∧ devsOf w' x = devsOf w x := by
  by_cases h0 : 0 < x.dn
  · obtain ⟨g, o, ha, hg, hc⟩ := h h0
    have hh := hk g o ha hg
    have hd : ∀ k, devAt w' x k = devAt w x k := fun k => by
      unfold devAt
      rw [ha]
      simp only
      rw [World.cell?_of_block (w := w) (w' := w') (a := (⟨g, o, none⟩ : Addr).add k) (by rw [Addr.add_lit]; exact hh)]
    refine ⟨fun _ => ⟨g, o, ha, Nat.lt_of_lt_of_le hg hs, fun k hk' => ?_⟩, ?_⟩
    · rw [hd, ← hc k hk']
      exact World.cell?_of_block (a := ⟨g, o + k, none⟩) hh
    · unfold devsOf
      refine List.map_congr_left fun k _ => hd k
  · refine ⟨fun h1 => absurd h1 h0, ?_⟩
    have : x.dn = 0 := by omega
    simp [devsOf, this]
theorem DevsOk.below {w w' : World} {x : RV} (h : DevsOk w x) {K : Nat} (hb : Below K w w') (hK : ∀ g o, x.da = some ⟨g, o, none⟩ → g < w.heap.size → g < K) : DevsOk w' x ∧ devsOf w' x = devsOf w x :=
  devs_kept h (fun g o e hg => hb.block g (hK g o e hg)) hb.size
/-- What runs, as a whole. -/
structure Rn where
  pod : ByteArray
  cont : ByteArray
  cpus : Int
  devs : List Int
def absR (w : World) (x : RV) : Rn := ⟨x.pod, x.cont, x.cpus, devsOf w x⟩
/-- Its devices lie in a block of their own, of numbers alone. -/
def DevOwn (w : World) (x : RV) : Prop := DevsOk w x ∧ (0 < x.dn → ∃ g arr z, x.da = some ⟨g, 0, none⟩ ∧ w.heap[g]? = some (.cells arr 3 z))
/-- Blocks of numbers lie as they lay. -/
def KInt (w w' : World) : Prop := w.heap.size ≤ w'.heap.size ∧ ∀ (k : Nat) (arr : Array Value) (z : Nat × Nat), w.heap[k]? = some (Obj.cells arr 3 z) → w'.heap[k]? = w.heap[k]?
theorem KInt.refl (w : World) : KInt w w := ⟨Nat.le_refl _, fun _ _ _ _ => rfl⟩
theorem KInt.trans {a b c : World} (h : KInt a b) (k : KInt b c) : KInt a c := ⟨Nat.le_trans h.1 k.1, fun i arr z hi => by
  have h1 := h.2 i arr z hi
  rw [hi] at h1
  exact (k.2 i arr z h1).trans (h1.trans hi.symm)⟩
theorem KInt.below {w w' : World} (h : Below w.heap.size w w') : KInt w w' := ⟨h.size, fun k _ _ hk => h.block k (Array.getElem?_eq_some_iff.1 hk).1⟩
theorem KInt.grown {w w' : World} {b : Nat} (h : w.grownBy w' (some b)) (hb : ∀ (arr : Array Value) (z : Nat × Nat), w.heap[b]? ≠ some (Obj.cells arr 3 z)) : KInt w w' :=
  ⟨h.size, fun k arr z hk => h.block k (Array.getElem?_eq_some_iff.1 hk).1 (fun e => by cases e; exact hb arr z hk)⟩
theorem DevOwn.kept {w w' : World} {x : RV} (h : DevOwn w x) (hk : KInt w w') : DevOwn w' x ∧ devsOf w' x = devsOf w x := by
  by_cases h0 : 0 < x.dn
  · obtain ⟨g, arr, z, ha, hg⟩ := h.2 h0
    have hh := hk.2 g arr z hg
    obtain ⟨h1, h2⟩ := devs_kept (w' := w') h.1 (fun g' o' e _ => by rw [ha] at e; cases e; exact hh) hk.1
    exact ⟨⟨h1, fun _ => ⟨g, arr, z, ha, hh.trans hg⟩⟩, h2⟩
  · obtain ⟨h1, h2⟩ : DevsOk w' x ∧ devsOf w' x = devsOf w x := ⟨fun h1 => absurd h1 h0, by (have e0 : x.dn = 0 := (by omega)); simp [devsOf, e0]⟩
    exact ⟨⟨h1, fun h1 => absurd h1 h0⟩, h2⟩
def intV (l : List Int) : List Value := l.map (Value.int .i64)
theorem infoI : (Try.prog.info? 3).map (fun i => (i.zero, i.size, i.bytes)) = some (some (.int .i64 0), 1, 8) := by kernel_rfl
theorem eqNilI (ao : Option Addr) (n c : Nat) (w : World) : Sem.run Try.prog (binOp BinOp.eql 57 (.slice ao n c) (.slice none 0 0)) w = .ok (.bool ao.isNone) w := Lib.run_eql_slice_nil w _ _ ao n c 0 0 Try.underlying57
theorem devs_len (w : World) (x : RV) : (devsOf w x).length = x.dn := by simp [devsOf]
/-- They lie in a block from K on. -/
def DevsFrom (K : Nat) (x : RV) : Prop := 0 < x.dn → ∃ g, x.da = some ⟨g, 0, none⟩ ∧ K ≤ g
theorem own_devs {w : World} {base : Nat} {v : Value} {x : RV} {l : List Int} (hl : l.length = x.dn) (h : w.ownsRow base 3 1 v l.length (intV l)) : ∃ a c, v = .slice a x.dn c ∧ DevOwn w { x with da := a, dc := c } ∧ devsOf w { x with da := a, dc := c } = l ∧ DevsFrom base { x with da := a, dc := c } := by
  rcases h.2 with ⟨hv, hn⟩ | ⟨g, cap, cur, hv, hb, hg, hc1, hc2, _, ht⟩
  · have h0 : x.dn = 0 := by omega
    refine ⟨none, 0, by rw [hv, h0], ⟨fun h1 => ?_, fun h1 => ?_⟩, ?_, fun h1 => ?_⟩
    · simp only at h1; omega
    · simp only at h1; omega
    · have : l = [] := List.eq_nil_of_length_eq_zero (by omega)
      subst this
      simp [devsOf, h0]
    · simp only at h1; omega
  · have hglt : g < w.heap.size := (Array.getElem?_eq_some_iff.1 hg).1
    have hc : ∀ k, k < x.dn → w.cell? ⟨g, k, none⟩ = some (.int .i64 (l.getD k 0)) := fun k hk => by
      have hx : (intV l)[k]? = some (.int .i64 (l.getD k 0)) := by
        have : k < l.length := by omega
        simp [intV, this]
      rw [← ht, List.getElem?_take] at hx
      split at hx
      · have hcu : cur[k]? = some (.int .i64 (l.getD k 0)) := by simpa using hx
        unfold World.cell?
        rw [hg]
        simp only
        exact hcu
      · cases hx
    have hd : ∀ k, k < x.dn → devAt w { x with da := some ⟨g, 0, none⟩, dc := cap } k = l.getD k 0 := fun k hk => by
      unfold devAt
      simp only
      rw [Addr.add_lit, Nat.zero_add, hc k hk]
    refine ⟨some ⟨g, 0, none⟩, cap, by rw [hv, hl], ⟨fun _ => ⟨g, 0, rfl, hglt, fun k hk => ?_⟩, fun _ => ⟨g, cur, _, rfl, hg⟩⟩, ?_, fun _ => ⟨g, rfl, hb⟩⟩
    · rw [Nat.zero_add, hc k hk, hd k hk]
    · unfold devsOf
      apply List.ext_getElem
      · simp [hl]
      · intro i h1 h2
        have hi : i < x.dn := by simpa using h1
        simp only [List.getElem_map, List.getElem_range]
        rw [hd i hi]
        simp [h2]
set_option maxRecDepth 100000 in
set_option maxHeartbeats 1000000 in
theorem cloneInts_at (a : Addr) (c : Nat) (l : List Int) (w : World) (hc : ∀ j u, (intV l)[j]? = some u → w.cell? (a.add j) = some u) (hl : l.length ≤ 1000) :
    Calls Try.prog 151 #[.slice (some a) l.length c] w fun e w' => ∃ v, e = .returned v ∧ w'.ownsRow w.heap.size 3 1 v l.length (intV l) ∧ Below w.heap.size w w' := by
  obtain ⟨i0, hi, hz0, hz1, hz2⟩ := info_parts infoI
  have h1 : ∀ u ∈ intV l, u.oneCell' = true := by
    intro u hu
    simp [intV] at hu
    obtain ⟨n, _, rfl⟩ := hu
    rfl
  have HB := hideIt ((Below.refl w.heap.size w).alloc (Nat.le_refl _) (.cells #[] 3))
  have HC : Hid (∀ j u, (intV l)[j]? = some u → (w.alloc (.cells #[] 3)).cell? (a.add j) = some u) := fun j u hj => Lib.cell?_alloc_some _ (hc j u hj)
  have hnil := eqNilI (some a) l.length c w
  have hlen : (intV l).length = l.length := by simp [intV]
  clear hc
  go_enter Try.func151, Try.ntmps151
  go_wp2_with (at_builtin; (refine wpList_append_own _ rfl _ _ 57 rfl w.heap.size 3 i0 (.int .i64 0) 1 8 Try.underlying57 hi hz0 hz1 hz2 rfl (by decide) _ _ _ rfl (World.ownsRow_lit w #[] 0 (Nat.le_refl _) (Nat.zero_le _) rfl) a l.length c (intV l) rfl (by rw [hlen, Nat.mul_one]) HC.out h1 (by unfold maxLen; omega) (by omega) (by simp) ?_); intro v' w1 hown' hgrow' _)
  have hB1 := hideIt (HB.out.grown hgrow' (by simp) (fun j hj => by cases hj; exact Nat.le_refl _))
  rw [Nat.zero_add] at hown'
  have hD : Hid (w1.ownsRow w.heap.size 3 1 v' l.length (intV l)) := by simpa [Hid] using hown'
  clear hown' hgrow'
  go_wp2_with fail
  go_ret
  exact ⟨_, rfl, hD.out, hB1.out⟩
set_option maxRecDepth 100000 in
set_option maxHeartbeats 1000000 in
theorem cloneDevs_any (x : RV) (w : World) (h : DevsOk w x) (hn : x.dn ≤ 1000) :
    Calls Try.prog 151 #[.slice x.da x.dn x.dc] w fun e w' => ∃ a c, e = .returned (.slice a x.dn c) ∧ DevOwn w' { x with da := a, dc := c } ∧ devsOf w' { x with da := a, dc := c } = devsOf w x ∧ DevsFrom w.heap.size { x with da := a, dc := c } ∧ Below w.heap.size w w' := by
  have hdl := devs_len w x
  rcases hda : x.da with _ | a
  · have h0 : x.dn = 0 := by
      rcases Nat.eq_zero_or_pos x.dn with e | e
      · exact e
      · obtain ⟨g, o, ha, _⟩ := h e
        rw [hda] at ha; cases ha
    have hnil := eqNilI none 0 x.dc w
    rw [h0]
    go_enter Try.func151, Try.ntmps151
    go_wp2_with fail
    go_ret
    exact ⟨none, 0, rfl, ⟨fun h1 => by simp only at h1; omega, fun h1 => by simp only at h1; omega⟩, by simp [devsOf, h0], fun h1 => by simp only at h1; omega, Below.refl _ _⟩
  · have hc := cloneInts_at a x.dc (devsOf w x) w (fun j u hj => by
      have hj' : j < x.dn := by
        have := (List.getElem?_eq_some_iff.1 hj).1
        simp [intV, hdl] at this
        exact this
      obtain ⟨g, o, ha, _, hcs⟩ := h (by omega)
      rw [hda] at ha
      cases ha
      rw [Addr.add_lit, hcs j hj', ← hj]
      simp [intV, devsOf, hj']) (by omega)
    rw [hdl] at hc
    refine hc.mono fun e w' ⟨v, he, ho, hb⟩ => ?_
    obtain ⟨a', c', rfl, h1, h2, h3⟩ := own_devs (x := x) hdl (by rw [hdl]; exact ho)
    exact ⟨a', c', he, h1, h2, h3, hb⟩
end Go.Proofs.Ythekalhceamcoaa
