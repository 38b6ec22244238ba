/- Pods that are few; rows of pods and groups: contracts, and what lies in them. -/
import Derived.Test.YthekalhceamcoaaQG4
import Derived.Test.YthekalhceamcoaaQTop1
namespace Go.Proofs.Ythekalhceamcoaa
open Go.RowKit
open Qos (Nd Ct Pd nd0 ct0 pd0 nd ct pd classOf sumM sumB Mild Gp gp0 gp podF upTo groups)
/-- It answers yes or no; yes, if there are few. -/
def AnsFew (n : Nat) (e : Ending) : Prop := ∃ b, e = .returned (.bool b) ∧ (b = true → n ≤ 16)
set_option maxRecDepth 100000 in
set_option maxHeartbeats 2000000 in
theorem lightPods_any (v : Value) (ps : List Pd) (w : World) (h : PodsAt w v ps) : Calls Try.prog 44 #[v] w fun e w' => AnsFew ps.length e ∧ Below w.heap.size w w' := by
  obtain ⟨ao, c, rfl, hm, hr⟩ := h
  have HR := hideIt hr
  clear hr hm
  by_cases h16 : 16 < ps.length
  · go_enter Try.func44, Try.ntmps44
    go_wp2_with fail
    go_ret
    exact ⟨⟨_, rfl, fun h => by cases h⟩, Below.refl _ _⟩
  have hl : ps.length ≤ 16 := by omega
  have hd : decide (16 < (ps.length : Int)) = false := decide_eq_false (by omega)
  clear h16
  go_enter Try.func44, Try.ntmps44
  go_wp2_with fail
  go_loopw [3] (fun i wr => ∃ k : Nat, k ≤ ps.length ∧ i = .int .i64 k ∧ Below w.heap.size w wr) (fun i _ => ps.length - (intOf i).toNat)
  case atStart => exact ⟨0, by omega, rfl, Below.refl _ _⟩
  case round =>
    obtain ⟨k, hk, rfl, hB⟩ := hrel
    by_cases hlt : k < ps.length
    · obtain ⟨b, o, cv, rfl, hin⟩ := HR.out (by omega)
      have hin := hin.below hB
      obtain ⟨c0, c1, c2, hcn⟩ := hin.at hlt
      have HL := hideIt (light_of hcn)
      have HB := hideIt hB
      have hsl := hcn.slice
      unfold podV at HL
      clear hin hcn hB
      generalize pd ps k = x at *
      generalize cv k = d at *
      obtain ⟨da, dn, dc, rfl⟩ := hsl
      go_wp2_with fail
      refine HL.out.mono ?_
      rintro e w1 ⟨⟨b1, rfl⟩, hb1⟩
      have HB1 := hideIt (HB.out.trans (hb1.mono HB.out.size))
      clear hb1 HB
      rcases two b1 with e1 | e1
      · subst e1
        go_wp2_with fail
        go_roundw
        case rel => exact ⟨k + 1, by omega, by go_num, HB1.out⟩
        case measure => simp [intOf]; omega
      · subst e1
        go_wp2_with fail
        go_ret
        exact ⟨⟨_, rfl, fun h => by cases h⟩, HB1.out⟩
    · have hke : k = ps.length := by omega
      subst hke
      have HB1 := hideIt hB
      clear hB
      go_wp2_with fail
      go_ret
      exact ⟨⟨_, rfl, fun _ => hl⟩, HB1.out⟩
/-- A row's own cells. -/
theorem own_cells {w : World} {base : Nat} {e : TypeId} {size : Nat} {v : Value} {n : Nat} {xs : List Value} (h : w.ownsRow base e size v n xs) (h0 : 0 < n) :
    ∃ g cap, v = .slice (some ⟨g, 0, none⟩) n cap ∧ n ≤ cap ∧ cap ≤ maxLen ∧ base ≤ g ∧ g < w.heap.size ∧ ∀ i u, xs[i]? = some u → w.cell? ⟨g, i, none⟩ = some u := by
  rcases h.2 with ⟨_, hn⟩ | ⟨g, cap, cur, hv, hb, hg, hc1, hc2, _, ht⟩
  · omega
  · refine ⟨g, cap, hv, hc1, hc2, hb, ?_, fun i u hu => ?_⟩
    · rcases Nat.lt_or_ge g w.heap.size with hlt | hge
      · exact hlt
      · rw [Array.getElem?_eq_none hge] at hg; cases hg
    · rw [← ht, List.getElem?_take] at hu
      split at hu
      · rename_i hi
        have hc : cur[i]? = some u := by simpa using hu
        unfold World.cell?
        rw [hg]
        simp [hc]
      · cases hu
/-- The cells of pods. -/
def prV (l : List (Pd × Value)) : List Value := l.flatMap fun x => [.string x.1.nm, .int .i64 x.1.pr, x.2]
theorem prV_len (l : List (Pd × Value)) : (prV l).length = l.length * 3 := by
  induction l with
  | nil => rfl
  | cons g l ih => rw [prV, List.flatMap_cons, List.length_append, ← prV, ih]; simp; omega
theorem prV_snoc (l : List (Pd × Value)) (x : Pd × Value) : prV (l ++ [x]) = prV l ++ [.string x.1.nm, .int .i64 x.1.pr, x.2] := by simp [prV]
theorem prV_at (l : List (Pd × Value)) : ∀ k, (h : k < l.length) → (prV l)[k * 3]? = some (.string l[k].1.nm) ∧ (prV l)[k * 3 + 1]? = some (.int .i64 l[k].1.pr) ∧ (prV l)[k * 3 + 2]? = some l[k].2 := by
  induction l with
  | nil => intro k h; simp at h
  | cons x l ih =>
    intro k h
    rw [prV, List.flatMap_cons, ← prV]
    match k, h with
    | 0, _ => exact ⟨rfl, rfl, rfl⟩
    | k + 1, h =>
      have := ih k (by simpa using h)
      rw [show (k + 1) * 3 = k * 3 + 3 by omega]
      simpa using this
theorem gsV_at (l : List Gp) : ∀ k, k < l.length → (gsV l)[k * 4]? = some (.string (gp l k).path) ∧ (gsV l)[k * 4 + 1]? = some (.int .i64 (gp l k).sh) ∧ (gsV l)[k * 4 + 2]? = some (.int .i64 (gp l k).qu) ∧ (gsV l)[k * 4 + 3]? = some (.int .i64 (gp l k).by') := by
  induction l with
  | nil => intro k h; simp at h
  | cons x l ih =>
    intro k h
    rw [gsV, List.flatMap_cons, ← gsV]
    match k, h with
    | 0, _ => exact ⟨rfl, rfl, rfl, rfl⟩
    | k + 1, h =>
      have := ih k (by simpa using h)
      rw [show (k + 1) * 4 = k * 4 + 4 by omega]
      simpa [gp, gcells] using this
/-- A row of groups that is read. -/
def GroupsAt (w : World) (v : Value) (l : List Gp) : Prop :=
  ∃ ao c, v = .slice ao l.length c ∧ (0 < l.length → ∃ g, ao = some ⟨g, 0, none⟩ ∧ g < w.heap.size ∧ ∀ k, k < l.length → w.cell? ⟨g, k * 4, none⟩ = some (.string (gp l k).path) ∧ w.cell? ⟨g, k * 4 + 1, none⟩ = some (.int .i64 (gp l k).sh) ∧ w.cell? ⟨g, k * 4 + 2, none⟩ = some (.int .i64 (gp l k).qu) ∧ w.cell? ⟨g, k * 4 + 3, none⟩ = some (.int .i64 (gp l k).by'))
theorem GRow.read {base : Nat} {w : World} {v : Value} {l : List Gp} (h : GRow base w v l) (h0 : 0 < l.length) : GroupsAt w v l := by
  obtain ⟨g, cap, hv, _, _, _, hlt, hc⟩ := own_cells h h0
  refine ⟨_, cap, hv, fun _ => ⟨g, rfl, hlt, fun k hk => ?_⟩⟩
  obtain ⟨h1, h2, h3, h4⟩ := gsV_at l k hk
  exact ⟨hc _ _ h1, hc _ _ h2, hc _ _ h3, hc _ _ h4⟩
theorem GroupsAt.below {w w' : World} {v : Value} {l : List Gp} (h : GroupsAt w v l) (hb : Below w.heap.size w w') : GroupsAt w' v l := by
  obtain ⟨ao, c, hv, hr⟩ := h
  refine ⟨ao, c, hv, fun h0 => ?_⟩
  obtain ⟨g, ha, hlt, hc⟩ := hr h0
  refine ⟨g, ha, Nat.lt_of_lt_of_le hlt hb.size, fun k hk => ?_⟩
  obtain ⟨h1, h2, h3, h4⟩ := hc k hk
  exact ⟨(hb.cell (p := ⟨g, k * 4, none⟩) hlt).trans h1, (hb.cell (p := ⟨g, k * 4 + 1, none⟩) hlt).trans h2, (hb.cell (p := ⟨g, k * 4 + 2, none⟩) hlt).trans h3, (hb.cell (p := ⟨g, k * 4 + 3, none⟩) hlt).trans h4⟩
/-- Pods that may be, in a row of its own. -/
def GoodRow (W w : World) (v : Value) (l : List (Pd × Value)) : Prop :=
  w.ownsRow W.heap.size 60 3 v l.length (prV l) ∧ ∀ x ∈ l, podF x.1 = 0 ∧ ConsAt W x.2 x.1.cs
theorem GoodRow.nil (W w : World) : GoodRow W w (.slice none 0 0) [] := ⟨World.ownsRow_nil _ _ _ _, fun x hx => by simp at hx⟩
theorem GoodRow.below {W w w' : World} {v : Value} {l : List (Pd × Value)} (h : GoodRow W w v l) (hb : Below w.heap.size w w') : GoodRow W w' v l :=
  ⟨World.ownsRow.kept (row := none) h.1 ⟨hb.os, hb.tape, hb.output, hb.size, fun j hj _ => hb.block j hj⟩ (by cases hv : v.ownBlock <;> simp), h.2⟩
theorem GoodRow.push {W w : World} {v : Value} {l : List (Pd × Value)} {x : Pd × Value} (h : w.ownsRow W.heap.size 60 3 v (l.length + 1) (prV l ++ [.string x.1.nm, .int .i64 x.1.pr, x.2])) (hl : ∀ x ∈ l, podF x.1 = 0 ∧ ConsAt W x.2 x.1.cs) (hx : podF x.1 = 0 ∧ ConsAt W x.2 x.1.cs) : GoodRow W w v (l ++ [x]) := by
  refine ⟨?_, fun y hy => ?_⟩
  · rw [prV_snoc, List.length_append]; exact h
  · rw [List.mem_append, List.mem_singleton] at hy
    rcases hy with hy | rfl
    · exact hl y hy
    · exact hx
theorem GoodRow.pods {W w : World} {v : Value} {l : List (Pd × Value)} (h : GoodRow W w v l) (hb : Below W.heap.size W w) : PodsAt w v (l.map Prod.fst) := by
  by_cases h0 : 0 < l.length
  · obtain ⟨g, cap, hv, hc1, hc2, _, hlt, hc⟩ := own_cells h.1 h0
    refine ⟨_, cap, by rw [hv, List.length_map], by rw [List.length_map]; omega, fun _ => ⟨g, 0, fun k => (l.getD k (pd0, .nilIface)).2, rfl, hlt, fun k hk => ?_⟩⟩
    have hk' : k < l.length := by simpa using hk
    obtain ⟨h1, h2, h3⟩ := prV_at l k hk'
    have e1 : pd (l.map Prod.fst) k = l[k].1 := by simp [pd, hk']
    have e2 : (l.getD k (pd0, .nilIface)).2 = l[k].2 := by simp [hk']
    show (_ ∧ _ ∧ w.cell? ⟨g, 0 + k * 3 + 2, none⟩ = some (l.getD k (pd0, .nilIface)).2) ∧ ConsAt w (l.getD k (pd0, .nilIface)).2 _
    rw [e1, e2, Nat.zero_add]
    exact ⟨⟨hc _ _ h1, hc _ _ h2, hc _ _ h3⟩, (h.2 l[k] (List.getElem_mem hk')).2.below hb⟩
  · have e : l = [] := List.eq_nil_of_length_eq_zero (by omega)
    subst e
    rcases h.1.2 with ⟨hv, _⟩ | ⟨g, cap, cur, hv, _⟩
    · exact ⟨none, 0, hv, by simp, fun h => by simp at h⟩
    · exact ⟨_, cap, hv, by simp, fun h => by simp at h⟩
theorem name_size {s : ByteArray} (h : Dvs.nameMay s = true) : s.size ≤ 8 := by
  unfold Dvs.nameMay at h
  simp at h
  omega
theorem cont_name {cs : List Ct} {k : Nat} (h : Qos.contF cs k = 0) : (ct cs k).nm.size ≤ 8 := by
  rcases two (Dvs.nameMay (ct cs k).nm) with hn | hn
  · exact name_size hn
  · rw [contF_1 hn] at h; cases h
theorem GoodRow.fit {W w : World} {v : Value} {l : List (Pd × Value)} (h : GoodRow W w v l) (hl : l.length ≤ 16) : Fit (l.map Prod.fst) := by
  refine ⟨by simpa using hl, fun k hk => ?_⟩
  have hk' : k < l.length := by simpa using hk
  have e1 : pd (l.map Prod.fst) k = l[k].1 := by simp [pd, hk']
  rw [e1]
  have hp := (h.2 l[k] (List.getElem_mem hk')).1
  exact ⟨Qos.pod_mild hp, name_size (Qos.pod_len hp).1, fun j hj => cont_name (Dvs.first_all (Qos.pod_len hp).2.2.2 j hj)⟩
theorem new_pod (w : World) (x : Pd) (d : Value) (t : TypeId) : ∀ j u, [Value.string x.nm, .int .i64 x.pr, d][j]? = some u → (w.alloc (.cells #[.string x.nm, .int .i64 x.pr, d] t)).cell? ((⟨w.heap.size, 0, none⟩ : Addr).add j) = some u := by
  intro j u hu
  rw [Addr.add_lit, Nat.zero_add]
  match j, hu with
  | 0, hu => simp at hu; subst hu; simp
  | 1, hu => simp at hu; subst hu; simp
  | 2, hu => simp at hu; subst hu; simp
  | j + 3, hu => simp at hu
theorem infoPod : (Try.prog.info? 60).map (fun i => (i.zero, i.size, i.bytes)) = some (some (.agg #[.string ByteArray.empty, .int .i64 0, .slice none 0 0]), 3, 48) := by kernel_rfl
end Go.Proofs.Ythekalhceamcoaa
