/- One round of 'EngineSays': what it comes to, act by act. -/
import Derived.Test.YthekalhceamcoaaRN2
namespace Go.Proofs.Ythekalhceamcoaa
open Go.RowKit
open Qos (cmpS ltS orI)
/-- What a round starts and ends with. -/
def Rnd (w : World) (s : Nat) (wr : World) (v : Value) (k : Nat) : Prop := ∃ (l : Int) (d : Bool) (fu : Int) (rd : Bool) (n : Nat) (xs rs : List RV), EInv w s wr v k l d fu rd n xs rs ∧ Syn l d fu rd ∧ (xs.map (absR wr)).Perm (rs.map (absR wr))
theorem Rnd.below {w : World} {s : Nat} {wr wr' : World} {v : Value} {k : Nat} (h : Rnd w s wr v k) (hb : Below wr.heap.size wr wr') : Rnd w s wr' v k := by
  obtain ⟨l, d, fu, rd, n, xs, rs, hI, hs, hp⟩ := h
  have hI' := hI.below hb
  exact ⟨l, d, fu, rd, n, xs, rs, hI', hs, by rw [hI.rsmap hI'.bel hb.size, hI.xsmap (KInt.below hb)]; exact hp⟩
theorem Rnd.list {w : World} {s : Nat} {W : World} {v : Value} {k : Nat} (h : Rnd w s W v k) (hk : k ≤ 60) :
    Calls Try.prog 81 #[.pointer (some ⟨s + 2, 0, none⟩)] W fun e w' => (∃ v1, e = .returned v1 ∧ Calls Try.prog 80 #[v1, v] w' fun e w'' => e = .returned (.bool true) ∧ Below w'.heap.size w' w'') ∧ Below W.heap.size W w' := by
  obtain ⟨l, d, fu, rd, n, xs, rs, hI, hs, hp⟩ := h
  have hlen : xs.length = rs.length := by simpa using hp.length_eq
  have hlk := hI.lk
  refine (list_anyR (s + 2) s (s + 1) n xs W hI.eng hI.map (by omega) (fun x hx => ⟨(hI.xsok x hx).1.1, by have := (hI.xsok x hx).2; omega⟩)).mono ?_
  rintro e w' ⟨⟨v1, ys, rfl, hr, hy, hpy, ho⟩, hb⟩
  have hI' := hI.below hb
  refine ⟨⟨v1, rfl, ?_⟩, hb⟩
  have hpy2 : (ys.map (absR w')).Perm (rs.map (absR w')) := by rw [hI.rsmap hI'.bel hb.size]; exact hpy.trans hp
  have hyl : ys.length = rs.length := by simpa using hpy2.length_eq
  exact sameRuns_any _ _ v1 v ys rs w' hr hI'.row.read hy (fun z hz => (hI'.rsok z hz).2.1) (order_uniq hpy2 ho hI'.asc) (by omega)
section
variable {w : World} {s : Nat} {wr w6 w7 : World} {v : Value} {k : Nat} {l : Int} {d : Bool} {fu : Int} {rd : Bool} {n : Nat} {xs rs : List RV}
/-- The statement's own disk has stepped. -/
theorem EInv.stepped (h : EInv w s wr v k l d fu rd n xs rs) (hpm : (xs.map (absR wr)).Perm (rs.map (absR wr))) {fu' : Int} {rd' : Bool} (ho : Only (s + 3) wr w6) (hr : RefZ w6 (s + 3) fu' rd') (hf : -9223372036854775808 ≤ fu' ∧ fu' ≤ 9223372036854775807) :
    EInv w s w6 v k l d fu' rd' n xs rs ∧ (xs.map (absR w6)).Perm (rs.map (absR w6)) := by
  obtain ⟨hb, hk⟩ := h.kref ho
  refine ⟨h.refd ho hr hf, ?_⟩
  rw [h.rsmap hb (Nat.le_of_eq ho.2.symm), h.xsmap hk]
  exact hpm
/-- Behind a turn that changed nothing that runs. -/
theorem EInv.quiet (h : EInv w s w6 v k l d fu rd n xs rs) (hpm : (xs.map (absR w6)).Perm (rs.map (absR w6))) {l' : Int} {d' : Bool} (ho : OutR s (s + 1) w6 w7) (hd : DiskZ w7 s l' d') (hl : -9223372036854775808 ≤ l' ∧ l' ≤ 9223372036854775807) (hm : MapR w7 (s + 1) n xs) (hsy : Syn l' d' fu rd) : Rnd w s w7 v (k + 1) := by
  obtain ⟨hb, hk⟩ := h.kout ho
  have hnk := h.nk
  refine ⟨l', d', fu, rd, n, xs, rs, h.turn ho hd hl hm (by omega) (fun x hx => (devOwn_keep (h.xsok x hx) hk).1), hsy, ?_⟩
  rw [h.rsmap hb ho.size, h.xsmap hk]
  exact hpm
theorem EInv.restart (h : EInv w s w6 v k l d fu rd n xs rs) (hpm : (xs.map (absR w6)).Perm (rs.map (absR w6))) {l' : Int} {d' : Bool} (ho : Only s w6 w7) (hd : DiskZ w7 s l' d') (hl : -9223372036854775808 ≤ l' ∧ l' ≤ 9223372036854775807) : EInv w s w7 v (k + 1) l' d' fu rd n xs rs ∧ (xs.map (absR w7)).Perm (rs.map (absR w7)) := by
  have ho' : OutR s (s + 1) w6 w7 := OutR.of_grown ho.1 (.inl rfl)
  obtain ⟨hb, hk⟩ := h.kout ho'
  have hnk := h.nk
  refine ⟨h.turn ho' hd hl (h.map.block (ho.1.block (s + 1) h.map.lt (fun e => by have := Option.some.inj e; omega))) (by omega) (fun x hx => (devOwn_keep (h.xsok x hx) hk).1), ?_⟩
  rw [h.rsmap hb ho'.size, h.xsmap hk]
  exact hpm
theorem has_same (hp : (xs.map (absR wr)).Perm (rs.map (absR wr))) (p c : ByteArray) : (xs.any fun y => decide (y.pod = p ∧ y.cont = c)) = rs.any fun y => decide (y.pod = p ∧ y.cont = c) := by
  rw [any_abs wr, any_abs wr, Bool.eq_iff_iff, List.any_eq_true, List.any_eq_true]
  exact ⟨fun ⟨a, h1, h2⟩ => ⟨a, hp.mem_iff.1 h1, h2⟩, fun ⟨a, h1, h2⟩ => ⟨a, hp.mem_iff.2 h1, h2⟩⟩
/-- Behind a start that went well: it is in the map, and not yet in the list. -/
theorem EInv.started (h : EInv w s w6 v k l d fu rd n xs rs) (hpm : (xs.map (absR w6)).Perm (rs.map (absR w6))) {x : RV} (hx : ArgRun w w6 x) {l' : Int} {d' : Bool} (ho : OutR s (s + 1) w6 w7) (hd : DiskZ w7 s l' d') (hl : -9223372036854775808 ≤ l' ∧ l' ≤ 9223372036854775807) {a : Option Addr} {c : Nat} (hm : MapR w7 (s + 1) (n + 1) ({ x with da := a, dc := c } :: xs)) (hw : DevOwn w7 { x with da := a, dc := c }) (hv : devsOf w7 { x with da := a, dc := c } = devsOf w6 x) :
    EInv w s w7 v (k + 1) l' d' fu rd (n + 1) ({ x with da := a, dc := c } :: xs) rs ∧ ArgRun w w7 x ∧ (({ x with da := a, dc := c } :: xs).map (absR w7)).Perm ((x :: rs).map (absR w7)) := by
  obtain ⟨hb, hk⟩ := h.kout ho
  have hnk := h.nk
  obtain ⟨hx7, he7⟩ := argRun_keep hx h.bel hb ho.size
  refine ⟨h.turn ho hd hl hm (by omega) (fun y hy => ?_), hx7, ?_⟩
  · rcases List.mem_cons.1 hy with rfl | hy
    · exact ⟨hw, hx.2.2.1⟩
    · exact (devOwn_keep (h.xsok y hy) hk).1
  · rw [List.map_cons, List.map_cons, h.rsmap hb ho.size, h.xsmap hk]
    have e : absR w7 { x with da := a, dc := c } = absR w7 x := by
      rw [he7]
      unfold absR
      rw [hv]
    rw [e]
    exact hpm.cons _
/-- The list, put in order: behind the inner loop. -/
theorem EInv.listed (h : EInv w s w6 v (k + 1) l d fu rd n xs rs) {x : RV} (hx : ArgRun w w6 x) (hpm : (xs.map (absR w6)).Perm ((x :: rs).map (absR w6))) (hk1 : rs.length ≤ k) {v' : Value} {rs' : List RV} (hb : Below (s + 5) w6 w7) (hki : KInt w6 w7) (hr : RRow (s + 5) w7 v' rs') (ha : Asc rs') (hp : rs'.Perm (x :: rs)) (hsy : Syn l d fu rd) : Rnd w s w7 v' (k + 1) := by
  have hws := h.ws
  have hbw : Below w.heap.size w w7 := h.bel.trans (hb.mono (by omega))
  have hl : rs'.length = rs.length + 1 := by rw [hp.length_eq]; rfl
  have hall : ∀ y ∈ x :: rs, ArgRun w w7 y ∧ absR w7 y = absR w6 y := fun y hy => by
    rcases List.mem_cons.1 hy with rfl | hy
    · exact argRun_keep hx h.bel hbw hb.size
    · exact argRun_keep (h.rsok y hy) h.bel hbw hb.size
  refine ⟨l, d, fu, rd, n, xs, rs', h.list hb hki hr ha (by omega) (fun y hy => (hall y (hp.mem_iff.1 hy)).1), hsy, ?_⟩
  rw [h.xsmap hki]
  refine hpm.trans ?_
  rw [show (x :: rs).map (absR w6) = (x :: rs).map (absR w7) from List.map_congr_left fun y hy => (hall y hy).2.symm]
  exact (hp.map _).symm
/-- Behind a stop that went well. -/
theorem EInv.stopped (h : EInv w s w6 v k l d fu rd n xs rs) (hpm : (xs.map (absR w6)).Perm (rs.map (absR w6))) {p c : ByteArray} {l' : Int} {d' : Bool} (ho : OutR s (s + 1) w6 w7) (hd : DiskZ w7 s l' d') (hl : -9223372036854775808 ≤ l' ∧ l' ≤ 9223372036854775807) (hm : MapR w7 (s + 1) n (xs.filter fun x => !decide (x.pod = p ∧ x.cont = c))) {j : Nat} (hj : j < rs.length) (he : (rv rs j).pod = p ∧ (rv rs j).cont = c) :
    EInv w s w7 v (k + 1) l' d' fu rd n (xs.filter fun x => !decide (x.pod = p ∧ x.cont = c)) rs ∧ ((xs.filter fun x => !decide (x.pod = p ∧ x.cont = c)).map (absR w7)).Perm ((rs.eraseIdx j).map (absR w7)) := by
  obtain ⟨hb, hk⟩ := h.kout ho
  have hnk := h.nk
  refine ⟨h.turn ho hd hl hm (by omega) (fun y hy => (devOwn_keep (h.xsok y (List.mem_filter.1 hy).1) hk).1), ?_⟩
  rw [filter_abs, ← erase_filter h.asc hj he, h.rsmap hb ho.size, h.xsmap hk]
  exact hpm.filter _
theorem EInv.erased (h : EInv w s w6 v (k + 1) l d fu rd n xs rs) {j : Nat} (hpm : (xs.map (absR w6)).Perm ((rs.eraseIdx j).map (absR w6))) {v' : Value} (hb : Below (s + 5) w6 w7) (hki : KInt w6 w7) (hr : RRow (s + 5) w7 v' (rs.eraseIdx j)) (hsy : Syn l d fu rd) : Rnd w s w7 v' (k + 1) := by
  have hws := h.ws
  have hlk := h.lk
  have hbw : Below w.heap.size w w7 := h.bel.trans (hb.mono (by omega))
  have hsub : ∀ y ∈ rs.eraseIdx j, y ∈ rs := fun y hy => (List.eraseIdx_sublist rs j).subset hy
  refine ⟨l, d, fu, rd, n, xs, rs.eraseIdx j, h.list hb hki hr (asc_erase h.asc j) (Nat.le_trans (List.eraseIdx_sublist rs j).length_le hlk) (fun y hy => (argRun_keep (h.rsok y (hsub y hy)) h.bel hbw hb.size).1), hsy, ?_⟩
  rw [h.xsmap hki]
  refine hpm.trans ?_
  rw [show (rs.eraseIdx j).map (absR w6) = (rs.eraseIdx j).map (absR w7) from List.map_congr_left fun y hy => (argRun_keep (h.rsok y (hsub y hy)) h.bel hbw hb.size).2.symm]
end
theorem grow_row {base : Nat} {w w' : World} {v : Value} {ys : List RV} (h : RRow base w v ys) (hg : w.grownBy w' v.ownBlock) (hbase : base ≤ w.heap.size) : KInt w w' ∧ Below base w w' := by
  have hlt := World.ownsRow.lt h
  refine ⟨?_, (Below.refl base w).grown hg hbase (fun i hi => (hlt i hi).1)⟩
  rcases h.2 with ⟨rfl, _⟩ | ⟨g, cap, cur, rfl, _, hgb, _⟩
  · refine ⟨hg.size, fun j arr z hj => hg.block j (Array.getElem?_eq_some_iff.1 hj).1 (by simp [Value.ownBlock])⟩
  · exact KInt.grown (b := g) hg (fun arr z e => by have := hgb.symm.trans e; simp at this)
theorem cfR_iff (x y : RV) : cfR x y < 0 ↔ (ltS x.pod y.pod = true ∨ (x.pod = y.pod ∧ ltS x.cont y.cont = true)) := by
  rw [cfR_lt]
  have h1 := Qos.ltS_asymm x.pod y.pod
  have h2 := Qos.ltS_total x.pod y.pod
  have h3 : x.pod = y.pod → ltS x.pod y.pod = ltS y.pod x.pod := fun e => by rw [e]
  unfold Qos.one at *
  generalize ltS x.pod y.pod = p at *
  generalize ltS y.pod x.pod = q at *
  generalize ltS x.cont y.cont = r at *
  cases p <;> cases q <;> cases r <;> simp_all
theorem cfR_no {x y : RV} (hne : ¬ (y.pod = x.pod ∧ y.cont = x.cont)) (h : ¬ cfR x y < 0) : cfR y x < 0 := by
  rcases cfR_tri x y with h1 | ⟨h1, h2⟩ | h1
  · exact absurd h1 h
  · exact absurd ⟨h1.symm, h2.symm⟩ hne
  · exact h1
/-- A part of a row, as it is appended. -/
theorem part_cells {base : Nat} {W : World} {g n cap : Nat} {ys : List RV} (h : RRow base W (.slice (some ⟨g, 0, none⟩) n cap) ys) (a b : Nat) (hab : a + b ≤ ys.length) (off : Nat) (hoff : off = a * 4) : ∀ j u, (((ys.drop a).take b).flatMap RV.cells)[j]? = some u → W.cell? ((⟨g, off, none⟩ : Addr).add j) = some u := by
  subst hoff
  intro j u hu
  rw [Addr.add_lit]
  have hlen : (((ys.drop a).take b).flatMap RV.cells).length = b * 4 := by rw [cells_len, List.length_take, List.length_drop]; omega
  have hj : j < b * 4 := by have := (List.getElem?_eq_some_iff.1 hu).1; omega
  obtain ⟨_, _, hv, _, hrr⟩ := h.read
  cases hv
  obtain ⟨g', hg', _, _, hcs⟩ := hrr (by omega)
  cases hg'
  have hq : j = j / 4 * 4 + j % 4 := by omega
  have hq4 : j % 4 < 4 := by omega
  have hqb : j / 4 < b := by omega
  rw [hq, cells_at _ _ (by rw [List.length_take, List.length_drop]; omega) _ hq4] at hu
  have hrv : rv ((ys.drop a).take b) (j / 4) = rv ys (a + j / 4) := by
    simp [rv, List.getD_eq_getElem?_getD, List.getElem?_take_of_lt hqb]
  rw [hrv] at hu
  obtain ⟨⟨x0, x1, x2, x3⟩, _⟩ := hcs (a + j / 4) (by omega)
  have hoff : a * 4 + j = (a + j / 4) * 4 + j % 4 := by omega
  rw [hoff]
  generalize j % 4 = r at *
  match r, hq4 with
  | 0, _ => simp [RV.cells] at hu; rw [← hu]; exact x0
  | 1, _ => simp [RV.cells] at hu; rw [← hu]; exact x1
  | 2, _ => simp [RV.cells] at hu; rw [← hu]; exact x2
  | 3, _ => simp [RV.cells] at hu; rw [← hu]; exact x3
theorem runs_one (ys : List RV) : ∀ u ∈ ys.flatMap RV.cells, u.oneCell' = true := by
  intro u hu
  obtain ⟨y, _, hy⟩ := List.mem_flatMap.1 hu
  simp [RV.cells] at hy
  rcases hy with rfl | rfl | rfl | rfl <;> rfl
end Go.Proofs.Ythekalhceamcoaa
