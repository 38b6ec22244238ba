/- What runs, put in order: the contract of slices.SortFunc, slices.SortedFunc. -/
import Derived.Test.YthekalhceamcoaaRK4
import Derived.Shelf.SlSortCmp.NoneTotal
import Derived.Ground.SlsfProg
import Derived.Laws.EntriesVeiled
import Derived.Shelf.Lay
namespace Go.Proofs
open Go.Shelf
def Try.sortRL_ren : Go.Shelf.Ren := ⟨fun | 6 => 153 | 15 => 135 | 14 => 177 | 28 => 171 | 29 => 172 | 20 => 193 | 21 => 194 | 22 => 195 | 23 => 196 | 24 => 197 | 25 => 198 | 26 => 199 | 27 => 200 | 46 => 214 | 47 => 181 | 48 => 182 | 49 => 215 | 50 => 216 | 57 => 221 | n => n, fun | 22 => 117 | 24 => 119 | 25 => 206 | 3 => 3 | 39 => 152 | 0 => 0 | 53 => 241 | 55 => 23 | 4 => 4 | 46 => 235 | 45 => 234 | 50 => 154 | 5 => 5 | 9 => 9 | 66 => 248 | 70 => 252 | 76 => 269 | 77 => 270 | n => n, fun | n => n⟩
theorem Try.sortRL : Go.Proofs.SlLaysF0.n6 Try.prog Try.sortRL_ren := {
  mixed := by kernel_rfl
  f6 := ⟨Try.f153.name, by decide, Try.func153.trans (congrArg some (by kernel_rfl))⟩
  f14 := ⟨Try.f177.name, by decide, Try.func177.trans (congrArg some (by kernel_rfl))⟩
  f15 := Try.func135.trans (congrArg some (by kernel_rfl))
  f20 := ⟨Try.f193.name, by decide, Try.func193.trans (congrArg some (by kernel_rfl))⟩
  f21 := ⟨Try.f194.name, by decide, Try.func194.trans (congrArg some (by kernel_rfl))⟩
  f22 := ⟨Try.f195.name, by decide, Try.func195.trans (congrArg some (by kernel_rfl))⟩
  f23 := ⟨Try.f196.name, by decide, Try.func196.trans (congrArg some (by kernel_rfl))⟩
  f24 := ⟨Try.f197.name, by decide, Try.func197.trans (congrArg some (by kernel_rfl))⟩
  f25 := ⟨Try.f198.name, by decide, Try.func198.trans (congrArg some (by kernel_rfl))⟩
  f26 := ⟨Try.f199.name, by decide, Try.func199.trans (congrArg some (by kernel_rfl))⟩
  f27 := ⟨Try.f200.name, by decide, Try.func200.trans (congrArg some (by kernel_rfl))⟩
  f28 := Try.func171.trans (congrArg some (by kernel_rfl))
  f29 := Try.func172.trans (congrArg some (by kernel_rfl))
  f46 := ⟨Try.f214.name, by decide, Try.func214.trans (congrArg some (by kernel_rfl))⟩
  f47 := Try.func181.trans (congrArg some (by kernel_rfl))
  f48 := Try.func182.trans (congrArg some (by kernel_rfl))
  f49 := ⟨Try.f215.name, by decide, Try.func215.trans (congrArg some (by kernel_rfl))⟩
  f50 := ⟨Try.f216.name, by decide, Try.func216.trans (congrArg some (by kernel_rfl))⟩
  f57 := ⟨Try.f221.name, by decide, Try.func221.trans (congrArg some (by kernel_rfl))⟩
  t0 := Try.underlying0
  a0 := Try.isAgg0
  z0 := Try.sizeOf0
  v0 := Try.zeroValue0
  t3 := Try.underlying3
  a3 := Try.isAgg3
  z3 := Try.sizeOf3
  v3 := Try.zeroValue3
  t4 := Try.underlying4
  a4 := Try.isAgg4
  z4 := Try.sizeOf4
  v4 := Try.zeroValue4
  t5 := Try.underlying5
  a5 := Try.isAgg5
  z5 := Try.sizeOf5
  v5 := Try.zeroValue5
  t9 := Try.underlying9
  a9 := Try.isAgg9
  z9 := Try.sizeOf9
  v9 := Try.zeroValue9
  t22 := Try.underlying117
  a22 := Try.isAgg117
  z22 := Try.sizeOf117
  v22 := Try.zeroValue117
  t25 := Try.underlying206
  a25 := Try.isAgg206
  z25 := Try.sizeOf206
  v25 := Try.zeroValue206
  t39 := Try.underlying152
  a39 := Try.isAgg152
  z39 := Try.sizeOf152
  v39 := Try.zeroValue152
  t45 := Try.underlying234
  a45 := Try.isAgg234
  z45 := Try.sizeOf234
  v45 := Try.zeroValue234
  t46 := Try.underlying235
  a46 := Try.isAgg235
  z46 := Try.sizeOf235
  v46 := Try.zeroValue235
  t50 := Try.underlying154
  a50 := Try.isAgg154
  z50 := Try.sizeOf154
  v50 := Try.zeroValue154
  t53 := Try.underlying241
  a53 := Try.isAgg241
  z53 := Try.sizeOf241
  v53 := Try.zeroValue241
  t55 := Try.underlying23
  a55 := Try.isAgg23
  z55 := Try.sizeOf23
  v55 := Try.zeroValue23
  t66 := Try.underlying248
  a66 := Try.isAgg248
  z66 := Try.sizeOf248
  v66 := Try.zeroValue248
  t70 := Try.underlying252
  a70 := Try.isAgg252
  z70 := Try.sizeOf252
  v70 := Try.zeroValue252
  t76 := Try.underlying269
  a76 := Try.isAgg269
  z76 := Try.sizeOf269
  v76 := Try.zeroValue269
  t77 := Try.underlying270
  a77 := Try.isAgg270
  z77 := Try.sizeOf270
  v77 := Try.zeroValue270 }
end Go.Proofs
namespace Go.Proofs.Ythekalhceamcoaa
open Go.RowKit
open Go.Sort (SWO PermIn SortedIn HoldsK flatK putRowK)
open Qos (cmpS ltS orI)
instance : Inhabited RV := ⟨⟨ByteArray.empty, ByteArray.empty, 0, none, 0, 0⟩⟩
def cfR (x y : RV) : Int := orI (cmpS x.pod y.pod) (cmpS x.cont y.cont)
theorem cfR_lt (x y : RV) : cfR x y < 0 ↔ (Qos.one (ltS x.pod y.pod) = 1 ∨ (Qos.one (ltS x.pod y.pod) = 0 ∧ Qos.one (ltS y.pod x.pod) = 0 ∧ Qos.one (ltS x.cont y.cont) = 1)) := by
  unfold cfR orI cmpS Qos.one
  have h1 := Qos.ltS_asymm x.pod y.pod
  have h2 := Qos.ltS_asymm x.cont y.cont
  unfold Qos.one at h1 h2
  generalize ltS x.pod y.pod = a at *
  generalize ltS y.pod x.pod = b at *
  generalize ltS x.cont y.cont = c at *
  generalize ltS y.cont x.cont = d at *
  cases a <;> cases b <;> cases c <;> cases d <;> simp at *
theorem swoR : SWO (ltOf cfR) where
  irrefl a := by
    refine decide_eq_false ?_
    rw [cfR_lt]
    have := Qos.ltS_irrefl a.pod
    have := Qos.ltS_irrefl a.cont
    omega
  trans a b c h1 h2 := by
    have h1 := of_decide_eq_true h1
    have h2 := of_decide_eq_true h2
    refine decide_eq_true ?_
    rw [cfR_lt] at *
    have o1 := Qos.one_in (ltS a.pod c.pod)
    rcases h1 with h1 | ⟨h1, h1', h1c⟩
    · rcases h2 with h2 | ⟨h2, h2', h2c⟩
      · exact .inl (Qos.ltS_trans _ _ _ h1 h2)
      · rcases o1 with o1 | o1
        · have := Qos.ltS_ntrans a.pod c.pod b.pod o1 h2'
          omega
        · exact .inl o1
    · rcases h2 with h2 | ⟨h2, h2', h2c⟩
      · rcases o1 with o1 | o1
        · have := Qos.ltS_ntrans b.pod a.pod c.pod h1' o1
          omega
        · exact .inl o1
      · exact .inr ⟨Qos.ltS_ntrans _ _ _ h1 h2, Qos.ltS_ntrans _ _ _ h2' h1', Qos.ltS_trans _ _ _ h1c h2c⟩
  ntrans a b c h1 h2 := by
    have h1 := of_decide_eq_false h1
    have h2 := of_decide_eq_false h2
    refine decide_eq_false ?_
    rw [cfR_lt] at *
    have o1 := Qos.one_in (ltS a.pod b.pod)
    have o2 := Qos.one_in (ltS b.pod c.pod)
    have o3 := Qos.one_in (ltS b.pod a.pod)
    have o4 := Qos.one_in (ltS c.pod b.pod)
    have p1 := Qos.one_in (ltS a.cont b.cont)
    have p2 := Qos.one_in (ltS b.cont c.cont)
    have e1 : Qos.one (ltS a.pod b.pod) = 0 := by omega
    have e2 : Qos.one (ltS b.pod c.pod) = 0 := by omega
    rintro (h3 | ⟨h3, h3', h3c⟩)
    · have := Qos.ltS_ntrans a.pod b.pod c.pod e1 e2
      omega
    · have e3 : Qos.one (ltS b.pod a.pod) = 0 := Qos.ltS_ntrans b.pod c.pod a.pod e2 h3'
      have e4 : Qos.one (ltS c.pod b.pod) = 0 := Qos.ltS_ntrans c.pod a.pod b.pod h3' e1
      have := Qos.ltS_ntrans a.cont b.cont c.cont (by omega) (by omega)
      omega
theorem grows_ofR {w w' : World} (hb : Below w.heap.size w w') (hd : w.drawn ≤ w'.drawn) : ∃ q os, w' = Go.Sort.grow (w.drewN q) os := by
  refine ⟨w'.drawn - w.drawn, w'.heap.extract w.heap.size w'.heap.size, ?_⟩
  obtain ⟨h1, h2, h3, h4, h5⟩ := hb
  have hh : w'.heap = w.heap ++ w'.heap.extract w.heap.size w'.heap.size := by
    apply Array.ext_getElem?
    intro i
    by_cases hi : i < w.heap.size
    · rw [Array.getElem?_append_left hi]; exact h5 i hi
    · rw [Array.getElem?_append_right (by omega), Array.getElem?_extract]
      by_cases hj : i < w'.heap.size
      · rw [if_pos (by omega)]
        congr 1
        omega
      · rw [if_neg (by omega)]
        exact Array.getElem?_eq_none (by omega)
  unfold Go.Sort.grow World.drewN
  cases w'
  cases w
  simp only at h1 h2 h3 hd hh
  simp only [World.mk.injEq]
  exact ⟨hh, h2, by omega, h1, h3⟩
theorem grown_sortR (w : World) (blk off m : Nat) (dk : Array RV) (os : Array Obj) : w.grownBy (sortWorldK RV.cells 4 w blk off m dk os) (some blk) := by
  refine ⟨rfl, rfl, rfl, ?_, fun j hj hne => ?_⟩
  · simp [sortWorldK, Go.Sort.grow, putRowK, Go.Sort.putRow, Go.Sort.mapBlock, Go.Sort.ahead]
  · have h2 : blk ≠ j := fun e => hne (by rw [e])
    simp [sortWorldK, Go.Sort.grow, putRowK, Go.Sort.putRow, Go.Sort.mapBlock, Go.Sort.ahead, Array.getElem?_append, Array.getElem_modify, hj, h2]
/-- The cells of one that runs. -/
def RCells (w : World) (g k : Nat) (x : RV) : Prop :=
  (w.cell? ⟨g, k * 4, none⟩ = some (.string x.pod) ∧ w.cell? ⟨g, k * 4 + 1, none⟩ = some (.string x.cont) ∧ w.cell? ⟨g, k * 4 + 2, none⟩ = some (.int .u64 x.cpus) ∧ w.cell? ⟨g, k * 4 + 3, none⟩ = some (.slice x.da x.dn x.dc)) ∧
  (w.frozen? ⟨g, k * 4, none⟩ = false ∧ w.frozen? ⟨g, k * 4 + 1, none⟩ = false ∧ w.frozen? ⟨g, k * 4 + 2, none⟩ = false ∧ w.frozen? ⟨g, k * 4 + 3, none⟩ = false)
def rv (ys : List RV) (k : Nat) : RV := ys.getD k default
/-- A row of what runs that may be written. -/
def RunsAt (base : Nat) (w : World) (v : Value) (ys : List RV) : Prop :=
  ∃ a c, v = .slice a ys.length c ∧ ys.length ≤ c ∧ (0 < ys.length → ∃ g, a = some ⟨g, 0, none⟩ ∧ base ≤ g ∧ g < w.heap.size ∧ ∀ k, k < ys.length → RCells w g k (rv ys k))
theorem cells_at (ys : List RV) (k : Nat) (hk : k < ys.length) (c : Nat) (hc : c < 4) : (ys.flatMap RV.cells)[k * 4 + c]? = (RV.cells (rv ys k))[c]? := by
  induction ys generalizing k with
  | nil => simp at hk
  | cons y l ih =>
    rw [List.flatMap_cons]
    cases k with
    | zero =>
      rw [List.getElem?_append_left (by simp [RV.cells]; omega)]
      simp [rv]
    | succ k =>
      rw [List.getElem?_append_right (by simp [RV.cells]; omega)]
      rw [show (k + 1) * 4 + c - (RV.cells y).length = k * 4 + c by simp [RV.cells]; omega]
      rw [ih k (by simpa using hk)]
      simp [rv]
theorem cells_len (ys : List RV) : (ys.flatMap RV.cells).length = ys.length * 4 := by
  induction ys with
  | nil => rfl
  | cons y l ih => rw [List.flatMap_cons, List.length_append, ih]; simp [RV.cells]; omega
theorem rcells_of {w : World} {g k : Nat} {x : RV} (h : ∀ c, c < 4 → ∀ u, (RV.cells x)[c]? = some u → w.cell? ⟨g, k * 4 + c, none⟩ = some u ∧ w.frozen? ⟨g, k * 4 + c, none⟩ = false) : RCells w g k x := by
  obtain ⟨a0, b0⟩ := h 0 (by omega) _ rfl
  obtain ⟨a1, b1⟩ := h 1 (by omega) _ rfl
  obtain ⟨a2, b2⟩ := h 2 (by omega) _ rfl
  obtain ⟨a3, b3⟩ := h 3 (by omega) _ rfl
  exact ⟨⟨a0, a1, a2, a3⟩, b0, b1, b2, b3⟩
theorem own_runs {base : Nat} {w : World} {v : Value} {ys : List RV} (h : RRow base w v ys) (h0 : 0 < ys.length) : ∃ g cap, v = .slice (some ⟨g, 0, none⟩) ys.length cap ∧ ys.length ≤ cap ∧ base ≤ g ∧ g < w.heap.size ∧ HoldsK RV.cells 4 w g 0 ys.toArray := by
  rcases h.2 with ⟨_, hn⟩ | ⟨g, cap, cur, hv, hb, hg, hc1, hc2, _, ht⟩
  · omega
  · refine ⟨g, cap, hv, hc1, hb, (Array.getElem?_eq_some_iff.1 hg).1, fun j hj => ?_⟩
    rw [Go.Sort.size_flatK] at hj
    rw [Go.Sort.get_flatK _ _ _ _ hj]
    have hk : j / 4 < ys.length := by simp at hj; omega
    have hx := cells_at ys (j / 4) hk (j % 4) (by omega)
    rw [show j / 4 * 4 + j % 4 = j by omega, ← ht, List.getElem?_take] at hx
    have e : ys.toArray[j / 4]! = rv ys (j / 4) := by simp [rv, hk]
    have hl : j % 4 < (RV.cells (rv ys (j / 4))).length := by simp [RV.cells]; omega
    rw [List.getElem?_eq_getElem hl] at hx
    split at hx
    · have hc : cur[j]? = some ((RV.cells (rv ys (j / 4)))[j % 4]) := by simpa using hx
      rw [e, List.getElem!_eq_getElem?_getD, List.getElem?_eq_getElem hl]
      refine ⟨?_, ?_⟩
      · unfold World.cell?; rw [hg]; simp [hc]
      · unfold World.frozen?; rw [hg]; simp
    · cases hx
/-- In order. -/
def InOrder (ys : List RV) : Prop := ys.Pairwise fun x y => ¬ cfR y x < 0
set_option maxHeartbeats 1000000 in
theorem sortRuns_any (ys : List RV) (w : World) (v : Value) (K : Nat) (hrow : RRow K w v ys) (hl : ys.length ≤ 1000) :
    Calls Try.prog 153 #[v, .func (.func 123) #[] #[]] w fun e w' => e = .returned (.tuple #[]) ∧ (∃ qs, RunsAt K w' v qs ∧ qs.Perm ys ∧ InOrder qs) ∧ Below K w w' := by
  by_cases h0 : 0 < ys.length
  · obtain ⟨g, cap, rfl, hc1, hgb, hglt, hH⟩ := own_runs hrow h0
    have hsz : ys.toArray.size = ys.length := by simp
    have eg : ∀ args w, (callFunc 123 args).run Try.prog w = .ok (.enter 123 args) w := enters_of Try.func123 (by kernel_rfl) rfl
    have hcmp : CmpLays Try.prog 123 #[] RV.cells 4 cfR g 0 ys.toArray.size w := by
      intro m os dk _ x y
      exact (cmpRun_any x y _).mono fun e w' ⟨he, hb, hdr⟩ => ⟨he, grows_ofR hb hdr⟩
    have h1 : ∀ x : RV, ∀ v ∈ RV.cells x, v.oneCell' = true := by
      intro x v hv
      simp [RV.cells] at hv
      rcases hv with rfl | rfl | rfl | rfl <;> rfl
    have hSo := AnyQ.slices_SortFunc Try.sortRL 4 Try.isAgg119 Try.sizeOf119 RV.cells (fun _ => rfl) h1 cfR swoR 123 #[] g 0 cap ys.toArray w eg hcmp hH hglt (by simp; omega)
    change Calls Try.prog 153 _ _ _ at hSo
    rw [hsz] at hSo
    refine hSo.mono fun e w' ⟨he, d', m, os, hp, hs, hw'⟩ => ⟨he, ?_, ?_⟩
    · have hsz' : d'.size = ys.length := by rw [hp.1, hsz]
      have hgr := grown_sortR w g 0 m d' os
      have hH' : HoldsK RV.cells 4 w' g 0 d' := by
        rw [hw']
        exact Go.Sort.holdsK_grow _ _ _ _ _ _ _ (by simpa [putRowK, Go.Sort.putRow, Go.Sort.mapBlock, Go.Sort.ahead] using hglt) (Go.Sort.holdsK_putRowK _ _ _ _ _ ys.toArray _ (Go.Sort.holdsK_ahead _ _ _ _ _ _ _ hH) (by rw [hp.1]))
      refine ⟨d'.toList, ⟨_, cap, by simp [hsz'], by simp [hsz']; exact hc1, fun _ => ⟨g, rfl, hgb, ?_, fun k hk => ?_⟩⟩, ?_, ?_⟩
      · rw [hw']; exact Nat.lt_of_lt_of_le hglt hgr.size
      · have hk2 : k < d'.size := by simpa using hk
        have e : d'[k]! = rv d'.toList k := by rw [getElem!_pos d' k hk2]; simp [rv, hk2]
        rw [← e]
        refine rcells_of fun c hc u hu => ?_
        have h2 := hH'.cell (i := k) (c := c) (by omega) hc
        rw [Nat.zero_add] at h2
        have e2 : (RV.cells d'[k]!)[c]! = u := by rw [List.getElem!_eq_getElem?_getD, hu]; rfl
        rw [e2] at h2
        exact h2
      · have := hp.2.2
        simp only [Array.toList_extract, List.extract_eq_take_drop, List.drop_zero, Nat.sub_zero] at this
        rw [List.take_of_length_le (by simp [hsz']), List.take_of_length_le (by simp)] at this
        simpa using this
      · unfold InOrder
        rw [List.pairwise_iff_getElem]
        intro i j hi hj hij
        have hi2 : i < d'.size := by simpa using hi
        have hj2 : j < d'.size := by simpa using hj
        have := hs i j (Nat.zero_le _) hij (by omega)
        rw [getElem!_pos d' j hj2, getElem!_pos d' i hi2] at this
        have h3 := of_decide_eq_false this
        simpa using h3
    · rw [hw']
      have hgr := grown_sortR w g 0 m d' os
      exact ⟨hgr.os, hgr.tape, hgr.output, hgr.size, fun k hk => hgr.block k (by omega) (fun e => by cases e; omega)⟩
  · have e : ys = [] := List.eq_nil_of_length_eq_zero (by omega)
    subst e
    have hv : ∃ p c, v = .slice p 0 c := by
      rcases hrow.2 with ⟨hv, _⟩ | ⟨g, cap, cur, hv, _⟩
      · exact ⟨none, 0, hv⟩
      · exact ⟨_, cap, hv⟩
    obtain ⟨p, c, rfl⟩ := hv
    have hSo := AnyF.slices_SortFunc_none (P := Try.prog) (ρ := Try.sortRL_ren) { Try.sortRL with } p c (.func (.func 123) #[] #[]) w
    change Calls Try.prog 153 _ _ _ at hSo
    exact hSo.mono fun e w' ⟨he, hw'⟩ => ⟨he, ⟨[], ⟨p, c, rfl, by simp, fun h => by simp at h⟩, List.Perm.refl _, List.Pairwise.nil⟩, by rw [hw']; exact Below.refl _ _⟩
end Go.Proofs.Ythekalhceamcoaa
