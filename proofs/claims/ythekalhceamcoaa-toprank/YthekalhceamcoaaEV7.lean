/- What slices.SortFunc leaves of pods, with package evict's comparison: the contract. -/
import Derived.Test.YthekalhceamcoaaEV6
import Derived.Shelf.SlSortCmp.NoneTotal
import Derived.Ground.SlsfProg
import Derived.Laws.EntriesVeiled
namespace Go.Proofs
open Go.Shelf
def Try.sortPL_ren : Go.Shelf.Ren := ⟨fun | 6 => 146 | 15 => 135 | 14 => 174 | 28 => 171 | 29 => 172 | 20 => 185 | 21 => 186 | 22 => 187 | 23 => 188 | 24 => 189 | 25 => 190 | 26 => 191 | 27 => 192 | 46 => 211 | 47 => 181 | 48 => 182 | 49 => 212 | 50 => 213 | 57 => 220 | n => n, fun | 22 => 84 | 24 => 60 | 25 => 223 | 3 => 3 | 39 => 152 | 0 => 0 | 53 => 241 | 55 => 23 | 4 => 4 | 46 => 235 | 45 => 234 | 50 => 154 | 5 => 5 | 9 => 9 | 66 => 248 | 70 => 252 | 76 => 269 | 77 => 270 | n => n, fun | n => n⟩
theorem Try.sortPL : Go.Proofs.SlLaysF0.n6 Try.prog Try.sortPL_ren := {
  mixed := by kernel_rfl
  f6 := ⟨Try.f146.name, by decide, Try.func146.trans (congrArg some (by kernel_rfl))⟩
  f14 := ⟨Try.f174.name, by decide, Try.func174.trans (congrArg some (by kernel_rfl))⟩
  f15 := Try.func135.trans (congrArg some (by kernel_rfl))
  f20 := ⟨Try.f185.name, by decide, Try.func185.trans (congrArg some (by kernel_rfl))⟩
  f21 := ⟨Try.f186.name, by decide, Try.func186.trans (congrArg some (by kernel_rfl))⟩
  f22 := ⟨Try.f187.name, by decide, Try.func187.trans (congrArg some (by kernel_rfl))⟩
  f23 := ⟨Try.f188.name, by decide, Try.func188.trans (congrArg some (by kernel_rfl))⟩
  f24 := ⟨Try.f189.name, by decide, Try.func189.trans (congrArg some (by kernel_rfl))⟩
  f25 := ⟨Try.f190.name, by decide, Try.func190.trans (congrArg some (by kernel_rfl))⟩
  f26 := ⟨Try.f191.name, by decide, Try.func191.trans (congrArg some (by kernel_rfl))⟩
  f27 := ⟨Try.f192.name, by decide, Try.func192.trans (congrArg some (by kernel_rfl))⟩
  f28 := Try.func171.trans (congrArg some (by kernel_rfl))
  f29 := Try.func172.trans (congrArg some (by kernel_rfl))
  f46 := ⟨Try.f211.name, by decide, Try.func211.trans (congrArg some (by kernel_rfl))⟩
  f47 := Try.func181.trans (congrArg some (by kernel_rfl))
  f48 := Try.func182.trans (congrArg some (by kernel_rfl))
  f49 := ⟨Try.f212.name, by decide, Try.func212.trans (congrArg some (by kernel_rfl))⟩
  f50 := ⟨Try.f213.name, by decide, Try.func213.trans (congrArg some (by kernel_rfl))⟩
  f57 := ⟨Try.f220.name, by decide, Try.func220.trans (congrArg some (by kernel_rfl))⟩
  t0 := Try.underlying0
  a0 := Try.isAgg0
  z0 := Try.sizeOf0
  v0 := Try.zeroValue0
  t3 := Try.underlying3
  a3 := Try.isAgg3
  z3 := Try.sizeOf3
  v3 := Try.zeroValue3
  t4 := Try.underlying4
  a4 := Try.isAgg4
  z4 := Try.sizeOf4
  v4 := Try.zeroValue4
  t5 := Try.underlying5
  a5 := Try.isAgg5
  z5 := Try.sizeOf5
  v5 := Try.zeroValue5
  t9 := Try.underlying9
  a9 := Try.isAgg9
  z9 := Try.sizeOf9
  v9 := Try.zeroValue9
  t22 := Try.underlying84
  a22 := Try.isAgg84
  z22 := Try.sizeOf84
  v22 := Try.zeroValue84
  t25 := Try.underlying223
  a25 := Try.isAgg223
  z25 := Try.sizeOf223
  v25 := Try.zeroValue223
  t39 := Try.underlying152
  a39 := Try.isAgg152
  z39 := Try.sizeOf152
  v39 := Try.zeroValue152
  t45 := Try.underlying234
  a45 := Try.isAgg234
  z45 := Try.sizeOf234
  v45 := Try.zeroValue234
  t46 := Try.underlying235
  a46 := Try.isAgg235
  z46 := Try.sizeOf235
  v46 := Try.zeroValue235
  t50 := Try.underlying154
  a50 := Try.isAgg154
  z50 := Try.sizeOf154
  v50 := Try.zeroValue154
  t53 := Try.underlying241
  a53 := Try.isAgg241
  z53 := Try.sizeOf241
  v53 := Try.zeroValue241
  t55 := Try.underlying23
  a55 := Try.isAgg23
  z55 := Try.sizeOf23
  v55 := Try.zeroValue23
  t66 := Try.underlying248
  a66 := Try.isAgg248
  z66 := Try.sizeOf248
  v66 := Try.zeroValue248
  t70 := Try.underlying252
  a70 := Try.isAgg252
  z70 := Try.sizeOf252
  v70 := Try.zeroValue252
  t76 := Try.underlying269
  a76 := Try.isAgg269
  z76 := Try.sizeOf269
  v76 := Try.zeroValue269
  t77 := Try.underlying270
  a77 := Try.isAgg270
  z77 := Try.sizeOf270
  v77 := Try.zeroValue270 }
end Go.Proofs
namespace Go.Proofs.Ythekalhceamcoaa
open Go.RowKit
open Go.Sort (SWO PermIn SortedIn HoldsK flatK putRowK)
open Qos (Nd Ct Pd pd0 nd ct pd sumM sumB Mild usedOf Tame key keyCmp keyLt Ranked)
/-- A pod that may be compared. -/
def OkE (W0 : World) (x : Pd × Value) : Prop := ConsAt W0 x.2 x.1.cs ∧ Mild x.1.cs ∧ x.1.nm.size ≤ 1000
abbrev PE (W0 : World) := { x : Pd × Value // OkE W0 x }
theorem ok0 (W0 : World) : OkE W0 (pd0, .slice none 0 0) := ⟨⟨none, 0, rfl, ⟨by simp [pd0], by decide⟩, fun h => by simp [pd0] at h⟩, Qos.mild_nil, by simp [pd0]⟩
instance (W0 : World) : Inhabited (PE W0) := ⟨⟨_, ok0 W0⟩⟩
def encE {W0 : World} (x : PE W0) : List Value := [.string x.1.1.nm, .int .i64 x.1.1.pr, x.1.2]
def cfE {W0 : World} (us : List Nd) (x y : PE W0) : Int := keyCmp (key us x.1.1) (key us y.1.1)
theorem ltE {W0 : World} (us : List Nd) (x y : PE W0) : ltOf (cfE us) x y = keyLt (key us x.1.1) (key us y.1.1) := rfl
theorem swoE {W0 : World} (us : List Nd) : SWO (ltOf (cfE (W0 := W0) us)) where
  irrefl _ := Qos.swoKey.irrefl _
  trans _ _ _ h1 h2 := Qos.swoKey.trans _ _ _ h1 h2
  ntrans _ _ _ h1 h2 := Qos.swoKey.ntrans _ _ _ h1 h2
theorem grows_of {w w' : World} (hb : Below w.heap.size w w') (hd : w.drawn ≤ w'.drawn) : ∃ q os, w' = Go.Sort.grow (w.drewN q) os := by
  refine ⟨w'.drawn - w.drawn, w'.heap.extract w.heap.size w'.heap.size, ?_⟩
  obtain ⟨h1, h2, h3, h4, h5⟩ := hb
  have hh : w'.heap = w.heap ++ w'.heap.extract w.heap.size w'.heap.size := by
    apply Array.ext_getElem?
    intro i
    by_cases hi : i < w.heap.size
    · rw [Array.getElem?_append_left hi]; exact h5 i hi
    · rw [Array.getElem?_append_right (by omega), Array.getElem?_extract]
      by_cases hj : i < w'.heap.size
      · rw [if_pos (by omega)]
        congr 1
        omega
      · rw [if_neg (by omega)]
        exact Array.getElem?_eq_none (by omega)
  unfold Go.Sort.grow World.drewN
  cases w'
  cases w
  simp only at h1 h2 h3 hd hh
  simp only [World.mk.injEq]
  exact ⟨hh, h2, by omega, h1, h3⟩
theorem grown_sortK {W0 : World} (w : World) (blk off m : Nat) (dk : Array (PE W0)) (os : Array Obj) : w.grownBy (sortWorldK encE 3 w blk off m dk os) (some blk) := by
  refine ⟨rfl, rfl, rfl, ?_, fun j hj hne => ?_⟩
  · simp [sortWorldK, Go.Sort.grow, putRowK, Go.Sort.putRow, Go.Sort.mapBlock, Go.Sort.ahead]
  · have h2 : blk ≠ j := fun e => hne (by rw [e])
    simp [sortWorldK, Go.Sort.grow, putRowK, Go.Sort.putRow, Go.Sort.mapBlock, Go.Sort.ahead, Array.getElem?_append, Array.getElem_modify, hj, h2]
theorem enc_at {W0 : World} (x : PE W0) : (encE x)[0]! = .string x.1.1.nm ∧ (encE x)[1]! = .int .i64 x.1.1.pr ∧ (encE x)[2]! = x.1.2 := ⟨rfl, rfl, rfl⟩
theorem holds_own {W0 w : World} {base g cap : Nat} {l : List (Pd × Value)} (h : w.ownsRow base 60 3 (.slice (some ⟨g, 0, none⟩) l.length cap) l.length (prV l)) (d : Array (PE W0)) (hd : d.toList.map Subtype.val = l) : HoldsK encE 3 w g 0 d ∧ g < w.heap.size ∧ base ≤ g := by
  rcases h.2 with ⟨hv, _⟩ | ⟨g', cap', cur, hv, hb, hg, hc1, hc2, _, ht⟩
  · cases hv
  cases hv
  have hsz : d.size = l.length := by rw [← hd]; simp
  refine ⟨fun j hj => ?_, ?_, hb⟩
  · rw [Go.Sort.size_flatK] at hj
    rw [Go.Sort.get_flatK _ _ _ _ hj]
    have hk : j / 3 < l.length := by omega
    have e : d[j / 3]!.1 = l[j / 3] := by
      have hk2 : j / 3 < d.size := by omega
      rw [getElem!_pos d (j / 3) hk2]
      have : (d.toList.map Subtype.val)[j / 3]? = l[j / 3]? := by rw [hd]
      rw [List.getElem?_map, List.getElem?_eq_getElem hk] at this
      simp [hk2] at this
      exact this
    obtain ⟨p0, p1, p2⟩ := prV_at l (j / 3) hk
    have hx : (prV l)[j]? = some ((encE d[j / 3]!)[j % 3]!) := by
      obtain ⟨e0, e1, e2⟩ := enc_at d[j / 3]!
      have : j % 3 = 0 ∨ j % 3 = 1 ∨ j % 3 = 2 := by omega
      rcases this with r | r | r
      · rw [r, e0, e]; rw [show j / 3 * 3 = j by omega] at p0; exact p0
      · rw [r, e1, e]; rw [show j / 3 * 3 + 1 = j by omega] at p1; exact p1
      · rw [r, e2, e]; rw [show j / 3 * 3 + 2 = j by omega] at p2; exact p2
    rw [← ht, List.getElem?_take] at hx
    split at hx
    · have hc : cur[j]? = some ((encE d[j / 3]!)[j % 3]!) := by simpa using hx
      refine ⟨?_, ?_⟩
      · unfold World.cell?; rw [hg]; simp [hc]
      · unfold World.frozen?; rw [hg]; simp
    · cases hx
  · rcases Nat.lt_or_ge g w.heap.size with hlt | hge
    · exact hlt
    · rw [Array.getElem?_eq_none hge] at hg; cases hg
/-- Pods in order. -/
def Sorted (us : List Nd) (ps qs : List Pd) : Prop := qs.Perm ps ∧ Ranked (qs.map (key us))
theorem sortPods_any (us : List Nd) (W0 w : World) (l : List (Pd × Value)) (v : Value) (K mc fc B n : Nat) (hrow : w.ownsRow K 60 3 v l.length (prV l)) (hok : ∀ x ∈ l, OkE W0 x) (hl : l.length ≤ 16) (hW : Below W0.heap.size W0 w) (hK0 : W0.heap.size ≤ K)
    (hS : StandE w mc fc B n us) (hmK : mc < K ∧ B < K) (hfr : ∀ g, v.ownBlock = some g → fc ≠ g) (ht : Tame us) :
    Calls Try.prog 146 #[v, .func (.func 147) #[] #[.pointer (some ⟨fc, 0, none⟩)]] w fun e w' => e = .returned (.tuple #[]) ∧ (∃ qs, PodsAt w' v qs ∧ Sorted us (l.map Prod.fst) qs) ∧ Below K w w' := by
  by_cases h0 : 0 < l.length
  · obtain ⟨g, cap, rfl, hc1, hc2, hgb, hglt, _⟩ := own_cells hrow h0
    let d : Array (PE W0) := (l.pmap (fun x h => (⟨x, h⟩ : PE W0)) hok).toArray
    have hd : d.toList.map Subtype.val = l := by
      show ((l.pmap (fun x h => (⟨x, h⟩ : PE W0)) hok)).map Subtype.val = l
      rw [List.map_pmap]
      simp
    have hsz : d.size = l.length := by rw [← hd]; simp
    obtain ⟨hH, _, _⟩ := holds_own hrow d hd
    have eg : ∀ args w, (callFunc 147 args).run Try.prog w = .ok (.enter 147 args) w := enters_of Try.func147 (by kernel_rfl) rfl
    have hfg : fc ≠ g := hfr g rfl
    have hcmp : CmpLays Try.prog 147 #[.pointer (some ⟨fc, 0, none⟩)] (encE (W0 := W0)) 3 (cfE us) g 0 d.size w := by
      intro m os dk _ x y
      have hg := grown_sortK w g 0 m dk os
      have hbw : Below W0.heap.size W0 (sortWorldK encE 3 w g 0 m dk os) := hW.trans (below_grown hg (K := W0.heap.size) (by have := hW.size; omega) (fun j hj => by cases hj; omega))
      have hbK : Below K w (sortWorldK encE 3 w g 0 m dk os) := below_grown hg (K := K) (by omega) (fun j hj => by cases hj; exact hgb)
      have hSt : StandE (sortWorldK encE 3 w g 0 m dk os) mc fc B n us := ⟨(hbK.cell (p := ⟨mc, 0, none⟩) hmK.1).trans hS.m, (hg.cell_far ⟨fc, 0, none⟩ hS.lts.2.1 (by simpa using hfg)).trans hS.f, hS.u.below hbK hmK.2⟩
      refine (cmpPods_any x.1.1 y.1.1 x.1.2 y.1.2 mc fc B n us _ (x.2.1.below hbw) (y.2.1.below hbw) x.2.2.1 y.2.2.1 x.2.2.2 y.2.2.2 hSt ht).mono fun e w' ⟨he, hb, hdr⟩ => ⟨he, grows_of hb hdr⟩
    have h1 : ∀ x : PE W0, ∀ v ∈ encE x, v.oneCell' = true := by
      intro x v hv
      obtain ⟨a, n, c, e⟩ := x.2.1.slice
      simp [encE, e] at hv
      rcases hv with rfl | rfl | rfl <;> rfl
    have hSo := AnyQ.slices_SortFunc Try.sortPL 3 Try.isAgg60 Try.sizeOf60 (encE (W0 := W0)) (fun _ => rfl) h1 (cfE us) (swoE us) 147 #[.pointer (some ⟨fc, 0, none⟩)] g 0 cap d w eg hcmp hH hglt (by omega)
    change Calls Try.prog 146 _ _ _ at hSo
    rw [hsz] at hSo
    refine hSo.mono fun e w' ⟨he, d', m, os, hp, hs, hw'⟩ => ⟨he, ?_, ?_⟩
    · have hsz' : d'.size = l.length := by rw [hp.1, hsz]
      have hgr := grown_sortK w g 0 m d' os
      have hbw : Below W0.heap.size W0 w' := by rw [hw']; exact hW.trans (below_grown hgr (K := W0.heap.size) (by have := hW.size; omega) (fun j hj => by cases hj; omega))
      have hH' : HoldsK encE 3 w' g 0 d' := by
        rw [hw']
        exact Go.Sort.holdsK_grow _ _ _ _ _ _ _ (by simpa [putRowK, Go.Sort.putRow, Go.Sort.mapBlock, Go.Sort.ahead] using hglt) (Go.Sort.holdsK_putRowK _ _ _ _ _ d _ (Go.Sort.holdsK_ahead _ _ _ _ _ _ _ hH) (by rw [hp.1]))
      have hlen : (d'.toList.map fun x => x.1.1).length = l.length := by simp [hsz']
      have hat : ∀ k, k < l.length → pd (d'.toList.map fun x => x.1.1) k = d'[k]!.1.1 := by
        intro k hk
        have hk2 : k < d'.size := by omega
        rw [getElem!_pos d' k hk2]
        simp [pd, hk2]
      refine ⟨d'.toList.map fun x => x.1.1, ⟨_, cap, by rw [hlen], by rw [hlen]; omega, fun _ => ⟨g, 0, fun k => d'[k]!.1.2, rfl, ?_, fun k hk => ?_⟩⟩, ?_, ?_⟩
      · rw [hw']; exact Nat.lt_of_lt_of_le hglt hgr.size
      · rw [hlen] at hk
        rw [hat k hk]
        have c0 := (hH'.cell (i := k) (c := 0) (by omega) (by omega)).1
        have c1 := (hH'.cell (i := k) (c := 1) (by omega) (by omega)).1
        have c2 := (hH'.cell (i := k) (c := 2) (by omega) (by omega)).1
        obtain ⟨e0, e1, e2⟩ := enc_at d'[k]!
        rw [e0] at c0
        rw [e1] at c1
        rw [e2] at c2
        exact ⟨⟨c0, c1, c2⟩, (d'[k]!).2.1.below hbw⟩
      · have hperm : d'.toList.Perm d.toList := by
          have := hp.2.2
          simp only [Array.toList_extract, List.extract_eq_take_drop, List.drop_zero, Nat.sub_zero] at this
          rw [List.take_of_length_le (by simp [hsz']), List.take_of_length_le (by simp [hsz])] at this
          exact this
        have h2 := hperm.map (fun x : PE W0 => x.1.1)
        have h3 : d.toList.map (fun x : PE W0 => x.1.1) = l.map Prod.fst := by rw [← hd, List.map_map]; rfl
        rw [h3] at h2
        exact h2
      · unfold Ranked
        rw [List.pairwise_map, List.pairwise_map, List.pairwise_iff_getElem]
        intro i j hi hj hij
        have hi2 : i < d'.size := by simpa using hi
        have hj2 : j < d'.size := by simpa using hj
        have := hs i j (Nat.zero_le _) hij (by omega)
        rw [getElem!_pos d' j hj2, getElem!_pos d' i hi2, ltE] at this
        simpa using this
    · rw [hw']; exact below_grown (grown_sortK w g 0 m d' os) (K := K) (by omega) (fun j hj => by cases hj; exact hgb)
  · have e : l = [] := List.eq_nil_of_length_eq_zero (by omega)
    subst e
    have hv : ∃ p c, v = .slice p 0 c := by
      rcases hrow.2 with ⟨hv, _⟩ | ⟨g, cap, cur, hv, _⟩
      · exact ⟨none, 0, hv⟩
      · exact ⟨_, cap, hv⟩
    obtain ⟨p, c, rfl⟩ := hv
    have hSo := AnyF.slices_SortFunc_none (P := Try.prog) (ρ := Try.sortPL_ren) { Try.sortPL with } p c (.func (.func 147) #[] #[.pointer (some ⟨fc, 0, none⟩)]) w
    change Calls Try.prog 146 _ _ _ at hSo
    exact hSo.mono fun e w' ⟨he, hw'⟩ => ⟨he, ⟨[], ⟨p, c, rfl, by simp, fun h => by simp at h⟩, List.Perm.refl _, List.Pairwise.nil⟩, by rw [hw']; exact Below.refl _ _⟩
end Go.Proofs.Ythekalhceamcoaa
