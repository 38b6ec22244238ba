/- Copies of pods, and their names: contracts. -/
import Derived.Test.YthekalhceamcoaaEV5
import Derived.Test.YthekalhceamcoaaQT1
import Derived.Test.YthekalhceamcoaaEMath2
import Derived.Shelf.SlicesE.Clone
import Derived.Ground.SlgnProg
import Derived.Shelf.Lay
namespace Go.Proofs
open Go.Shelf
def Try.clonePL_ren : Go.Shelf.Ren := ⟨fun | 41 => 144 | n => n, fun | 22 => 84 | 23 => 60 | 4 => 4 | n => n, fun | n => n⟩
theorem Try.clonePL : Go.Proofs.SlLaysE0.n41 Try.prog Try.clonePL_ren := {
  mixed := by kernel_rfl
  f41 := ⟨Try.f144.name, by decide, Try.func144.trans (congrArg some (by kernel_rfl))⟩
  t4 := Try.underlying4
  a4 := Try.isAgg4
  z4 := Try.sizeOf4
  v4 := Try.zeroValue4
  t22 := Try.underlying84
  a22 := Try.isAgg84
  z22 := Try.sizeOf84
  v22 := Try.zeroValue84 }
end Go.Proofs
namespace Go.Proofs.Ythekalhceamcoaa
open Go.RowKit
open Qos (Nd Ct Pd pd0 nd ct pd sumM sumB Mild usedOf Tame)
/-- Pods, and where their containers lie. -/
def pairsOf (ps : List Pd) (cv : Nat → Value) : List (Pd × Value) := (List.range ps.length).map fun j => (pd ps j, cv j)
theorem pairs_len (ps : List Pd) (cv : Nat → Value) : (pairsOf ps cv).length = ps.length := by simp [pairsOf]
theorem pairs_at (ps : List Pd) (cv : Nat → Value) (k : Nat) (h : k < (pairsOf ps cv).length) : (pairsOf ps cv)[k] = (pd ps k, cv k) := by simp [pairsOf]
theorem prV_from {w : World} {b o : Nat} {ps : List Pd} {cv : Nat → Value} (h : PodsIn w b o ps cv) (j : Nat) (u : Value) (hj : (prV (pairsOf ps cv))[j]? = some u) : w.cell? ((⟨b, o, none⟩ : Addr).add j) = some u := by
  have hlt : j < ps.length * 3 := by
    have := (List.getElem?_eq_some_iff.1 hj).1
    rw [prV_len, pairs_len] at this
    exact this
  obtain ⟨h0, h1, h2, _⟩ := h.at (k := j / 3) (by omega)
  have hk : j / 3 < (pairsOf ps cv).length := by rw [pairs_len]; omega
  obtain ⟨c0, c1, c2⟩ := prV_at (pairsOf ps cv) (j / 3) hk
  rw [pairs_at] at c0 c1 c2
  rw [Addr.add_lit]
  have : j = j / 3 * 3 ∨ j = j / 3 * 3 + 1 ∨ j = j / 3 * 3 + 2 := by omega
  rcases this with e | e | e
  · rw [← e] at c0 h0; rw [h0, ← c0, hj]
  · rw [← e] at c1; rw [Nat.add_assoc, ← e] at h1; rw [h1, ← c1, hj]
  · rw [← e] at c2; rw [Nat.add_assoc, ← e] at h2; rw [h2, ← c2, hj]
theorem prV_one {ps : List Pd} {cv : Nat → Value} (h : ∀ k, k < ps.length → ∃ a n c, cv k = .slice a n c) : ∀ u ∈ prV (pairsOf ps cv), u.oneCell' = true := by
  intro u hu
  simp only [prV, List.mem_flatMap] at hu
  obtain ⟨x, hx, hu⟩ := hu
  simp only [pairsOf, List.mem_map, List.mem_range] at hx
  obtain ⟨k, hk, rfl⟩ := hx
  obtain ⟨a, n, c, e⟩ := h k hk
  simp [e] at hu
  rcases hu with rfl | rfl | rfl <;> rfl
theorem eqNilP (ao : Option Addr) (n c : Nat) (w : World) : Sem.run Try.prog (binOp BinOp.eql 84 (.slice ao n c) (.slice none 0 0)) w = .ok (.bool ao.isNone) w := Lib.run_eql_slice_nil w _ _ ao n c 0 0 Try.underlying84
set_option maxRecDepth 100000 in
set_option maxHeartbeats 1000000 in
theorem clonePods_at (a : Addr) (c : Nat) (l : List (Pd × Value)) (w : World) (hc : ∀ j u, (prV l)[j]? = some u → w.cell? (a.add j) = some u) (h1 : ∀ u ∈ prV l, u.oneCell' = true) (hl : l.length ≤ 16) :
    Calls Try.prog 144 #[.slice (some a) l.length c] w fun e w' => ∃ v, e = .returned v ∧ w'.ownsRow w.heap.size 60 3 v l.length (prV l) ∧ Below w.heap.size w w' := by
  obtain ⟨i0, hi, hz0, hz1, hz2⟩ := infoQ_parts infoPod
  have HB := hideIt ((Below.refl w.heap.size w).alloc (Nat.le_refl _) (.cells #[] 60))
  have HC : Hid (∀ j u, (prV l)[j]? = some u → (w.alloc (.cells #[] 60)).cell? (a.add j) = some u) := fun j u hj => Lib.cell?_alloc_some _ (hc j u hj)
  have hnil := eqNilP (some a) l.length c w
  clear hc
  go_enter Try.func144, Try.ntmps144
  go_wp2_with (at_builtin; (refine wpList_append_own _ rfl _ _ 84 rfl w.heap.size 60 i0 (.agg #[.string ByteArray.empty, .int .i64 0, .slice none 0 0]) 3 48 Try.underlying84 hi hz0 hz1 hz2 rfl (by decide) _ _ _ rfl (World.ownsRow_lit w #[] 0 (Nat.le_refl _) (Nat.zero_le _) rfl) a l.length c (prV l) rfl (prV_len l) HC.out h1 (by unfold maxLen; omega) (by omega) (by simp) ?_); intro v' w1 hown' hgrow' _)
  have hB1 := hideIt (HB.out.grown hgrow' (by simp) (fun j hj => by cases hj; exact Nat.le_refl _))
  rw [Nat.zero_add] at hown'
  have hD : Hid (w1.ownsRow w.heap.size 60 3 v' l.length (prV l)) := by simpa [Hid] using hown'
  clear hown' hgrow'
  go_wp2_with fail
  go_ret
  exact ⟨_, rfl, hD.out, hB1.out⟩
theorem clonePods_any (v : Value) (ps : List Pd) (w : World) (h : PodsAt w v ps) (hl : ps.length ≤ 16) :
    Calls Try.prog 144 #[v] w fun e w' => ∃ v' l, e = .returned v' ∧ w'.ownsRow w.heap.size 60 3 v' l.length (prV l) ∧ l.map Prod.fst = ps ∧ (∀ x ∈ l, ConsAt w x.2 x.1.cs) ∧ Below w.heap.size w w' := by
  obtain ⟨ao, c, rfl, hm, hr⟩ := h
  by_cases h0 : 0 < ps.length
  · obtain ⟨b, o, cv, rfl, hin⟩ := hr h0
    have hc := clonePods_at ⟨b, o, none⟩ c (pairsOf ps cv) w (prV_from hin) (prV_one fun k hk => (hin.2 k hk).2.slice) (by rw [pairs_len]; exact hl)
    rw [pairs_len] at hc
    refine hc.mono fun e w' ⟨v', he, ho, hb⟩ => ⟨v', pairsOf ps cv, he, by rw [pairs_len]; exact ho, ?_, ?_, hb⟩
    · unfold pairsOf
      rw [List.map_map]
      exact Qos.pds_map ps
    · intro x hx
      simp only [pairsOf, List.mem_map, List.mem_range] at hx
      obtain ⟨k, hk, rfl⟩ := hx
      exact (hin.2 k hk).2
  · have e : ps = [] := List.eq_nil_of_length_eq_zero (by omega)
    subst e
    rcases ao with _ | a
    · refine (AnyE.slices_Clone_nil Try.clonePL 0 c w).mono ?_
      rintro e w' ⟨rfl, rfl⟩
      exact ⟨_, [], rfl, World.ownsRow_nil _ _ _ _, rfl, fun x hx => by simp at hx, Below.refl _ _⟩
    · exact (clonePods_at a c [] w (fun j u hj => by simp [prV] at hj) (fun u hu => by simp [prV] at hu) (by simp)).mono fun e w' ⟨v', he, ho, hb⟩ => ⟨v', [], he, ho, rfl, fun x hx => by simp at hx, hb⟩
/-- A row of texts of its own. -/
def txV (l : List ByteArray) : List Value := l.map Value.string
def TRow (base : Nat) (w : World) (v : Value) (l : List ByteArray) : Prop := w.ownsRow base 9 1 v l.length (txV l)
theorem TRow.below {base : Nat} {w w' : World} {v : Value} {l : List ByteArray} (h : TRow base w v l) (hb : Below w.heap.size w w') : TRow base w' v l :=
  World.ownsRow.kept (row := none) h ⟨hb.os, hb.tape, hb.output, hb.size, fun j hj _ => hb.block j hj⟩ (by cases hv : v.ownBlock <;> simp)
theorem infoStr : (Try.prog.info? 9).map (fun i => (i.zero, i.size, i.bytes)) = some (some (.string ByteArray.empty), 1, 16) := by kernel_rfl
theorem new_text (w : World) (s : ByteArray) (t : TypeId) : ∀ j u, [Value.string s][j]? = some u → (w.alloc (.cells #[.string s] t)).cell? ((⟨w.heap.size, 0, none⟩ : Addr).add j) = some u := by
  intro j u hu
  rw [Addr.add_lit, Nat.zero_add]
  match j, hu with
  | 0, hu => simp at hu; subst hu; simp
  | j + 1, hu => simp at hu
set_option maxRecDepth 100000 in
set_option maxHeartbeats 2000000 in
theorem names_any (v : Value) (ps : List Pd) (w : World) (h : PodsAt w v ps) (hl : ps.length ≤ 16) : Calls Try.prog 107 #[v] w fun e w' => (∃ v', e = .returned v' ∧ TRow w.heap.size w' v' (ps.map Pd.nm)) ∧ Below w.heap.size w w' := by
  obtain ⟨i0, hi, hz0, hz1, hz2⟩ := infoQ_parts infoStr
  obtain ⟨ao, c, rfl, hm, hr⟩ := h
  have HR := hideIt hr
  clear hr hm
  go_enter Try.func107, Try.ntmps107
  go_wp2_with fail
  go_loopw [3, 8] (fun g i wr => ∃ k : Nat, k ≤ ps.length ∧ i = .int .i64 k ∧ Below w.heap.size w wr ∧ TRow w.heap.size wr g ((ps.take k).map Pd.nm)) (fun _ i _ => ps.length - (intOf i).toNat)
  case atStart => exact ⟨0, by omega, rfl, Below.refl _ _, World.ownsRow_nil _ _ _ _⟩
  case round =>
    obtain ⟨k, hk, rfl, hB, hT⟩ := hrel
    by_cases hlt : k < ps.length
    · obtain ⟨b, o, cv, rfl, hin⟩ := HR.out (by omega)
      have hin := hin.below hB
      obtain ⟨c0, c1, c2, hcn⟩ := hin.at hlt
      have hsl := hcn.slice
      have hba := (Below.refl wr.heap.size wr).alloc (Nat.le_refl _) (.cells #[.string (pd ps k).nm, .int .i64 (pd ps k).pr, cv k] 60)
      have HBa := hideIt (hB.trans (hba.mono hB.size))
      have HTa := hideIt (hT.below hba)
      have HTK : Hid ((ps.take (k + 1)).map Pd.nm = (ps.take k).map Pd.nm ++ [(pd ps k).nm]) := by
        unfold Hid
        rw [Qos.take_pd hlt, List.map_append]
        rfl
      have HGL := hideIt (World.ownsRow.lt hT)
      have hln : ((ps.take k).map Pd.nm).length ≤ 16 := by rw [List.length_map, List.length_take]; omega
      clear hin hcn hba hB hT
      generalize (ps.take k).map Pd.nm = L at *
      generalize pd ps k = x at *
      generalize cv k = d at *
      obtain ⟨da, dn, dc, rfl⟩ := hsl
      have HB2 := hideIt (HBa.out.alloc HBa.out.size (.cells #[.string x.nm] 9))
      have HT2 := hideIt (HTa.out.below ((Below.refl _ _).alloc (Nat.le_refl _) (.cells #[.string x.nm] 9)))
      have HN2 := new_text (wr.alloc (.cells #[.string x.nm, .int .i64 x.pr, .slice da dn dc] 60)) x.nm 9
      rw [show (wr.alloc (.cells #[.string x.nm, .int .i64 x.pr, .slice da dn dc] 60)).heap.size = wr.heap.size + 1 by simp] at HN2
      have HN2 := hideIt HN2
      go_wp2_with (at_builtin; refine wpList_append_own _ rfl _ _ 101 rfl w.heap.size 9 i0 (.string ByteArray.empty) 1 16 Try.underlying101 hi hz0 hz1 hz2 rfl (by decide) u3 _ _ rfl HT2.out ⟨_, 0, none⟩ 1 1 [.string x.nm] rfl rfl HN2.out (by intro u hu; simp at hu; subst hu; rfl) (by unfold maxLen; omega) (by omega) HB2.out.size ?_; intro v2 w5 hown' hgrow' _)
      have HB5 := hideIt (HB2.out.grown hgrow' HB2.out.size (fun i hi => (HGL.out i hi).1))
      have HT5 : Hid (TRow w.heap.size w5 v2 (L ++ [x.nm])) := by
        unfold Hid TRow txV
        rw [List.map_append, List.length_append]
        exact hown'
      clear hown' hgrow'
      go_roundw
      case rel => exact ⟨k + 1, by omega, by go_num, HB5.out, by rw [HTK.out]; exact HT5.out⟩
      case measure => simp [intOf]; omega
    · have hke : k = ps.length := by omega
      subst hke
      have HB1 := hideIt hB
      rw [List.take_length] at hT
      have HT1 := hideIt hT
      clear hB hT
      go_wp2_with fail
      go_ret
      exact ⟨⟨_, rfl, HT1.out⟩, HB1.out⟩
end Go.Proofs.Ythekalhceamcoaa
