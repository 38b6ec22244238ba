/- What is used by whom: the contract of evict.uses. -/
import Derived.Test.YthekalhceamcoaaEV1
import Derived.Test.YthekalhceamcoaaEMath5
import Derived.Maps.OwnSet
import Derived.StringKeys
namespace Go.Proofs.Ythekalhceamcoaa
open Go.RowKit Go.ChangeMaps
open Go.Maps (Keyed)
open Qos (Nd nd usedOf Tame)
theorem keyLawS : Keyed Try.prog 9 := Go.Maps.string_keyed Try.underlying9
theorem zeroIntE (w : World) : (zeroValue 3).run Try.prog w = .ok (.int .i64 0) w := by kernel_rfl
/-- A map of what is used by names. -/
def UseMap (w : World) (B n : Nat) (us : List Nd) : Prop :=
  ∃ D : DataW Unit, w.ownsMap Try.prog 9 (plainElem Try.prog 3) B n D ∧ ∀ s : ByteArray, D.atKey (.string s.data.toList) (.lit (.int .i64 0)) = .lit (.int .i64 (usedOf us s)) ∧ Go.Maps.has D (.string s.data.toList) = us.any fun u => decide (u.kind = s)
theorem UseMap.alloc {w : World} {B n : Nat} {us : List Nd} (h : UseMap w B n us) (o : Obj) : UseMap (w.alloc o) B n us := by
  obtain ⟨D, ho, hk⟩ := h
  exact ⟨D, ho.alloc o, hk⟩
theorem UseMap.below {w w' : World} {B K n : Nat} {us : List Nd} (h : UseMap w B n us) (hb : Below K w w') (hK : B < K) : UseMap w' B n us := by
  obtain ⟨D, ⟨es, clock, hh, r⟩, hk⟩ := h
  exact ⟨D, ⟨es, clock, (hb.block B hK).trans hh, r⟩, hk⟩
theorem UseMap.lt {w : World} {B n : Nat} {us : List Nd} (h : UseMap w B n us) : B < w.heap.size := by
  obtain ⟨D, ho, _⟩ := h
  exact ho.lt
theorem UseMap.made (w : World) : UseMap (w.alloc (.map #[] 0)) w.heap.size 0 [] :=
  ⟨.map [], World.ownsMap_made w _ _ _, fun _ => ⟨rfl, rfl⟩⟩
theorem take_nd {us : List Nd} {k : Nat} (h : k < us.length) : us.take (k + 1) = us.take k ++ [nd us k] := by
  rw [List.take_add_one, nd, List.getD_eq_getElem?_getD, List.getElem?_eq_getElem h]; rfl
theorem used_snoc (l : List Nd) (u : Nd) (s : ByteArray) : usedOf (l ++ [u]) s = if (l.any fun v => decide (v.kind = s)) = true then usedOf l s else if u.kind = s then u.many else 0 := by
  unfold usedOf
  rw [List.find?_append]
  cases e : l.find? (fun v => decide (v.kind = s)) with
  | none =>
    have ha : (l.any fun v => decide (v.kind = s)) = false := by
      rw [List.any_eq_false]
      intro x hx
      exact List.find?_eq_none.1 e x hx
    rw [if_neg (by rw [ha]; decide)]
    by_cases h : u.kind = s
    · simp [h]
    · simp [h]
  | some x =>
    have ha : (l.any fun v => decide (v.kind = s)) = true := by
      rw [List.any_eq_true]
      exact ⟨x, List.mem_of_find?_eq_some e, List.find?_some (p := fun v : Nd => decide (v.kind = s)) e⟩
    rw [if_pos ha]
    rfl
theorem str_inj {a b : ByteArray} (h : a.data.toList = b.data.toList) : a = b := ByteArray.ext (Array.toList_inj.mp h)
theorem used_same {l : List Nd} {u : Nd} (h : (l.any fun v => decide (v.kind = u.kind)) = true) (s : ByteArray) : usedOf (l ++ [u]) s = usedOf l s ∧ ((l ++ [u]).any fun v => decide (v.kind = s)) = l.any fun v => decide (v.kind = s) := by
  rw [used_snoc, List.any_append]
  by_cases e : u.kind = s
  · subst e
    rw [if_pos h, h]
    simp
  · by_cases g : (l.any fun v => decide (v.kind = s)) = true
    · rw [if_pos g]; simp [e]
    · rw [if_neg g, if_neg e]
      refine ⟨?_, by simp [e]⟩
      unfold usedOf
      rw [List.find?_eq_none.2 (by simpa [List.any_eq_true] using g)]
      rfl
theorem UseMap.put {w' : World} {B n : Nat} {l : List Nd} {u : Nd} {D : DataW Unit} (hD : ∀ s : ByteArray, D.atKey (.string s.data.toList) (.lit (.int .i64 0)) = .lit (.int .i64 (usedOf l s)) ∧ Go.Maps.has D (.string s.data.toList) = l.any fun v => decide (v.kind = s)) {w0 : World} {n0 : Nat} (him : w0.ownsMap Try.prog 9 (plainElem Try.prog 3) B n0 D)
    (ho : w'.ownsMap Try.prog 9 (plainElem Try.prog 3) B n (D.put (.string u.kind.data.toList) (.lit (.int .i64 u.many)))) (hno : (l.any fun v => decide (v.kind = u.kind)) = false) : UseMap w' B n (l ++ [u]) := by
  refine ⟨_, ho, fun s => ?_⟩
  rw [used_snoc, List.any_append]
  by_cases e : u.kind = s
  · subst e
    have hkl : WideAt.IsKeyLit (Lit.string u.kind.data.toList) := trivial
    rw [Go.Maps.atKey_put_same him.isMap hkl, Go.Maps.has_put_same him.isMap hkl, if_neg (by rw [hno]; decide), if_pos rfl]
    simp
  · have hne : (Lit.string s.data.toList) ≠ (Lit.string u.kind.data.toList) := by
      intro h
      injection h with h
      exact e (str_inj h).symm
    rw [Go.Maps.atKey_put_other hne, Go.Maps.has_put_other hne, (hD s).1, (hD s).2]
    by_cases g : (l.any fun v => decide (v.kind = s)) = true
    · rw [if_pos g]; simp [e]
    · rw [if_neg g, if_neg e]
      refine ⟨?_, by simp [e]⟩
      congr 2
      unfold usedOf
      rw [List.find?_eq_none.2 (by simpa [List.any_eq_true] using g)]
      rfl
/-- Few, and of short names. -/
def FewUses (us : List Nd) : Prop := us.length ≤ 20 ∧ Tame us ∧ ∀ k, k < us.length → (nd us k).kind.size ≤ 30
set_option maxRecDepth 100000 in
set_option maxHeartbeats 2000000 in
theorem uses_any (v : Value) (us : List Nd) (w : World) (h : NeedsAt w v us) (hf : FewUses us) : Calls Try.prog 109 #[v] w fun e w' => (∃ n, e = .returned (.map (some w.heap.size)) ∧ UseMap w' w.heap.size n us) ∧ Below w.heap.size w w' := by
  obtain ⟨ao, c, rfl, hm, hr⟩ := h
  have HR := hideIt hr
  clear hr hm
  have HF := hideIt hf
  have hl20 := hf.1
  clear hf
  have HM0 := hideIt (UseMap.made w)
  have HB0 := hideIt ((Below.refl w.heap.size w).alloc (Nat.le_refl _) (.map #[] 0))
  have hmm := @run_makeMap Try.prog
  go_enter Try.func109, Try.ntmps109
  go_wp2_with fail
  go_loopw [11] (fun i wr => ∃ k n : Nat, k ≤ us.length ∧ n ≤ k ∧ i = .int .i64 k ∧ UseMap wr w.heap.size n (us.take k) ∧ Below w.heap.size w wr) (fun i _ => us.length - (intOf i).toNat)
  case atStart => exact ⟨0, 0, by omega, by omega, rfl, HM0.out, HB0.out⟩
  case round =>
    obtain ⟨k, n, hk, hnk, rfl, hM, hB⟩ := hrel
    clear HM0 HB0
    by_cases hlt : k < us.length
    · obtain ⟨b, o, rfl, hlb, hcs⟩ := HR.out (by omega)
      obtain ⟨g0, g1⟩ := hcs k hlt
      have c0 := (hB.cell (p := ⟨b, o + k * 2, none⟩) hlb).trans g0
      have c1 := (hB.cell (p := ⟨b, o + k * 2 + 1, none⟩) hlb).trans g1
      have HTK := hideIt (take_nd hlt)
      have hsz := HF.out.2.2 k hlt
      have htm := HF.out.2.1 k hlt
      have HBa := hideIt (hB.alloc hB.size (.cells #[.string (nd us k).kind, .int .i64 (nd us k).many] 109))
      have hMa := hM.alloc (.cells #[.string (nd us k).kind, .int .i64 (nd us k).many] 109)
      have hcell0 : (wr.alloc (.cells #[.string (nd us k).kind, .int .i64 (nd us k).many] 109)).cell? ⟨wr.heap.size, 0, none⟩ = some (.string (nd us k).kind) := by simp
      have hcell1 : (wr.alloc (.cells #[.string (nd us k).kind, .int .i64 (nd us k).many] 109)).cell? ⟨wr.heap.size, 1, none⟩ = some (.int .i64 (nd us k).many) := by simp
      clear hM hB hcs g0 g1
      generalize nd us k = x at *
      generalize us.take k = L at *
      obtain ⟨D, ho, hD⟩ := hMa
      have HD := hideIt hD
      have hkey : keyOf Try.prog 9 (.string x.kind) = some (.string x.kind.data.toList) := Go.WideMaps.keyOf_string_mk Try.underlying9 (by unfold maxLen; omega)
      have HWF := hideIt (show (Lit.int .i64 x.many).wf = true from WalkArith.wf_i64 (by omega))
      have hhas := (hD x.kind).2
      rcases two (L.any fun u => decide (u.kind = x.kind)) with ha | ha
      · rw [ha] at hhas
        have HU := hideIt (used_same ha)
        clear hD ha
        go_wp2_with (at_lookup; refine wpList_lookup_own_ok_int _ rfl _ _ 166 rfl 9 3 .i64 keyLawS Try.underlying166 Try.underlying3 (zeroIntE _) w.heap.size n D rfl ho _ _ rfl hkey ?_; intro cc _ _; rw [hhas])
        go_roundw
        case rel =>
          refine ⟨k + 1, n, by omega, by omega, by go_num, ?_, HBa.out⟩
          rw [HTK.out]
          exact ⟨D, ho, fun s => by rw [(HU.out s).1, (HU.out s).2]; exact HD.out s⟩
        case measure => simp [intOf]; omega
      · rw [ha] at hhas
        have HA := hideIt ha
        clear hD ha
        go_wp2_with (first | (at_lookup; refine wpList_lookup_own_ok_int _ rfl _ _ 166 rfl 9 3 .i64 keyLawS Try.underlying166 Try.underlying3 (zeroIntE _) w.heap.size n D rfl ho _ _ rfl hkey ?_; intro cc _ _; rw [hhas]) | (at_mapUpdate; refine wpList_mapUpdate_own _ rfl _ _ _ 166 rfl 9 3 keyLawS Try.underlying166 (plainElem Try.prog 3) w.heap.size n D rfl ho (by unfold maxLen; omega) _ _ _ rfl rfl hkey (.lit (.int .i64 x.many)) [] (plainElem_int Try.underlying3 HWF.out) ?_; intro w5 ho5 hgr5))
        go_roundw
        case rel =>
          refine ⟨k + 1, n + 1, by omega, by omega, by go_num, ?_, ?_⟩
          · rw [HTK.out]
            exact UseMap.put HD.out ho ho5 HA.out
          · exact HBa.out.grown hgr5 HBa.out.size (fun j hj => by cases hj; exact Nat.le_refl _)
        case measure => simp [intOf]; omega
    · have hke : k = us.length := by omega
      subst hke
      have HB1 := hideIt hB
      rw [List.take_length] at hM
      have HM1 := hideIt hM
      clear hB hM
      go_wp2_with fail
      go_ret
      exact ⟨⟨n, rfl, HM1.out⟩, HB1.out⟩
end Go.Proofs.Ythekalhceamcoaa
