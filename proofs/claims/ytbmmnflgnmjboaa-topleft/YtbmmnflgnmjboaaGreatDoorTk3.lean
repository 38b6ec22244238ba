/- One step of a region that draws, in short. -/
import Derived.Test.YtbmmnflgnmjboaaGreatDoorRows
import Derived.Deep.RegionHeld3
namespace Go.Proofs.YtbmmnflgnmjboaaGreatDoor
theorem lR {n : Nat} : n ≤ n := Nat.le_refl n
theorem gS {α : Type} {xs : Array α} {i : Nat} {a : α} (h : xs[i]? = some a) : ∃ h : i < xs.size, xs[i] = a := Array.getElem?_eq_some_iff.1 h
theorem s1 {α : Type} {l : List α} {i : Nat} {a : α} : l.toArray.setIfInBounds i a = (l.set i a).toArray := List.setIfInBounds_toArray ..
theorem s2 {α : Type} {x : α} {l : List α} {a : α} : (x :: l).set 0 a = a :: l := List.set_cons_zero
theorem s3 {α : Type} {x : α} {l : List α} {n : Nat} {a : α} : (x :: l).set (n + 1) a = x :: l.set n a := List.set_cons_succ
section
variable {P : Program} {md : Region.Mode} {ops : Array Oper} {Q : Exit → Act → World → Prop} {S : World → Prop} {oi : Oper} {v : Value} {fuel : Nat} {listed : Array Bool} {a : Act} {w : World}
theorem tk (i : Nat) {a' : Act} {l' : Array Bool} (h : wpAnyH P md ops Q S fuel l' a' w) {r : List Oper} (hi : ops.toList.drop i = oi :: r := by rfl) (hb : (Region.noSelect ops && (Region.free md ops listed i && (Region.ready md ops listed).contains i)) = true := by kernel_rfl) (hw : Region.wanted oi (yielded ops a.tmps) = true := by rfl) (hy : ∀ w, S w → (execOp a.eval oi).run P w = .ok (.value v) w := by (intro w' h; go_simp; first | done | rfl | (rw [if_neg (by omega)]))) (hQ : ∀ c a w, Q (.panic c) (a.put oi.dst v) w → Q (.panic c) a w := by exact fun _ _ _ h => h) (ha : a.put oi.dst v = a' := by first | (simp only [Act.put, s1, s2, s3]; done) | (simp only [Act.put, s1, s2, s3]; rfl) | rfl) (hl : listed.setIfInBounds i true = l' := by first | (simp only [s1, s2, s3]; done) | (simp only [s1, s2, s3]; rfl) | rfl) (hS : S w := by assumption) : wpAnyH P md ops Q S (fuel + 1) listed a w := by
  subst ha hl
  simp only [Bool.and_eq_true] at hb
  have hi' : ops[i]? = some oi := by
    have := congrArg (·[0]?) hi
    simpa using this
  exact wpAnyH_take hi' hb.1 hb.2.1 hb.2.2 hQ (.inl ⟨hw, hy⟩) hS h
theorem tq (i : Nat) (hy : ∀ w, S w → (execOp a.eval oi).run P w = .ok (.value v) w) (h : wpAnyH P md ops Q S fuel (listed.setIfInBounds i true) (a.put oi.dst v) w) {r : List Oper} (hi : ops.toList.drop i = oi :: r := by rfl) (hb : (Region.noSelect ops && (Region.free md ops listed i && (Region.ready md ops listed).contains i)) = true := by kernel_rfl) (hQ : ∀ c a w, Q (.panic c) (a.put oi.dst v) w → Q (.panic c) a w := by exact fun _ _ _ h => h) (hw : Region.wanted oi (yielded ops a.tmps) = true := by rfl) (hS : S w := by assumption) : wpAnyH P md ops Q S (fuel + 1) listed a w := by
  simp only [Bool.and_eq_true] at hb
  have hi' : ops[i]? = some oi := by
    have := congrArg (·[0]?) hi
    simpa using this
  exact wpAnyH_take hi' hb.1 hb.2.1 hb.2.2 hQ (.inl ⟨hw, hy⟩) hS h
theorem rd (i : Nat) (h : ∀ K' : Act → World → Prop, Shut (∀ a w, S w → (S w → wpAnyH P md ops Q S fuel (listed.setIfInBounds i true) a w) → K' a w) → if Region.wanted oi (yielded ops a.tmps) = true then Oper.wp P oi a w K' Q else K' (a.put oi.dst undef) w) {r : List Oper} (hi : ops.toList.drop i = oi :: r := by rfl) (hr : Region.ready md ops listed = [i] := by kernel_rfl) : wpAnyH P md ops Q S (fuel + 1) listed a w := by
  have hi' : ops[i]? = some oi := by
    have := congrArg (·[0]?) hi
    simpa using this
  exact wpAnyH_ready hr (by simp) (AllReadyH.cons hi' h AllReadyH.nil)
end
end Go.Proofs.YtbmmnflgnmjboaaGreatDoor
