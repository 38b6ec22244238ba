/- VQ2, VT2, VEnv, VR4 -/
import Derived.Test.YtlljniaobbbjgaaGreatDoorU6
import Derived.Laws.OwnMore
import Derived.Test.YtlljniaobbbjgaaGreatDoorU5
import Derived.Deep.RegionHeld3
import Derived.Test.YtlljniaobbbjgaaGreatDoorCards
import Derived.Test.YtlljniaobbbjgaaGreatDoorTie
import Derived.ProofKit
import Derived.OpenShut
import Derived.ShutString
import Derived.ChangeOld
import Derived.Deep.DeepHandedRow
import Derived.Lib.LaidTab
import Derived.Stop.LaidErr
import Derived.Lib.ItoaNum
namespace Go.Proofs.YtlljniaobbbjgaaGreatDoor
open Go.RowKit
open Qos (Nd Ct Pd nd ct pd)
open Sv (Gv Hd gv hd)
theorem grown_apart {W W2 : World} {o : Obj} {r : Option Nat} (hg : (W.alloc o).grownBy W2 r) : Apart (fun j => r = some j) W W2 :=
  (Apart.alloc _ W o).trans ⟨hg.os, hg.tape, hg.output, hg.size, fun j hj hn => hg.block j hj fun e => hn e.symm⟩
theorem nil_own : Value.ownBlock (.slice none 0 0) = none := rfl
theorem heldQ_pod {W W2 : World} {base : Nat} {v v' : Value} {el : List Hp} {la : Hp} {nm : ByteArray} {pr : Int} {o : Obj} (h : HeldQ W base v el la) (hg : (W.alloc o).grownBy W2 v.ownBlock)
    (hr : W2.ownsRow base 67 4 v' (el.length + 1 + 1) (rowH (el ++ [la]) ++ hCells ⟨nm, pr, [], [], .slice none 0 0, .slice none 0 0⟩)) (hat : v'.ownBlock = v.ownBlock ∨ v'.ownBlock = some (W.alloc o).heap.size) :
    HeldQ W2 base v' (el ++ [la]) ⟨nm, pr, [], [], .slice none 0 0, .slice none 0 0⟩ := by
  have hap := grown_apart hg
  have hsz : (W.alloc o).heap.size = W.heap.size + 1 := by simp
  have hfree : ∀ j, j < W.heap.size → base ≤ j → v.ownBlock ≠ some j → Free base v' ⟨nm, pr, [], [], .slice none 0 0, .slice none 0 0⟩ j := fun j hj hb hv => by
    refine ⟨hb, fun e => ?_, by simp [nil_own], by simp [nil_own]⟩
    rcases hat with e2 | e2
    · exact hv (by rw [← e2]; exact e)
    · rw [e2] at e; injection e with e; omega
  have hone : ∀ p, OneQ W base (Free base v la) p → (∀ j, p.cv.ownBlock = some j → v.ownBlock ≠ some j) → (∀ j, p.gv.ownBlock = some j → v.ownBlock ≠ some j) →
      OneQ W2 base (Free base v' ⟨nm, pr, [], [], .slice none 0 0, .slice none 0 0⟩) p ∧ (∀ j, p.cv.ownBlock = some j → Free base v' ⟨nm, pr, [], [], .slice none 0 0, .slice none 0 0⟩ j) ∧ (∀ j, p.gv.ownBlock = some j → Free base v' ⟨nm, pr, [], [], .slice none 0 0, .slice none 0 0⟩ j) := fun p hp h1 h2 =>
    ⟨hp.apart hap (fun j hj => hj.2.1) (fun j hj hf => hfree j hj hf.1 hf.2.1) h1 h2, fun j hj => hfree j (hp.rc.lt j hj).2 (hp.rc.lt j hj).1 (h1 j hj), fun j hj => hfree j (hp.rg.lt j hj).2 (hp.rg.lt j hj).1 (h2 j hj)⟩
  refine ⟨?_, fun p hp => ?_, ⟨World.ownsRow_nil _ _ _ _, World.ownsRow_nil _ _ _ _, by simp, by simp⟩, by simp [nil_own], by simp [nil_own], by simp [nil_own]⟩
  · rw [rowH_snoc, List.length_append]; exact hr
  · rcases List.mem_append.1 hp with hp | hp
    · obtain ⟨h1, h2, h3⟩ := h.hel p hp
      exact hone p h1 (fun j hj => (h2 j hj).2.1) (fun j hj => (h3 j hj).2.1)
    · rw [List.mem_singleton.1 hp]
      exact hone la h.hla h.vc h.vg
theorem heldQ_first {W2 : World} {base : Nat} {v' : Value} {nm : ByteArray} {pr : Int} (hr : W2.ownsRow base 67 4 v' 1 (hCells ⟨nm, pr, [], [], .slice none 0 0, .slice none 0 0⟩)) :
    HeldQ W2 base v' [] ⟨nm, pr, [], [], .slice none 0 0, .slice none 0 0⟩ :=
  ⟨by simpa [rowH] using hr, by simp, ⟨World.ownsRow_nil _ _ _ _, World.ownsRow_nil _ _ _ _, by simp, by simp⟩, by simp [nil_own], by simp [nil_own], by simp [nil_own]⟩
theorem set_flat {el : List Hp} {la la' : Hp} {j : Nat} (hj : j < 4) {u : Value} (hs : (hCells la).set j u = hCells la') : (rowH (el ++ [la])).set (el.length * 4 + j) u = rowH (el ++ [la']) := by
  have hl : (rowH el).length = el.length * 4 := by
    induction el with
    | nil => rfl
    | cons x r ih => rw [rowH, List.flatMap_cons, List.length_append, ← rowH, ih]; simp [hCells]; omega
  rw [rowH_snoc, rowH_snoc, List.set_append_right _ _ (by omega), hl, show el.length * 4 + j - el.length * 4 = j by omega, hs]
theorem heldQ_cont {W W2 : World} {base m cap : Nat} {v u nv : Value} {el : List Hp} {la : Hp} {c : Ct} {o : Obj} (hv : v = .slice (some ⟨m, 0, none⟩) (el.length + 1) cap) (h : HeldQ W base v el la) (hn : NeedsQ W (Free base v la) nv c.ds) (hg : (W.alloc o).grownBy W2 la.cv.ownBlock)
    (hr : W2.ownsRow base 56 6 u (la.cl.length + 1) (rowC la.cl ++ cCells (c, nv))) (hat : u.ownBlock = la.cv.ownBlock ∨ u.ownBlock = some (W.alloc o).heap.size) :
    HeldQ (W2.setCell ⟨m, el.length * 4 + 2, none⟩ u) base v el { la with cl := la.cl ++ [(c, nv)], cv := u } := by
  have hsz : (W.alloc o).heap.size = W.heap.size + 1 := by simp
  have hvm : v.ownBlock = some m := by rw [hv]; rfl
  have hmlt : m < W.heap.size := (h.row.lt m hvm).2
  have hap : Apart (fun j => la.cv.ownBlock = some j ∨ j = m) W (W2.setCell ⟨m, el.length * 4 + 2, none⟩ u) := ((grown_apart hg).wide fun _ => .inl).trans (Apart.setCell (.inr rfl) _ _ _)
  have hKf : ∀ j, Free base v la j → ¬ (la.cv.ownBlock = some j ∨ j = m) := fun j hf hk => by
    rcases hk with hk | rfl
    · exact hf.2.2.1 hk
    · exact hf.2.1 hvm
  have hQ : ∀ j, j < W.heap.size → Free base v la j → Free base v { la with cl := la.cl ++ [(c, nv)], cv := u } j := fun j hj hf => by
    have hu : u.ownBlock ≠ some j := fun e => by
      rcases hat with e2 | e2
      · exact hf.2.2.1 (by rw [← e2]; exact e)
      · rw [e2] at e; injection e with e; omega
    exact ⟨hf.1, hf.2.1, hu, hf.2.2.2⟩
  have hone : ∀ p, OneQ W base (Free base v la) p → (∀ j, p.cv.ownBlock = some j → Free base v la j) → (∀ j, p.gv.ownBlock = some j → Free base v la j) →
      OneQ (W2.setCell ⟨m, el.length * 4 + 2, none⟩ u) base (Free base v { la with cl := la.cl ++ [(c, nv)], cv := u }) p ∧ (∀ j, p.cv.ownBlock = some j → Free base v { la with cl := la.cl ++ [(c, nv)], cv := u } j) ∧ (∀ j, p.gv.ownBlock = some j → Free base v { la with cl := la.cl ++ [(c, nv)], cv := u } j) := fun p hp h1 h2 =>
    ⟨hp.apart hap hKf hQ (fun j hj => hKf j (h1 j hj)) (fun j hj => hKf j (h2 j hj)), fun j hj => hQ j (hp.rc.lt j hj).2 (h1 j hj), fun j hj => hQ j (hp.rg.lt j hj).2 (h2 j hj)⟩
  have hum : u.ownBlock ≠ some m := fun e => by
    rcases hat with e2 | e2
    · exact h.vc m (by rw [← e2]; exact e) hvm
    · rw [e2] at e; injection e with e; omega
  have hrow2 : W2.ownsRow base 67 4 v (el.length + 1) (rowH (el ++ [la])) := row_kept h.row (grown_apart hg) (fun j hj hk => h.vc j hk hj)
  subst hv
  refine ⟨?_, fun p hp => hone p (h.hel p hp).1 (h.hel p hp).2.1 (h.hel p hp).2.2, ⟨?_, ?_, ?_, ?_⟩, ?_, ?_, ?_⟩
  · rw [← set_flat (la := la) (j := 2) (by omega) (by rfl)]
    exact (hrow2.stored _ _).1
  · show World.ownsRow _ base 56 6 u (la.cl ++ [(c, nv)]).length (rowC (la.cl ++ [(c, nv)]))
    rw [rowC_snoc, List.length_append]
    exact row_kept hr (Apart.setCell (K := fun j => j = m) rfl W2 _ _) (fun j hj hk => by subst hk; exact hum hj)
  · exact row_kept h.hla.rg hap (fun j hj hk => by
      rcases hk with hk | rfl
      · exact h.cg j hk hj
      · exact h.vg j hj hvm)
  · intro x hx
    rcases List.mem_append.1 hx with hx | hx
    · exact (h.hla.nc x hx).apart hap hKf hQ
    · rw [List.mem_singleton.1 hx]; exact hn.apart hap hKf hQ
  · exact fun x hx => ⟨(h.hla.ng x hx).1.apart hap hKf hQ, (h.hla.ng x hx).2⟩
  · intro j hj e
    exact hum (by rw [show (some m : Option Nat) = some j from e]; exact hj)
  · exact fun j hj e => h.vg j hj e
  · intro j hj e
    rcases hat with e2 | e2
    · exact h.cg j (by rw [← e2]; exact hj) e
    · have := (h.hla.rg.lt j e).2
      rw [e2] at hj; injection hj with hj; omega
theorem heldQ_given {W W2 : World} {base m cap : Nat} {v u nv : Value} {el : List Hp} {la : Hp} {c : Gv} {o : Obj} (hv : v = .slice (some ⟨m, 0, none⟩) (el.length + 1) cap) (h : HeldQ W base v el la) (hn : IntsQ W (Free base v la) nv c.dv) (hcp : c.cp < 18446744073709551616) (hg : (W.alloc o).grownBy W2 la.gv.ownBlock)
    (hr : W2.ownsRow base 64 2 u (la.gl.length + 1) (rowG la.gl ++ gCells (c, nv))) (hat : u.ownBlock = la.gv.ownBlock ∨ u.ownBlock = some (W.alloc o).heap.size) :
    HeldQ (W2.setCell ⟨m, el.length * 4 + 3, none⟩ u) base v el { la with gl := la.gl ++ [(c, nv)], gv := u } := by
  have hsz : (W.alloc o).heap.size = W.heap.size + 1 := by simp
  have hvm : v.ownBlock = some m := by rw [hv]; rfl
  have hmlt : m < W.heap.size := (h.row.lt m hvm).2
  have hap : Apart (fun j => la.gv.ownBlock = some j ∨ j = m) W (W2.setCell ⟨m, el.length * 4 + 3, none⟩ u) := ((grown_apart hg).wide fun _ => .inl).trans (Apart.setCell (.inr rfl) _ _ _)
  have hKf : ∀ j, Free base v la j → ¬ (la.gv.ownBlock = some j ∨ j = m) := fun j hf hk => by
    rcases hk with hk | rfl
    · exact hf.2.2.2 hk
    · exact hf.2.1 hvm
  have hQ : ∀ j, j < W.heap.size → Free base v la j → Free base v { la with gl := la.gl ++ [(c, nv)], gv := u } j := fun j hj hf => by
    have hu : u.ownBlock ≠ some j := fun e => by
      rcases hat with e2 | e2
      · exact hf.2.2.2 (by rw [← e2]; exact e)
      · rw [e2] at e; injection e with e; omega
    exact ⟨hf.1, hf.2.1, hf.2.2.1, hu⟩
  have hone : ∀ p, OneQ W base (Free base v la) p → (∀ j, p.cv.ownBlock = some j → Free base v la j) → (∀ j, p.gv.ownBlock = some j → Free base v la j) →
      OneQ (W2.setCell ⟨m, el.length * 4 + 3, none⟩ u) base (Free base v { la with gl := la.gl ++ [(c, nv)], gv := u }) p ∧ (∀ j, p.cv.ownBlock = some j → Free base v { la with gl := la.gl ++ [(c, nv)], gv := u } j) ∧ (∀ j, p.gv.ownBlock = some j → Free base v { la with gl := la.gl ++ [(c, nv)], gv := u } j) := fun p hp h1 h2 =>
    ⟨hp.apart hap hKf hQ (fun j hj => hKf j (h1 j hj)) (fun j hj => hKf j (h2 j hj)), fun j hj => hQ j (hp.rc.lt j hj).2 (h1 j hj), fun j hj => hQ j (hp.rg.lt j hj).2 (h2 j hj)⟩
  have hum : u.ownBlock ≠ some m := fun e => by
    rcases hat with e2 | e2
    · exact h.vg m (by rw [← e2]; exact e) hvm
    · rw [e2] at e; injection e with e; omega
  have hrow2 : W2.ownsRow base 67 4 v (el.length + 1) (rowH (el ++ [la])) := row_kept h.row (grown_apart hg) (fun j hj hk => h.vg j hk hj)
  subst hv
  refine ⟨?_, fun p hp => hone p (h.hel p hp).1 (h.hel p hp).2.1 (h.hel p hp).2.2, ⟨?_, ?_, ?_, ?_⟩, ?_, ?_, ?_⟩
  · rw [← set_flat (la := la) (j := 3) (by omega) (by rfl)]
    exact (hrow2.stored _ _).1
  · exact row_kept h.hla.rc hap (fun j hj hk => by
      rcases hk with hk | rfl
      · exact h.cg j hj hk
      · exact h.vc j hj hvm)
  · show World.ownsRow _ base 64 2 u (la.gl ++ [(c, nv)]).length (rowG (la.gl ++ [(c, nv)]))
    rw [rowG_snoc, List.length_append]
    exact row_kept hr (Apart.setCell (K := fun j => j = m) rfl W2 _ _) (fun j hj hk => by subst hk; exact hum hj)
  · exact fun x hx => (h.hla.nc x hx).apart hap hKf hQ
  · intro x hx
    rcases List.mem_append.1 hx with hx | hx
    · exact ⟨(h.hla.ng x hx).1.apart hap hKf hQ, (h.hla.ng x hx).2⟩
    · rw [List.mem_singleton.1 hx]; exact ⟨hn.apart hap hKf hQ, hcp⟩
  · exact fun j hj e => h.vc j hj e
  · intro j hj e
    exact hum (by rw [show (some m : Option Nat) = some j from e]; exact hj)
  · intro j hj e
    rcases hat with e2 | e2
    · exact h.cg j hj (by rw [← e2]; exact e)
    · have := (h.hla.rc.lt j hj).2
      have e3 : some j = some (W.alloc o).heap.size := by rw [← e2]; exact e.symm
      injection e3 with e3; omega
end Go.Proofs.YtlljniaobbbjgaaGreatDoor

namespace Go.Proofs.YtlljniaobbbjgaaGreatDoor
open Go.RowKit
open Qos (Nd Ct Pd nd ct pd)
open Sv (Gv Hd gv hd needTxt needsTxt devsTxt setTxt contWs givenWs lineTxt OkN OkC OkG)
open S1 (Tab strs strs_snoc strs_oneCell ownsRow_cells infoStr itoa_any)
theorem cell_allocV {w : World} {a : Addr} {v : Value} (h : w.cell? a = some v) (o : Obj) : (w.alloc o).cell? a = some v :=
  (((Below.refl w.heap.size w).alloc (Nat.le_refl _) o).cell (World.block_lt_of_cell? w _ h)).trans h
theorem below_drewV {B : Nat} {a w : World} (h : Below B a w) : Below B a w.drew := ⟨h.os, h.tape, h.output, h.size, h.block⟩
/-- The table of powers, wherever memory grew since. -/
def TabUp (w : World) : Prop := Tab w ∧ 1 < w.heap.size
theorem TabUp.below {w w' : World} (h : TabUp w) (hb : Below w.heap.size w w') : TabUp w' := ⟨h.1.below hb h.2, Nat.lt_of_lt_of_le h.2 hb.size⟩
theorem itoaV (x : Int) (w : World) (h0 : 0 ≤ x) (h1 : x ≤ 1125899906842624) (ht : TabUp w) : Calls Tryz.prog 56 #[.int .i64 x] w fun e w' => e = .returned (.string ⟨(Sv.dec x).toArray⟩) ∧ Below w.heap.size w w' := itoa_any x w h0 (by omega) ht.1
set_option maxRecDepth 100000 in
set_option maxHeartbeats 2000000 in
theorem needWord_any (d : Nd) (w : World) (h : OkN d) (ht : TabUp w) : Calls Tryz.prog 79 #[.agg #[.string d.kind, .int .i64 d.many]] w fun e w' => e = .returned (.string ⟨(needTxt d).toArray⟩) ∧ Below w.heap.size w w' := by
  have h1 := (Sv.name_size h.1).2
  have h2 := Sv.dec_le d.many (by have := h.2.2; omega)
  have hk : ByteArray.mk d.kind.data.toList.toArray = d.kind := by simp
  have ea := strcat d.kind.data.toList [58]
  have eb := strcat (d.kind.data.toList ++ [58]) (Sv.dec d.many)
  have HE : Hid (needTxt d = d.kind.data.toList ++ [58] ++ Sv.dec d.many) := rfl
  have hm0 := h.2.1
  have hm1 := h.2.2
  have hks : d.kind.size ≤ 8 := Nat.le_trans (Nat.le_of_eq (by simp)) h1
  rw [hk] at ea
  clear hk
  have HT := hideIt ht
  have HB0 := hideIt (below_drewV ((Below.refl w.heap.size w).alloc (Nat.le_refl _) (.cells #[.string d.kind, .int .i64 d.many] 115)))
  generalize needTxt d = S at *
  generalize d.many = m at *
  generalize d.kind = kd at *
  have q1 : ¬ 9223372036854775807 < kd.size + 1 := by omega
  have q2 : ¬ 9223372036854775807 < kd.size + 1 + (Sv.dec m).length := by omega
  clear h ht
  go_enter Tryz.func79, Tryz.ntmps79
  go_wp2_with fail
  have HS0 := hideIt (show w.heap.size < (w.alloc (.cells #[.string kd, .int .i64 m] 115)).drew.heap.size ∧ (w.alloc (.cells #[.string kd, .int .i64 m] 115)).drew.cell? ⟨w.heap.size, 0, none⟩ = some (.string kd) ∧ (w.alloc (.cells #[.string kd, .int .i64 m] 115)).drew.cell? ⟨w.heap.size, 1, none⟩ = some (.int .i64 m) from ⟨by simp, by simp, by simp⟩)
  refine wp_region_held_drew (S := (fun w' => w'.cell? ⟨w.heap.size, 0, none⟩ = some (.string kd) ∧ w'.cell? ⟨w.heap.size, 1, none⟩ = some (.int .i64 m))) (by kernel_rfl) HS0.out.2 (fun hHeld => ?_)
  refine wpAnyH_take (i := 0) (oi := { dst := some 3, op := Op.fieldAddr 115 (Operand.tmp 1) 0, type := 0, pos := "text.go:57", after := #[], guard := none }) (v := ?v1x0) rfl (by kernel_rfl) (by kernel_rfl) (by kernel_rfl) (fun _ _ _ h => h) (Or.inl ⟨by rfl, ?h1x0⟩) (by assumption) ?r1x0
  case h1x0 =>
    intro w' hSw
    (try dsimp only at hSw)
    go_simp
    first | done | with_reducible rfl | rfl
  (try simp only [Act.put, List.setIfInBounds_toArray, List.set_cons_zero, List.set_cons_succ])
  refine wpAnyH_take (i := 1) (oi := { dst := some 4, op := Op.load 9 (Operand.tmp 3), type := 9, pos := "text.go:57", after := #[{ on := 0, ground := Ground.data }], guard := none }) (v := ?v2x1) rfl (by kernel_rfl) (by kernel_rfl) (by kernel_rfl) (fun _ _ _ h => h) (Or.inl ⟨by rfl, ?h2x1⟩) (by assumption) ?r2x1
  case h2x1 =>
    intro w' hSw
    (try dsimp only at hSw)
    go_simp
    first | done | with_reducible rfl | rfl
  (try simp only [Act.put, List.setIfInBounds_toArray, List.set_cons_zero, List.set_cons_succ])
  refine wpAnyH_take (i := 2) (oi := { dst := some 5, op := Op.binOp BinOp.add 9 (Operand.tmp 4) (Operand.const (Value.string { data := #[58] })) 9, type := 9, pos := "text.go:57", after := #[{ on := 1, ground := Ground.data }], guard := none }) (v := ?v3x2) rfl (by kernel_rfl) (by kernel_rfl) (by kernel_rfl) (fun _ _ _ h => h) (Or.inl ⟨by rfl, ?h3x2⟩) (by assumption) ?r3x2
  case h3x2 =>
    intro w' hSw
    (try dsimp only at hSw)
    go_simp
    first | done | with_reducible rfl | rfl
  (try simp only [Act.put, List.setIfInBounds_toArray, List.set_cons_zero, List.set_cons_succ])
  refine wpAnyH_take (i := 3) (oi := { dst := some 6, op := Op.fieldAddr 115 (Operand.tmp 1) 1, type := 0, pos := "text.go:57", after := #[], guard := none }) (v := ?v4x3) rfl (by kernel_rfl) (by kernel_rfl) (by kernel_rfl) (fun _ _ _ h => h) (Or.inl ⟨by rfl, ?h4x3⟩) (by assumption) ?r4x3
  case h4x3 =>
    intro w' hSw
    (try dsimp only at hSw)
    go_simp
    first | done | with_reducible rfl | rfl
  (try simp only [Act.put, List.setIfInBounds_toArray, List.set_cons_zero, List.set_cons_succ])
  refine wpAnyH_take (i := 4) (oi := { dst := some 7, op := Op.load 3 (Operand.tmp 6), type := 3, pos := "text.go:57", after := #[{ on := 3, ground := Ground.data }], guard := none }) (v := ?v5x4) rfl (by kernel_rfl) (by kernel_rfl) (by kernel_rfl) (fun _ _ _ h => h) (Or.inl ⟨by rfl, ?h5x4⟩) (by assumption) ?r5x4
  case h5x4 =>
    intro w' hSw
    (try dsimp only at hSw)
    go_simp
    first | done | with_reducible rfl | rfl
  (try simp only [Act.put, List.setIfInBounds_toArray, List.set_cons_zero, List.set_cons_succ])
  refine wpAnyH_ready (rs := [5]) (by kernel_rfl) (by simp) (AllReadyH.cons rfl (fun K hK => ?_) AllReadyH.nil)
  go_simp
  go_wp2_with fail
  refine (itoaV m _ (by omega) (by omega) (HT.out.below HB0.out)).mono ?_
  rintro e V1 ⟨rfl, hb⟩
  have HBV1 := hideIt (HB0.out.trans (hb.mono HB0.out.size))
  have HSV1 := hideIt (show w.heap.size < V1.heap.size ∧ (fun w' => w'.cell? ⟨w.heap.size, 0, none⟩ = some (.string kd) ∧ w'.cell? ⟨w.heap.size, 1, none⟩ = some (.int .i64 m)) V1 from ⟨Nat.lt_of_lt_of_le HS0.out.1 hb.size, (hb.cell (p := ⟨w.heap.size, 0, none⟩) HS0.out.1).trans HS0.out.2.1, (hb.cell (p := ⟨w.heap.size, 1, none⟩) HS0.out.1).trans HS0.out.2.2⟩)
  clear hb
  go_wp2_with fail
  refine hK.out _ _ HSV1.out.2 (fun hHeld => ?_)
  clear hK K
  refine wpAnyH_take (i := 6) (oi := { dst := some 9, op := Op.binOp BinOp.add 9 (Operand.tmp 5) (Operand.tmp 8) 9, type := 9, pos := "text.go:57", after := #[{ on := 2, ground := Ground.data }, { on := 5, ground := Ground.data }], guard := none }) (v := ?v6x6) rfl (by kernel_rfl) (by kernel_rfl) (by kernel_rfl) (fun _ _ _ h => h) (Or.inl ⟨by rfl, ?h6x6⟩) (by assumption) ?r6x6
  case h6x6 =>
    intro w' hSw
    (try dsimp only at hSw)
    go_simp
    first | done | with_reducible rfl | rfl
  (try simp only [Act.put, List.setIfInBounds_toArray, List.set_cons_zero, List.set_cons_succ])
  refine wpAnyH_take (i := 7) (oi := { dst := some 2, op := Op.assign (Operand.tmp 9), type := 9, pos := "text.go:57", after := #[{ on := 6, ground := Ground.data }, { on := 5, ground := Ground.chain }, { on := 0, ground := Ground.phase }, { on := 1, ground := Ground.phase }, { on := 2, ground := Ground.phase }, { on := 3, ground := Ground.phase }, { on := 4, ground := Ground.phase }, { on := 5, ground := Ground.phase }, { on := 6, ground := Ground.phase }], guard := none }) (v := ?v7x7) rfl (by kernel_rfl) (by kernel_rfl) (by kernel_rfl) (fun _ _ _ h => h) (Or.inl ⟨by rfl, ?h7x7⟩) (by assumption) ?r7x7
  case h7x7 =>
    intro w' hSw
    (try dsimp only at hSw)
    go_simp
    first | done | with_reducible rfl | rfl
  (try simp only [Act.put, List.setIfInBounds_toArray, List.set_cons_zero, List.set_cons_succ])
  refine wpAnyH_done (by kernel_rfl) ?_ _
  go_wp2_with fail
  go_ret
  exact ⟨by rw [HE.out, List.append_assoc]; rfl, HBV1.out⟩
def needsW (xs : List Nd) (k : Nat) : List (List UInt8) := (xs.take k).map needTxt
theorem needsW_next {xs : List Nd} {k : Nat} (h : k < xs.length) : needsW xs (k + 1) = needsW xs k ++ [needTxt (nd xs k)] := by
  unfold needsW
  rw [List.take_succ_eq_append_getElem h, List.map_append]; simp [nd, h]
theorem needsW_len {xs : List Nd} {k : Nat} (h : k ≤ xs.length) : (needsW xs k).length = k := by
  unfold needsW; simp; omega
theorem needsW_all (xs : List Nd) : needsW xs xs.length = xs.map needTxt := by unfold needsW; rw [List.take_length]
set_option maxRecDepth 100000 in
set_option maxHeartbeats 2000000 in
theorem listNeeds_any (v : Value) (xs : List Nd) (w : World) (h : NeedsAt w v xs) (hx : ∀ x ∈ xs, OkN x) (hl : xs.length ≤ 3) (ht : TabUp w) :
    Calls Tryz.prog 78 #[v, .func (.func 79) #[] #[]] w fun e w' => e = .returned (.string ⟨(needsTxt xs).toArray⟩) ∧ Below w.heap.size w w' := by
  obtain ⟨i0, hi, hz0, hz1, hz2⟩ := info_parts infoStr
  obtain ⟨ao, c, rfl, hm, hr⟩ := h
  have HR := hideIt hr
  have HT := hideIt ht
  have HX := hideIt hx
  clear hr ht hx
  unfold maxLen at hm
  have HJ : Hid (∀ (v : Value) (w1 : World), w1.ownsRow w.heap.size 9 1 v (needsW xs xs.length).length (strs (needsW xs xs.length)) → Calls Tryz.prog 76 #[v, .string ⟨#[44]⟩] w1 fun e w' => e = .returned (.string ⟨(Lib.join (needsW xs xs.length) [44]).toArray⟩) ∧ Below w1.heap.size w1 w') := by
    intro v w1 h
    refine join_any 44 v _ w1 _ h (by rw [needsW_len (Nat.le_refl _)]; omega) ?_
    refine Nat.le_trans (Sv.join_le 44 29 _ fun x hx => ?_) (by rw [needsW_len (Nat.le_refl _)]; omega)
    rw [needsW_all] at hx
    obtain ⟨d, hd, rfl⟩ := List.mem_map.1 hx
    exact Sv.needTxt_le (HX.out d hd)
  have HD : Hid (Sv.orNo (Lib.join (needsW xs xs.length) [44]) = needsTxt xs) := by unfold Hid needsTxt; rw [needsW_all]
  go_enter Tryz.func78, Tryz.ntmps78
  go_wp2_with fail
  go_loopw [5, 10] (fun r i wr => ∃ k : Nat, k ≤ xs.length ∧ i = .int .i64 k ∧ wr.ownsRow w.heap.size 9 1 r (needsW xs k).length (strs (needsW xs k)) ∧ Below w.heap.size w wr) (fun _ i _ => xs.length - (intOf i).toNat)
  case atStart => exact ⟨0, by omega, rfl, World.ownsRow_nil _ _ _ _, Below.refl _ _⟩
  case round =>
    obtain ⟨k, hk, rfl, hrow, hB⟩ := hrel
    by_cases hlt : k < xs.length
    · obtain ⟨b, o, rfl, hb, hc⟩ := HR.out (by omega)
      obtain ⟨d0, d1⟩ := hc k hlt
      have c0 := (hB.cell (p := ⟨b, o + k * 2, none⟩) hb).trans d0
      have c1 := (hB.cell (p := ⟨b, o + k * 2 + 1, none⟩) hb).trans d1
      have HS := hideIt (needsW_next hlt)
      have hle := needsW_len hk
      have hxk := HX.out (nd xs k) (by simp [nd, hlt])
      have hsz := hB.size
      have HBa := hideIt (hB.alloc hB.size (.cells #[.string (nd xs k).kind, .int .i64 (nd xs k).many] 115))
      have HI := hideIt (needWord_any (nd xs k) _ hxk (HT.out.below HBa.out))
      have hrowa := hrow.alloc (.cells #[.string (nd xs k).kind, .int .i64 (nd xs k).many] 115)
      clear hc d0 d1 hxk
      generalize needTxt (nd xs k) = T at *
      generalize (nd xs k).kind = kd at *
      generalize (nd xs k).many = m at *
      go_wp2_with fail
      refine HI.out.mono ?_
      rintro e w1 ⟨rfl, hb1⟩
      have HB1 := hideIt (HBa.out.trans (hb1.mono HBa.out.size))
      have hrow1 := row_belowV hrowa hb1
      have hsz1 := HB1.out.size
      clear hb1
      go_wp2_with (at_builtin; refine wpList_append_own _ rfl _ _ 41 rfl w.heap.size 9 i0 (.string ⟨#[]⟩) 1 16 Tryz.underlying41 hi hz0 hz1 hz2 rfl (by decide) _ _ _ rfl (hrow1.alloc _) ⟨_, 0, none⟩ 1 1 [.string ⟨T.toArray⟩] rfl rfl (cell_one_new _ _ _) (strs_oneCell [T]) (by unfold maxLen; omega) (by omega) (by simp; omega) ?_; intro v' w2 hown' hgrow' _)
      go_roundw
      case rel =>
        refine ⟨k + 1, by omega, by go_num, ?_, ?_⟩
        · rw [HS.out, strs_snoc, List.length_append]; exact hown'
        · exact (HB1.out.alloc HB1.out.size _).grown hgrow' (by simp; omega) (fun j hj => (hrow1.lt j hj).1)
      case measure => simp [intOf]; omega
    · have hke : k = xs.length := by omega
      subst hke
      go_wp2_with fail
      refine (HJ.out _ _ hrow).mono ?_
      rintro e w1 ⟨rfl, hb1⟩
      have hB1 := hB.trans (hb1.mono hB.size)
      go_wp2_with fail
      refine (orNothing_any _ _).mono ?_
      rintro e w2 ⟨rfl, rfl⟩
      go_wp2_with fail
      go_ret
      exact ⟨by rw [← HD.out]; rfl, hB1⟩
/-- Words in memory of the call's own. -/
def WordsAt (base : Nat) (w : World) (v : Value) (ws : List (List UInt8)) : Prop := w.ownsRow base 9 1 v ws.length (strs ws)
theorem words_made (ws : List (List UInt8)) (w : World) (base : Nat) (hb : base ≤ w.heap.size) (hl : ws.length ≤ 1000) : WordsAt base (w.alloc (.cells (strs ws).toArray 9)) (.slice (some ⟨w.heap.size, 0, none⟩) ws.length ws.length) ws := by
  have h := World.ownsRow_made (base := base) (e := 9) (size := 1) w (strs ws).toArray ws.length hb (by unfold maxLen; omega) (by simp [strs])
  refine ⟨by simp [strs], .inr ⟨w.heap.size, ws.length, _, rfl, hb, heap_alloc_new w _, Nat.le_refl _, by unfold maxLen; omega, by simp [strs], ?_⟩⟩
  rw [Nat.mul_one, List.take_of_length_le (by simp [strs])]
set_option maxRecDepth 100000 in
set_option maxHeartbeats 2000000 in
theorem givenWords_any (g : Gv) (dv : Value) (w : World) (hd : IntsOf w dv g.dv) (hg : OkG g) (ht : TabUp w) :
    Calls Tryz.prog 30 #[.agg #[.int .u64 g.cp, dv]] w fun e w' => ∃ v, e = .returned v ∧ WordsAt w.heap.size w' v (givenWs g) ∧ Below w.heap.size w w' := by
  have HT := hideIt ht
  have HB0 := hideIt (below_drewV ((Below.refl w.heap.size w).alloc (Nat.le_refl _) (.cells #[.int .u64 g.cp, dv] 64)))
  have HD := hideIt (fun W (hb : Below w.heap.size w W) => listInts_any dv g.dv W (hd.below hb) hg.2.2 hg.2.1 (HT.out.below hb).1 (HT.out.below hb).2)
  have HX := hideIt (fun W => S1.text_any g.cp W hg.1)
  have HE : Hid (givenWs g = [Sv.orNo (Ost.txt g.cp), devsTxt g.dv]) := rfl
  obtain ⟨da, dc, rfl⟩ := hd.slice
  clear hd hg ht
  generalize devsTxt g.dv = D at *
  generalize g.dv.length = dn at *
  generalize Ost.txt g.cp = X at *
  generalize givenWs g = GW at *
  generalize g.cp = cp at *
  go_enter Tryz.func30, Tryz.ntmps30
  go_wp2_with fail
  have HS0 := hideIt (show w.heap.size < (w.alloc (.cells #[.int .u64 cp, .slice da dn dc] 64)).drew.heap.size ∧ (w.alloc (.cells #[.int .u64 cp, .slice da dn dc] 64)).drew.cell? ⟨w.heap.size, 0, none⟩ = some (.int .u64 cp) ∧ (w.alloc (.cells #[.int .u64 cp, .slice da dn dc] 64)).drew.cell? ⟨w.heap.size, 1, none⟩ = some (.slice da dn dc) from ⟨by simp, by simp, by simp⟩)
  refine wp_region_held_drew (S := (fun w' => w'.cell? ⟨w.heap.size, 0, none⟩ = some (.int .u64 cp) ∧ w'.cell? ⟨w.heap.size, 1, none⟩ = some (.slice da dn dc))) (by kernel_rfl) HS0.out.2 (fun hHeld => ?_)
  refine wpAnyH_take (i := 0) (oi := { dst := some 3, op := Op.fieldAddr 64 (Operand.tmp 1) 0, type := 0, pos := "text.go:63", after := #[], guard := none }) (v := ?v8x0) rfl (by kernel_rfl) (by kernel_rfl) (by kernel_rfl) (fun _ _ _ h => h) (Or.inl ⟨by rfl, ?h8x0⟩) (by assumption) ?r8x0
  case h8x0 =>
    intro w' hSw
    (try dsimp only at hSw)
    go_simp
    first | done | with_reducible rfl | rfl
  (try simp only [Act.put, List.setIfInBounds_toArray, List.set_cons_zero, List.set_cons_succ])
  refine wpAnyH_take (i := 1) (oi := { dst := some 4, op := Op.load 61 (Operand.tmp 3), type := 61, pos := "text.go:63", after := #[{ on := 0, ground := Ground.data }], guard := none }) (v := ?v9x1) rfl (by kernel_rfl) (by kernel_rfl) (by kernel_rfl) (fun _ _ _ h => h) (Or.inl ⟨by rfl, ?h9x1⟩) (by assumption) ?r9x1
  case h9x1 =>
    intro w' hSw
    (try dsimp only at hSw)
    go_simp
    first | done | with_reducible rfl | rfl
  (try simp only [Act.put, List.setIfInBounds_toArray, List.set_cons_zero, List.set_cons_succ])
  refine wpAnyH_take (i := 4) (oi := { dst := some 7, op := Op.fieldAddr 64 (Operand.tmp 1) 1, type := 0, pos := "text.go:63", after := #[], guard := none }) (v := ?v10x4) rfl (by kernel_rfl) (by kernel_rfl) (by kernel_rfl) (fun _ _ _ h => h) (Or.inl ⟨by rfl, ?h10x4⟩) (by assumption) ?r10x4
  case h10x4 =>
    intro w' hSw
    (try dsimp only at hSw)
    go_simp
    first | done | with_reducible rfl | rfl
  (try simp only [Act.put, List.setIfInBounds_toArray, List.set_cons_zero, List.set_cons_succ])
  refine wpAnyH_take (i := 5) (oi := { dst := some 8, op := Op.load 62 (Operand.tmp 7), type := 62, pos := "text.go:63", after := #[{ on := 4, ground := Ground.data }], guard := none }) (v := ?v11x5) rfl (by kernel_rfl) (by kernel_rfl) (by kernel_rfl) (fun _ _ _ h => h) (Or.inl ⟨by rfl, ?h11x5⟩) (by assumption) ?r11x5
  case h11x5 =>
    intro w' hSw
    (try dsimp only at hSw)
    go_simp
    first | done | with_reducible rfl | rfl
  (try simp only [Act.put, List.setIfInBounds_toArray, List.set_cons_zero, List.set_cons_succ])
  refine wpAnyH_ready (rs := [2]) (by kernel_rfl) (by simp) (AllReadyH.cons rfl (fun K hK => ?_) AllReadyH.nil)
  go_simp
  go_wp2_with fail
  refine (HX.out _).mono ?_
  rintro e V1 ⟨rfl, hb⟩
  have HBV1 := hideIt (HB0.out.trans (hb.mono HB0.out.size))
  have HSV1 := hideIt (show w.heap.size < V1.heap.size ∧ (fun w' => w'.cell? ⟨w.heap.size, 0, none⟩ = some (.int .u64 cp) ∧ w'.cell? ⟨w.heap.size, 1, none⟩ = some (.slice da dn dc)) V1 from ⟨Nat.lt_of_lt_of_le HS0.out.1 hb.size, (hb.cell (p := ⟨w.heap.size, 0, none⟩) HS0.out.1).trans HS0.out.2.1, (hb.cell (p := ⟨w.heap.size, 1, none⟩) HS0.out.1).trans HS0.out.2.2⟩)
  clear hb
  go_wp2_with fail
  refine hK.out _ _ HSV1.out.2 (fun hHeld => ?_)
  clear hK K
  refine wpAnyH_ready (rs := [3]) (by kernel_rfl) (by simp) (AllReadyH.cons rfl (fun K hK => ?_) AllReadyH.nil)
  go_simp
  go_wp2_with fail
  refine (orNothing_any _ _).mono ?_
  rintro e V2 ⟨rfl, hVe⟩
  subst hVe
  have HBV2 := HBV1
  have HSV2 := HSV1
  go_wp2_with fail
  refine hK.out _ _ HSV2.out.2 (fun hHeld => ?_)
  clear hK K
  refine wpAnyH_ready (rs := [6]) (by kernel_rfl) (by simp) (AllReadyH.cons rfl (fun K hK => ?_) AllReadyH.nil)
  go_simp
  go_wp2_with fail
  refine (HD.out _ HBV2.out).mono ?_
  rintro e V3 ⟨rfl, hb⟩
  have HBV3 := hideIt (HBV2.out.trans (hb.mono HBV2.out.size))
  have HSV3 := hideIt (show w.heap.size < V3.heap.size ∧ (fun w' => w'.cell? ⟨w.heap.size, 0, none⟩ = some (.int .u64 cp) ∧ w'.cell? ⟨w.heap.size, 1, none⟩ = some (.slice da dn dc)) V3 from ⟨Nat.lt_of_lt_of_le HSV2.out.1 hb.size, (hb.cell (p := ⟨w.heap.size, 0, none⟩) HSV2.out.1).trans HSV2.out.2.1, (hb.cell (p := ⟨w.heap.size, 1, none⟩) HSV2.out.1).trans HSV2.out.2.2⟩)
  clear hb
  go_wp2_with fail
  refine hK.out _ _ HSV3.out.2 (fun hHeld => ?_)
  clear hK K
  refine wpAnyH_ready (rs := [7]) (by kernel_rfl) (by simp) (AllReadyH.cons rfl (fun K hK => ?_) AllReadyH.nil)
  go_simp
  go_wp2_with fail
  have HBV4 := hideIt (HBV3.out.alloc HBV3.out.size (.cells #[.string ⟨(Sv.orNo X).toArray⟩, .string ⟨D.toArray⟩] 9))
  have HSV4 := hideIt (show w.heap.size < (V3.alloc (.cells #[.string ⟨(Sv.orNo X).toArray⟩, .string ⟨D.toArray⟩] 9)).heap.size ∧ (fun w' => w'.cell? ⟨w.heap.size, 0, none⟩ = some (.int .u64 cp) ∧ w'.cell? ⟨w.heap.size, 1, none⟩ = some (.slice da dn dc)) (V3.alloc (.cells #[.string ⟨(Sv.orNo X).toArray⟩, .string ⟨D.toArray⟩] 9)) from ⟨Nat.lt_of_lt_of_le HSV3.out.1 (by simp), cell_allocV HSV3.out.2.1 (.cells #[.string ⟨(Sv.orNo X).toArray⟩, .string ⟨D.toArray⟩] 9), cell_allocV HSV3.out.2.2 (.cells #[.string ⟨(Sv.orNo X).toArray⟩, .string ⟨D.toArray⟩] 9)⟩)
  refine hK.out _ _ HSV4.out.2 (fun hHeld => ?_)
  clear hK K
  refine wpAnyH_take (i := 8) (oi := { dst := some 2, op := Op.assign (Operand.tmp 10), type := 41, pos := "text.go:63", after := #[{ on := 7, ground := Ground.data }, { on := 6, ground := Ground.chain }, { on := 0, ground := Ground.phase }, { on := 1, ground := Ground.phase }, { on := 2, ground := Ground.phase }, { on := 3, ground := Ground.phase }, { on := 4, ground := Ground.phase }, { on := 5, ground := Ground.phase }, { on := 6, ground := Ground.phase }, { on := 7, ground := Ground.phase }], guard := none }) (v := ?v12x8) rfl (by kernel_rfl) (by kernel_rfl) (by kernel_rfl) (fun _ _ _ h => h) (Or.inl ⟨by rfl, ?h12x8⟩) (by assumption) ?r12x8
  case h12x8 =>
    intro w' hSw
    (try dsimp only at hSw)
    go_simp
    first | done | with_reducible rfl | rfl
  (try simp only [Act.put, List.setIfInBounds_toArray, List.set_cons_zero, List.set_cons_succ])
  refine wpAnyH_done (by kernel_rfl) ?_ _
  go_wp2_with fail
  go_ret
  refine ⟨_, rfl, ?_, HBV4.out⟩
  rw [HE.out]
  exact words_made [Sv.orNo X, D] V3 w.heap.size HBV3.out.size (by simp)
end Go.Proofs.YtlljniaobbbjgaaGreatDoor

namespace Go.Proofs.YtlljniaobbbjgaaGreatDoor
open Go.ChangeShapes Go.WideShapes Go.ChangeAt Go.RowKit
open S1 (Tab Mx gTab)
theorem ownV : ownKnob Tryz.prog.godebug = none := by kernel_rfl
theorem gTabTypeV : (Tryz.prog.globals[1]?).map (·.type) = some 184 := by kernel_rfl
theorem cells20V : Tryz.prog.cellsOf 184 = 20 := by kernel_rfl
theorem cells64V : Tryz.prog.cellsOf 60 = 1 := by kernel_rfl
theorem powDataV : (Rows.laid_internal_strconv_uint64pow10 : DataW Unit) = Lib.tabData .u64 Lib.pow10Tab := by kernel_rfl
def tab32 : Array Value := #[.int .u8 0, .int .u8 1, .int .u8 28, .int .u8 2, .int .u8 29, .int .u8 14, .int .u8 24, .int .u8 3, .int .u8 30, .int .u8 22, .int .u8 20, .int .u8 15, .int .u8 25, .int .u8 17, .int .u8 4, .int .u8 8, .int .u8 31, .int .u8 27, .int .u8 13, .int .u8 23, .int .u8 21, .int .u8 19, .int .u8 16, .int .u8 7, .int .u8 26, .int .u8 12, .int .u8 18, .int .u8 6, .int .u8 11, .int .u8 5, .int .u8 10, .int .u8 9]
def tab64 : Array Value := #[.int .u8 0, .int .u8 1, .int .u8 56, .int .u8 2, .int .u8 57, .int .u8 49, .int .u8 28, .int .u8 3, .int .u8 61, .int .u8 58, .int .u8 42, .int .u8 50, .int .u8 38, .int .u8 29, .int .u8 17, .int .u8 4, .int .u8 62, .int .u8 47, .int .u8 59, .int .u8 36, .int .u8 45, .int .u8 43, .int .u8 51, .int .u8 22, .int .u8 53, .int .u8 39, .int .u8 33, .int .u8 30, .int .u8 24, .int .u8 18, .int .u8 12, .int .u8 5, .int .u8 63, .int .u8 55, .int .u8 48, .int .u8 27, .int .u8 60, .int .u8 41, .int .u8 37, .int .u8 16, .int .u8 46, .int .u8 35, .int .u8 44, .int .u8 21, .int .u8 52, .int .u8 32, .int .u8 23, .int .u8 11, .int .u8 54, .int .u8 26, .int .u8 40, .int .u8 15, .int .u8 34, .int .u8 20, .int .u8 31, .int .u8 10, .int .u8 25, .int .u8 14, .int .u8 19, .int .u8 9, .int .u8 13, .int .u8 8, .int .u8 7, .int .u8 6]
def tabAccept : Array Value := #[.int .u8 128, .int .u8 191, .int .u8 160, .int .u8 191, .int .u8 128, .int .u8 159, .int .u8 144, .int .u8 191, .int .u8 128, .int .u8 143, .int .u8 0, .int .u8 0, .int .u8 0, .int .u8 0, .int .u8 0, .int .u8 0, .int .u8 0, .int .u8 0, .int .u8 0, .int .u8 0, .int .u8 0, .int .u8 0, .int .u8 0, .int .u8 0, .int .u8 0, .int .u8 0, .int .u8 0, .int .u8 0, .int .u8 0, .int .u8 0, .int .u8 0, .int .u8 0]
theorem mxV {W : World} (hsh : W.ShapedOpen Tryz.prog) : Mx W := Tryz.laysM219.s1_3 W hsh
theorem tabUpV {W : World} {rest : List (String × DataW Unit)} (h : laidMet Tryz.prog (("math/bits.deBruijn32tab", Rows.laid_math_bits_deBruijn32tab) :: ("math/bits.deBruijn64tab", Rows.laid_math_bits_deBruijn64tab) :: ("internal/strconv.uint64pow10", Rows.laid_internal_strconv_uint64pow10) :: rest) W) : TabUp W := by
  have h2 := laidMet.tail (laidMet.tail h)
  rw [powDataV] at h2
  have ht : Tab W := Lib.tabIs_of_head gTab gTabTypeV Tryz.underlying184 Tryz.underlying60 cells64V cells20V h2
  exact ⟨ht, World.block_lt_of_cell? W ⟨1, 0, none⟩ (ht.cell gTab 0 (by decide))⟩
/-- A world for the witness: the tables hold what their initialisers lay. -/
noncomputable def setWorld (os : Os) : World :=
  { World.holding Tryz.prog os ⟨#[], #[], []⟩ with heap := ((((((World.holding Tryz.prog os ⟨#[], #[], []⟩).heap.modify 1 fun
      | .cells _ t frozen => .cells (Lib.pow10Tab.map (Value.int .u64)).toArray t frozen
      | o => o).modify 2 fun
      | .cells _ t frozen => .cells tab32 t frozen
      | o => o).modify 3 fun
      | .cells _ t frozen => .cells tab64 t frozen
      | o => o).modify 5 fun
      | .cells _ t frozen => .cells tabAccept t frozen
      | o => o).modify 4 fun
      | .cells _ t frozen => .cells (Go.Pinned.utf8FirstZ.map fun (n : Nat) => Value.int .u8 (n : Int)).toArray t frozen
      | o => o) }
end Go.Proofs.YtlljniaobbbjgaaGreatDoor

namespace Go.Proofs.YtlljniaobbbjgaaGreatDoor
open Go.RowKit Go.Shelf
open Ost (splitC cut1)
open Qos (Nd Ct Pd nd)
open Sv (Gv wd)
open S1 (Mx)
/-- Words that lie there. -/
def StrsIn (w : World) (b : Nat) (ws : List (List UInt8)) : Prop := b < w.heap.size ∧ ∀ k, k < ws.length → w.cell? ⟨b, k, none⟩ = some (.string ⟨(wd ws k).toArray⟩)
theorem StrsIn.below {w w' : World} {b : Nat} {ws : List (List UInt8)} (h : StrsIn w b ws) (hb : Below w.heap.size w w') : StrsIn w' b ws :=
  ⟨Nat.lt_of_lt_of_le h.1 hb.size, fun k hk => (hb.cell (p := ⟨b, k, none⟩) h.1).trans (h.2 k hk)⟩
theorem wd_mem {ws : List (List UInt8)} {k : Nat} (h : k < ws.length) : wd ws k ∈ ws := by simp [wd, h]
set_option maxRecDepth 100000 in
set_option maxHeartbeats 1000000 in
theorem readPod_any (b wc : Nat) (ws : List (List UInt8)) (w : World) (h : StrsIn w b ws) (hl : ws.length = 3) (hs : ∀ x ∈ ws, x.length ≤ 10000) :
    Calls Tryz.prog 71 #[.slice (some ⟨b, 0, none⟩) 3 wc] w fun e w' => e = .returned (.tuple #[.agg #[.string ⟨(wd ws 1).toArray⟩, .int .i64 (nOf (wd ws 2)), .slice none 0 0], .bool (gOf (wd ws 2))]) ∧ Below w.heap.size w w' := by
  have HB0 := hideIt ((Below.refl w.heap.size w).alloc (Nat.le_refl _) (.cells #[.string ⟨#[]⟩, .int .i64 0, .slice none 0 0] 59))
  have h2 := HB0.out
  have c1 := ((h.below h2).2 1 (by omega))
  have c2 := ((h.below h2).2 2 (by omega))
  have HN := hideIt (fun W => readNumber_any ⟨(wd ws 2).toArray⟩ W (by have := hs _ (wd_mem (ws := ws) (k := 2) (by omega)); unfold maxLen; show (wd ws 2).length ≤ _; omega))
  rw [show (ByteArray.mk (wd ws 2).toArray).data.toList = wd ws 2 by simp] at HN
  generalize nOf (wd ws 2) = n at *
  generalize gOf (wd ws 2) = g at *
  generalize wd ws 1 = x at *
  generalize wd ws 2 = y at *
  clear h hs hl h2
  go_enter Tryz.func71, Tryz.ntmps71
  go_wp2_with fail
  refine (HN.out _).mono ?_
  rintro e w1 ⟨rfl, rfl⟩
  go_wp2_with fail
  (try simp only [Exit.inBlock, Exit.then])
  refine bodyPost_ret (v := .tuple #[.agg #[.string ⟨x.toArray⟩, .int .i64 n, .slice none 0 0], .bool g]) ?_ rfl ⟨rfl, (Below.refl _ _).alloc (Nat.le_refl _) _⟩
  rw [results_cell_tmp rfl]
  go_simp
def regionsOf : Code → List Code
  | .seq a b => regionsOf a ++ regionsOf b
  | .cond _ a b => regionsOf a ++ regionsOf b
  | .block _ c => regionsOf c
  | .scope c => regionsOf c
  | .loop c => regionsOf c
  | .region i o d => [.region i o d]
  | _ => []
def FrV (G : (Nat → Value) → Act) (P : (Nat → Value) → World → Prop) (a : Act) (w : World) : Prop := ∃ F, a = G F ∧ P F w
theorem FrV.mk {G : (Nat → Value) → Act} {P : (Nat → Value) → World → Prop} {a : Act} {w : World} (h : a = G (fun n => a.tmps.getD n undef)) (hP : P (fun n => a.tmps.getD n undef) w) : FrV G P a w := ⟨_, h, hP⟩
theorem set_heap {W : World} {g : Nat} {cs : Array Value} {t : TypeId} (h : W.heap[g]? = some (.cells cs t (0, 0))) (i : Nat) (v : Value) : (W.setCell ⟨g, i, none⟩ v).heap[g]? = some (.cells (cs.setIfInBounds i v) t (0, 0)) := by
  obtain ⟨hlt, hk⟩ := Array.getElem?_eq_some_iff.1 h
  show (W.heap.modify g _)[g]? = _
  rw [Array.getElem?_eq_getElem (by rw [Array.size_modify]; exact hlt), Array.getElem_modify_self, hk]
  rfl
theorem below_of_drew {N : Nat} {w V : World} (h : Below N w.drew V) : Below N w V := ⟨h.os, h.tape, h.output, h.size, h.block⟩
theorem cell_far {W : World} {b j g i : Nat} {u v : Value} (h : W.cell? ⟨b, j, none⟩ = some u) (hne : b ≠ g) : (W.setCell ⟨g, i, none⟩ v).cell? ⟨b, j, none⟩ = some u :=
  (World.cell?_of_block (a := ⟨b, j, none⟩) (Below.heap_setCell W ⟨g, i, none⟩ v b hne)).trans h
/-- A piece of code that is left at its end alone. -/
def NormalAtV (R : Act → World → Prop) : Exit → Act → World → Prop
  | .normal, a, w => R a w
  | _, _, _ => False
theorem NormalAtV.mk {R : Act → World → Prop} {a : Act} {w : World} (h : R a w) : NormalAtV R .normal a w := h
theorem wp_normalAtV {P : Program} {c : Code} {R : Act → World → Prop} {Q : Exit → Act → World → Prop} {a : Act} {w : World} (h : Code.wp P c (NormalAtV R) a w) (hq : ∀ a w, R a w → Q .normal a w) : Code.wp P c Q a w :=
  wp_mono h fun e a w h => by
    cases e with
    | normal => exact hq _ _ h
    | _ => exact h.elim
noncomputable def contR1 : Code := ((Tryz.f72.body.map regionsOf).getD []).getD 1 .skip
set_option maxRecDepth 100000 in
set_option maxHeartbeats 4000000 in
theorem contR1_any {b wc : Nat} {x y : ByteArray} {m n : Int} {p : Bool} {P : Nat → Value} (w : World) (hb : b < w.heap.size) (hx : w.cell? ⟨b, 2, none⟩ = some (.string x)) (hy : w.cell? ⟨b, 3, none⟩ = some (.string y))
    (HR : Hid (∀ W, Calls Tryz.prog 93 #[.string x, .string y] W fun e w' => e = .returned (.tuple #[.agg #[.int .i64 m, .int .i64 n], .bool p]) ∧ Below W.heap.size W w')) :
    Code.wp Tryz.prog contR1 (NormalAtV (FrV (fun F => { tmps := List.toArray (Value.slice (some ⟨b, 0, none⟩) 9 wc :: undef :: P 2 :: P 3 :: P 4 :: F 5 :: F 6 :: undef :: undef :: undef :: undef :: undef :: undef :: undef :: undef :: undef :: undef :: F 17 :: F 18 :: F 19 :: F 20 :: F 21 :: F 22 :: F 23 :: F 24 :: F 25 :: F 26 :: undef :: undef :: undef :: undef :: undef :: undef :: undef :: undef :: undef :: undef :: undef :: undef :: undef :: undef :: undef :: undef :: undef :: undef :: undef :: undef :: undef :: undef :: undef :: undef :: undef :: undef :: undef :: undef :: undef :: undef :: undef :: undef :: undef :: undef :: undef :: undef :: undef :: undef :: undef :: undef :: undef :: undef :: undef :: undef :: undef :: undef :: undef :: undef :: undef :: undef :: undef :: undef :: undef :: undef :: undef :: undef :: []), defers := [] }) (fun F W' => ∃ B, F 5 = .pointer (some ⟨B, 0, none⟩) ∧ F 6 = .bool p ∧ Below w.heap.size w W' ∧ w.heap.size ≤ B ∧ W'.heap[B]? = some (.cells #[.int .i64 m, .int .i64 n] 53 (0, 0)))))
      { tmps := List.toArray (Value.slice (some ⟨b, 0, none⟩) 9 wc :: undef :: P 2 :: P 3 :: P 4 :: undef :: undef :: undef :: undef :: undef :: undef :: undef :: undef :: undef :: undef :: undef :: undef :: undef :: undef :: undef :: undef :: undef :: undef :: undef :: undef :: undef :: undef :: undef :: undef :: undef :: undef :: undef :: undef :: undef :: undef :: undef :: undef :: undef :: undef :: undef :: undef :: undef :: undef :: undef :: undef :: undef :: undef :: undef :: undef :: undef :: undef :: undef :: undef :: undef :: undef :: undef :: undef :: undef :: undef :: undef :: undef :: undef :: undef :: undef :: undef :: undef :: undef :: undef :: undef :: undef :: undef :: undef :: undef :: undef :: undef :: undef :: undef :: undef :: undef :: undef :: undef :: undef :: undef :: []), defers := [] } w := by
  conv => enter [2]; unfold contR1; whnf
  have HX : Hid (w.drew.cell? ⟨b, 2, none⟩ = some (.string x) ∧ w.drew.cell? ⟨b, 3, none⟩ = some (.string y)) := hideIt ⟨hx, hy⟩
  have HB := hideIt hb
  clear hx hy hb
  refine wp_region_held_drew (S := (fun w' => w'.cell? ⟨b, 2, none⟩ = some (.string x) ∧ w'.cell? ⟨b, 3, none⟩ = some (.string y))) (by kernel_rfl) HX.out (fun hHeld => ?_)
  refine wpAnyH_take (i := 0) (oi := { dst := some 18, op := Op.move (Operand.tmp 0), type := 41, pos := "parse.go:84", after := #[], guard := none }) (v := ?v1x0) rfl (by kernel_rfl) (by kernel_rfl) (by kernel_rfl) (fun _ _ _ h => h) (Or.inl ⟨by rfl, ?h1x0⟩) (by assumption) ?r1x0
  case h1x0 =>
    intro w' hSw
    (try dsimp only at hSw)
    go_simp
    first | done | with_reducible rfl | rfl
  (try simp only [Act.put, List.setIfInBounds_toArray, List.set_cons_zero, List.set_cons_succ])
  refine wpAnyH_take (i := 1) (oi := { dst := some 19, op := Op.indexAddr 41 (Operand.tmp 18) (Operand.const (Value.int IntKind.i64 2)), type := 0, pos := "parse.go:84", after := #[{ on := 0, ground := Ground.data }], guard := none }) (v := ?v2x1) rfl (by kernel_rfl) (by kernel_rfl) (by kernel_rfl) (fun _ _ _ h => h) (Or.inl ⟨by rfl, ?h2x1⟩) (by assumption) ?r2x1
  case h2x1 =>
    intro w' hSw
    (try dsimp only at hSw)
    go_simp
    first | done | with_reducible rfl | rfl
  (try simp only [Act.put, List.setIfInBounds_toArray, List.set_cons_zero, List.set_cons_succ])
  refine wpAnyH_take (i := 2) (oi := { dst := some 20, op := Op.load 9 (Operand.tmp 19), type := 9, pos := "parse.go:84", after := #[{ on := 1, ground := Ground.data }], guard := none }) (v := ?v3x2) rfl (by kernel_rfl) (by kernel_rfl) (by kernel_rfl) (fun _ _ _ h => h) (Or.inl ⟨by rfl, ?h3x2⟩) (by assumption) ?r3x2
  case h3x2 =>
    intro w' hSw
    (try dsimp only at hSw)
    go_simp
    first | done | with_reducible rfl | rfl
  (try simp only [Act.put, List.setIfInBounds_toArray, List.set_cons_zero, List.set_cons_succ])
  refine wpAnyH_take (i := 3) (oi := { dst := some 21, op := Op.move (Operand.tmp 0), type := 41, pos := "parse.go:84", after := #[], guard := none }) (v := ?v4x3) rfl (by kernel_rfl) (by kernel_rfl) (by kernel_rfl) (fun _ _ _ h => h) (Or.inl ⟨by rfl, ?h4x3⟩) (by assumption) ?r4x3
  case h4x3 =>
    intro w' hSw
    (try dsimp only at hSw)
    go_simp
    first | done | with_reducible rfl | rfl
  (try simp only [Act.put, List.setIfInBounds_toArray, List.set_cons_zero, List.set_cons_succ])
  refine wpAnyH_take (i := 4) (oi := { dst := some 22, op := Op.indexAddr 41 (Operand.tmp 21) (Operand.const (Value.int IntKind.i64 3)), type := 0, pos := "parse.go:84", after := #[{ on := 3, ground := Ground.data }], guard := none }) (v := ?v5x4) rfl (by kernel_rfl) (by kernel_rfl) (by kernel_rfl) (fun _ _ _ h => h) (Or.inl ⟨by rfl, ?h5x4⟩) (by assumption) ?r5x4
  case h5x4 =>
    intro w' hSw
    (try dsimp only at hSw)
    go_simp
    first | done | with_reducible rfl | rfl
  (try simp only [Act.put, List.setIfInBounds_toArray, List.set_cons_zero, List.set_cons_succ])
  refine wpAnyH_take (i := 5) (oi := { dst := some 23, op := Op.load 9 (Operand.tmp 22), type := 9, pos := "parse.go:84", after := #[{ on := 4, ground := Ground.data }], guard := none }) (v := ?v6x5) rfl (by kernel_rfl) (by kernel_rfl) (by kernel_rfl) (fun _ _ _ h => h) (Or.inl ⟨by rfl, ?h6x5⟩) (by assumption) ?r6x5
  case h6x5 =>
    intro w' hSw
    (try dsimp only at hSw)
    go_simp
    first | done | with_reducible rfl | rfl
  (try simp only [Act.put, List.setIfInBounds_toArray, List.set_cons_zero, List.set_cons_succ])
  refine wpAnyH_ready (rs := [6, 10]) (by kernel_rfl) (by simp) (AllReadyH.cons rfl (fun K hK => ?o6) (AllReadyH.cons rfl (fun K hK => ?o10) AllReadyH.nil))
  case o6 =>
    go_simp
    go_wp2_with fail
    refine (HR.out _).mono ?_
    rintro e V1 ⟨rfl, hbV⟩
    have HBV := hideIt hbV
    have HX1 := hideIt (show V1.cell? ⟨b, 2, none⟩ = some (.string x) ∧ V1.cell? ⟨b, 3, none⟩ = some (.string y) from ⟨(hbV.cell (p := ⟨b, 2, none⟩) HB.out).trans HX.out.1, (hbV.cell (p := ⟨b, 3, none⟩) HB.out).trans HX.out.2⟩)
    clear hbV
    go_wp2_with fail
    refine hK.out _ _ HX1.out (fun hHeld => ?_)
    clear hK K
    refine wpAnyH_take (i := 7) (oi := { dst := some 17, op := Op.move (Operand.tmp 24), type := 150, pos := "parse.go:84", after := #[{ on := 6, ground := Ground.data }], guard := none }) (v := ?v7x7) rfl (by kernel_rfl) (by kernel_rfl) (by kernel_rfl) (fun _ _ _ h => h) (Or.inl ⟨by rfl, ?h7x7⟩) (by assumption) ?r7x7
    case h7x7 =>
      intro w' hSw
      (try dsimp only at hSw)
      go_simp
      first | done | with_reducible rfl | rfl
    (try simp only [Act.put, List.setIfInBounds_toArray, List.set_cons_zero, List.set_cons_succ])
    refine wpAnyH_take (i := 8) (oi := { dst := some 25, op := Op.extract (Operand.tmp 17) 0, type := 53, pos := "parse.go:84", after := #[{ on := 7, ground := Ground.data }], guard := none }) (v := ?v8x8) rfl (by kernel_rfl) (by kernel_rfl) (by kernel_rfl) (fun _ _ _ h => h) (Or.inl ⟨by rfl, ?h8x8⟩) (by assumption) ?r8x8
    case h8x8 =>
      intro w' hSw
      (try dsimp only at hSw)
      go_simp
      first | done | with_reducible rfl | rfl
    (try simp only [Act.put, List.setIfInBounds_toArray, List.set_cons_zero, List.set_cons_succ])
    refine wpAnyH_take (i := 9) (oi := { dst := some 26, op := Op.extract (Operand.tmp 17) 1, type := 4, pos := "parse.go:84", after := #[{ on := 7, ground := Ground.data }, { on := 11, ground := Ground.gcOnly Departure.lateStores }], guard := none }) (v := ?v9x9) rfl (by kernel_rfl) (by kernel_rfl) (by kernel_rfl) (fun _ _ _ h => h) (Or.inl ⟨by rfl, ?h9x9⟩) (by assumption) ?r9x9
    case h9x9 =>
      intro w' hSw
      (try dsimp only at hSw)
      go_simp
      first | done | with_reducible rfl | rfl
    (try simp only [Act.put, List.setIfInBounds_toArray, List.set_cons_zero, List.set_cons_succ])
    refine wpAnyH_ready (rs := [10]) (by kernel_rfl) (by simp) (AllReadyH.cons rfl (fun K hK => ?_) AllReadyH.nil)
    go_simp
    go_wp2_with fail
    refine hK.out _ _ ⟨cell_allocV HX1.out.1 (.cells #[.int .i64 0, .int .i64 0] 53), cell_allocV HX1.out.2 (.cells #[.int .i64 0, .int .i64 0] 53)⟩ (fun hHeld => ?_)
    clear hK K
    refine wpAnyH_ready (rs := [11]) (by kernel_rfl) (by simp) (AllReadyH.cons rfl (fun K hK => ?_) AllReadyH.nil)
    go_simp
    go_wp2_with fail
    refine hK.out _ _ ⟨cell_allocV HX1.out.1 (.cells #[.int .i64 m, .int .i64 n] 53), cell_allocV HX1.out.2 (.cells #[.int .i64 m, .int .i64 n] 53)⟩ (fun hHeld => ?_)
    clear hK K
    refine wpAnyH_take (i := 12) (oi := { dst := some 6, op := Op.assign (Operand.tmp 26), type := 4, pos := "parse.go:84", after := #[{ on := 9, ground := Ground.data }, { on := 11, ground := Ground.chain }, { on := 0, ground := Ground.phase }, { on := 1, ground := Ground.phase }, { on := 2, ground := Ground.phase }, { on := 3, ground := Ground.phase }, { on := 4, ground := Ground.phase }, { on := 5, ground := Ground.phase }, { on := 6, ground := Ground.phase }, { on := 7, ground := Ground.phase }, { on := 8, ground := Ground.phase }, { on := 9, ground := Ground.phase }, { on := 10, ground := Ground.phase }, { on := 11, ground := Ground.phase }], guard := none }) (v := ?v10x12) rfl (by kernel_rfl) (by kernel_rfl) (by kernel_rfl) (fun _ _ _ h => h) (Or.inl ⟨by rfl, ?h10x12⟩) (by assumption) ?r10x12
    case h10x12 =>
      intro w' hSw
      (try dsimp only at hSw)
      go_simp
      first | done | with_reducible rfl | rfl
    (try simp only [Act.put, List.setIfInBounds_toArray, List.set_cons_zero, List.set_cons_succ])
    refine wpAnyH_done (by kernel_rfl) ?_ _
    refine NormalAtV.mk (FrV.mk (by kernel_rfl) ?_)
    refine ⟨V1.heap.size, rfl, rfl, ?_, ?_, ?_⟩
    · exact (below_of_drew HBV.out).alloc HBV.out.size _
    · exact HBV.out.size
    · exact heap_alloc_new V1 _
  case o10 =>
    go_simp
    go_wp2_with fail
    have HBA0 := hideIt (show Below w.heap.size w (w.alloc (.cells #[.int .i64 0, .int .i64 0] 53)).drew from below_drewV ((Below.refl w.heap.size w).alloc (Nat.le_refl _) (.cells #[.int .i64 0, .int .i64 0] 53)))
    have HXA := hideIt (show (w.alloc (.cells #[.int .i64 0, .int .i64 0] 53)).drew.cell? ⟨b, 2, none⟩ = some (.string x) ∧ (w.alloc (.cells #[.int .i64 0, .int .i64 0] 53)).drew.cell? ⟨b, 3, none⟩ = some (.string y) from ⟨cell_allocV HX.out.1 (.cells #[.int .i64 0, .int .i64 0] 53), cell_allocV HX.out.2 (.cells #[.int .i64 0, .int .i64 0] 53)⟩)
    have hnw : (w.alloc (.cells #[.int .i64 0, .int .i64 0] 53)).drew.heap[w.heap.size]? = some (.cells #[.int .i64 0, .int .i64 0] 53) := heap_alloc_new w _
    have hltA : w.heap.size < (w.alloc (.cells #[.int .i64 0, .int .i64 0] 53)).drew.heap.size := by simp
    have hltB : b < (w.alloc (.cells #[.int .i64 0, .int .i64 0] 53)).drew.heap.size := Nat.lt_trans HB.out hltA
    refine hK.out _ _ HXA.out (fun hHeld => ?_)
    clear hK K
    generalize (w.alloc (.cells #[.int .i64 0, .int .i64 0] 53)).drew = VA at *
    refine wpAnyH_ready (rs := [6]) (by kernel_rfl) (by simp) (AllReadyH.cons rfl (fun K hK => ?_) AllReadyH.nil)
    go_simp
    go_wp2_with fail
    refine (HR.out _).mono ?_
    rintro e V1 ⟨rfl, hbV⟩
    have HBV := hideIt hbV
    have HX1 := hideIt (show V1.cell? ⟨b, 2, none⟩ = some (.string x) ∧ V1.cell? ⟨b, 3, none⟩ = some (.string y) from ⟨(hbV.cell (p := ⟨b, 2, none⟩) hltB).trans HXA.out.1, (hbV.cell (p := ⟨b, 3, none⟩) hltB).trans HXA.out.2⟩)
    clear hbV
    go_wp2_with fail
    refine hK.out _ _ HX1.out (fun hHeld => ?_)
    clear hK K
    refine wpAnyH_take (i := 7) (oi := { dst := some 17, op := Op.move (Operand.tmp 24), type := 150, pos := "parse.go:84", after := #[{ on := 6, ground := Ground.data }], guard := none }) (v := ?v11x7) rfl (by kernel_rfl) (by kernel_rfl) (by kernel_rfl) (fun _ _ _ h => h) (Or.inl ⟨by rfl, ?h11x7⟩) (by assumption) ?r11x7
    case h11x7 =>
      intro w' hSw
      (try dsimp only at hSw)
      go_simp
      first | done | with_reducible rfl | rfl
    (try simp only [Act.put, List.setIfInBounds_toArray, List.set_cons_zero, List.set_cons_succ])
    refine wpAnyH_take (i := 8) (oi := { dst := some 25, op := Op.extract (Operand.tmp 17) 0, type := 53, pos := "parse.go:84", after := #[{ on := 7, ground := Ground.data }], guard := none }) (v := ?v12x8) rfl (by kernel_rfl) (by kernel_rfl) (by kernel_rfl) (fun _ _ _ h => h) (Or.inl ⟨by rfl, ?h12x8⟩) (by assumption) ?r12x8
    case h12x8 =>
      intro w' hSw
      (try dsimp only at hSw)
      go_simp
      first | done | with_reducible rfl | rfl
    (try simp only [Act.put, List.setIfInBounds_toArray, List.set_cons_zero, List.set_cons_succ])
    refine wpAnyH_take (i := 9) (oi := { dst := some 26, op := Op.extract (Operand.tmp 17) 1, type := 4, pos := "parse.go:84", after := #[{ on := 7, ground := Ground.data }, { on := 11, ground := Ground.gcOnly Departure.lateStores }], guard := none }) (v := ?v13x9) rfl (by kernel_rfl) (by kernel_rfl) (by kernel_rfl) (fun _ _ _ h => h) (Or.inl ⟨by rfl, ?h13x9⟩) (by assumption) ?r13x9
    case h13x9 =>
      intro w' hSw
      (try dsimp only at hSw)
      go_simp
      first | done | with_reducible rfl | rfl
    (try simp only [Act.put, List.setIfInBounds_toArray, List.set_cons_zero, List.set_cons_succ])
    have hn1 : V1.heap[w.heap.size]? = some (.cells #[.int .i64 0, .int .i64 0] 53) := (HBV.out.block _ hltA).trans hnw
    have hn2 := set_heap hn1 0 (.int .i64 m)
    have hn3 := set_heap hn2 1 (.int .i64 n)
    have k0 : V1.cell? ⟨w.heap.size, 0, none⟩ = some (.int .i64 0) := by simp [World.cell?, hn1]
    have f0 : V1.frozen? ⟨w.heap.size, 0, none⟩ = false := by simp [World.frozen?, hn1]
    have k1 : (V1.setCell ⟨w.heap.size, 0, none⟩ (.int .i64 m)).cell? ⟨w.heap.size, 1, none⟩ = some (.int .i64 0) := by simp [World.cell?, hn2]
    have f1 : (V1.setCell ⟨w.heap.size, 0, none⟩ (.int .i64 m)).frozen? ⟨w.heap.size, 1, none⟩ = false := by simp [World.frozen?, hn2]
    have hne : b ≠ w.heap.size := by have := HB.out; omega
    have HX3 := hideIt (And.intro (cell_far (cell_far HX1.out.1 (i := 0) (v := .int .i64 m) hne) (i := 1) (v := .int .i64 n) hne) (cell_far (cell_far HX1.out.2 (i := 0) (v := .int .i64 m) hne) (i := 1) (v := .int .i64 n) hne))
    have HH3 := hideIt hn3
    clear hn1 hn2 hn3 hnw hne
    refine wpAnyH_ready (rs := [11]) (by kernel_rfl) (by simp) (AllReadyH.cons rfl (fun K hK => ?_) AllReadyH.nil)
    go_simp
    go_wp2_with fail
    refine hK.out _ _ HX3.out (fun hHeld => ?_)
    clear hK K
    refine wpAnyH_take (i := 12) (oi := { dst := some 6, op := Op.assign (Operand.tmp 26), type := 4, pos := "parse.go:84", after := #[{ on := 9, ground := Ground.data }, { on := 11, ground := Ground.chain }, { on := 0, ground := Ground.phase }, { on := 1, ground := Ground.phase }, { on := 2, ground := Ground.phase }, { on := 3, ground := Ground.phase }, { on := 4, ground := Ground.phase }, { on := 5, ground := Ground.phase }, { on := 6, ground := Ground.phase }, { on := 7, ground := Ground.phase }, { on := 8, ground := Ground.phase }, { on := 9, ground := Ground.phase }, { on := 10, ground := Ground.phase }, { on := 11, ground := Ground.phase }], guard := none }) (v := ?v14x12) rfl (by kernel_rfl) (by kernel_rfl) (by kernel_rfl) (fun _ _ _ h => h) (Or.inl ⟨by rfl, ?h14x12⟩) (by assumption) ?r14x12
    case h14x12 =>
      intro w' hSw
      (try dsimp only at hSw)
      go_simp
      first | done | with_reducible rfl | rfl
    (try simp only [Act.put, List.setIfInBounds_toArray, List.set_cons_zero, List.set_cons_succ])
    refine wpAnyH_done (by kernel_rfl) ?_ _
    refine NormalAtV.mk (FrV.mk (by kernel_rfl) ?_)
    refine ⟨w.heap.size, rfl, rfl, ?_, Nat.le_refl _, HH3.out⟩
    exact (((HBA0.out.trans (HBV.out.mono HBA0.out.size)).setCell (p := ⟨w.heap.size, 0, none⟩) (Nat.le_refl _) _).setCell (p := ⟨w.heap.size, 1, none⟩) (Nat.le_refl _) _)
noncomputable def contR2 : Code := ((Tryz.f72.body.map regionsOf).getD []).getD 2 .skip
set_option maxRecDepth 100000 in
set_option maxHeartbeats 4000000 in
theorem contR2_any {b wc : Nat} {x y : ByteArray} {m n : Int} {p : Bool} {P : Nat → Value} (w : World) (hb : b < w.heap.size) (hx : w.cell? ⟨b, 4, none⟩ = some (.string x)) (hy : w.cell? ⟨b, 5, none⟩ = some (.string y))
    (HR : Hid (∀ W, Calls Tryz.prog 93 #[.string x, .string y] W fun e w' => e = .returned (.tuple #[.agg #[.int .i64 m, .int .i64 n], .bool p]) ∧ Below W.heap.size W w')) :
    Code.wp Tryz.prog contR2 (NormalAtV (FrV (fun F => { tmps := List.toArray (Value.slice (some ⟨b, 0, none⟩) 9 wc :: undef :: P 2 :: P 3 :: P 4 :: P 5 :: P 6 :: F 7 :: F 8 :: undef :: undef :: undef :: undef :: undef :: undef :: undef :: undef :: P 17 :: P 18 :: P 19 :: P 20 :: P 21 :: P 22 :: P 23 :: P 24 :: P 25 :: P 26 :: F 27 :: F 28 :: F 29 :: F 30 :: F 31 :: F 32 :: F 33 :: F 34 :: F 35 :: F 36 :: undef :: undef :: undef :: undef :: undef :: undef :: undef :: undef :: undef :: undef :: undef :: undef :: undef :: undef :: undef :: undef :: undef :: undef :: undef :: undef :: undef :: undef :: undef :: undef :: undef :: undef :: undef :: undef :: undef :: undef :: undef :: undef :: undef :: undef :: undef :: undef :: undef :: undef :: undef :: undef :: undef :: undef :: undef :: undef :: undef :: undef :: []), defers := [] }) (fun F W' => ∃ B, F 7 = .pointer (some ⟨B, 0, none⟩) ∧ F 8 = .bool p ∧ Below w.heap.size w W' ∧ w.heap.size ≤ B ∧ W'.heap[B]? = some (.cells #[.int .i64 m, .int .i64 n] 53 (0, 0)))))
      { tmps := List.toArray (Value.slice (some ⟨b, 0, none⟩) 9 wc :: undef :: P 2 :: P 3 :: P 4 :: P 5 :: P 6 :: undef :: undef :: undef :: undef :: undef :: undef :: undef :: undef :: undef :: undef :: P 17 :: P 18 :: P 19 :: P 20 :: P 21 :: P 22 :: P 23 :: P 24 :: P 25 :: P 26 :: undef :: undef :: undef :: undef :: undef :: undef :: undef :: undef :: undef :: undef :: undef :: undef :: undef :: undef :: undef :: undef :: undef :: undef :: undef :: undef :: undef :: undef :: undef :: undef :: undef :: undef :: undef :: undef :: undef :: undef :: undef :: undef :: undef :: undef :: undef :: undef :: undef :: undef :: undef :: undef :: undef :: undef :: undef :: undef :: undef :: undef :: undef :: undef :: undef :: undef :: undef :: undef :: undef :: undef :: undef :: undef :: []), defers := [] } w := by
  conv => enter [2]; unfold contR2; whnf
  have HX : Hid (w.drew.cell? ⟨b, 4, none⟩ = some (.string x) ∧ w.drew.cell? ⟨b, 5, none⟩ = some (.string y)) := hideIt ⟨hx, hy⟩
  have HB := hideIt hb
  clear hx hy hb
  refine wp_region_held_drew (S := (fun w' => w'.cell? ⟨b, 4, none⟩ = some (.string x) ∧ w'.cell? ⟨b, 5, none⟩ = some (.string y))) (by kernel_rfl) HX.out (fun hHeld => ?_)
  refine wpAnyH_take (i := 0) (oi := { dst := some 28, op := Op.move (Operand.tmp 0), type := 41, pos := "parse.go:85", after := #[], guard := none }) (v := ?v15x0) rfl (by kernel_rfl) (by kernel_rfl) (by kernel_rfl) (fun _ _ _ h => h) (Or.inl ⟨by rfl, ?h15x0⟩) (by assumption) ?r15x0
  case h15x0 =>
    intro w' hSw
    (try dsimp only at hSw)
    go_simp
    first | done | with_reducible rfl | rfl
  (try simp only [Act.put, List.setIfInBounds_toArray, List.set_cons_zero, List.set_cons_succ])
  refine wpAnyH_take (i := 1) (oi := { dst := some 29, op := Op.indexAddr 41 (Operand.tmp 28) (Operand.const (Value.int IntKind.i64 4)), type := 0, pos := "parse.go:85", after := #[{ on := 0, ground := Ground.data }], guard := none }) (v := ?v16x1) rfl (by kernel_rfl) (by kernel_rfl) (by kernel_rfl) (fun _ _ _ h => h) (Or.inl ⟨by rfl, ?h16x1⟩) (by assumption) ?r16x1
  case h16x1 =>
    intro w' hSw
    (try dsimp only at hSw)
    go_simp
    first | done | with_reducible rfl | rfl
  (try simp only [Act.put, List.setIfInBounds_toArray, List.set_cons_zero, List.set_cons_succ])
  refine wpAnyH_take (i := 2) (oi := { dst := some 30, op := Op.load 9 (Operand.tmp 29), type := 9, pos := "parse.go:85", after := #[{ on := 1, ground := Ground.data }], guard := none }) (v := ?v17x2) rfl (by kernel_rfl) (by kernel_rfl) (by kernel_rfl) (fun _ _ _ h => h) (Or.inl ⟨by rfl, ?h17x2⟩) (by assumption) ?r17x2
  case h17x2 =>
    intro w' hSw
    (try dsimp only at hSw)
    go_simp
    first | done | with_reducible rfl | rfl
  (try simp only [Act.put, List.setIfInBounds_toArray, List.set_cons_zero, List.set_cons_succ])
  refine wpAnyH_take (i := 3) (oi := { dst := some 31, op := Op.move (Operand.tmp 0), type := 41, pos := "parse.go:85", after := #[], guard := none }) (v := ?v18x3) rfl (by kernel_rfl) (by kernel_rfl) (by kernel_rfl) (fun _ _ _ h => h) (Or.inl ⟨by rfl, ?h18x3⟩) (by assumption) ?r18x3
  case h18x3 =>
    intro w' hSw
    (try dsimp only at hSw)
    go_simp
    first | done | with_reducible rfl | rfl
  (try simp only [Act.put, List.setIfInBounds_toArray, List.set_cons_zero, List.set_cons_succ])
  refine wpAnyH_take (i := 4) (oi := { dst := some 32, op := Op.indexAddr 41 (Operand.tmp 31) (Operand.const (Value.int IntKind.i64 5)), type := 0, pos := "parse.go:85", after := #[{ on := 3, ground := Ground.data }], guard := none }) (v := ?v19x4) rfl (by kernel_rfl) (by kernel_rfl) (by kernel_rfl) (fun _ _ _ h => h) (Or.inl ⟨by rfl, ?h19x4⟩) (by assumption) ?r19x4
  case h19x4 =>
    intro w' hSw
    (try dsimp only at hSw)
    go_simp
    first | done | with_reducible rfl | rfl
  (try simp only [Act.put, List.setIfInBounds_toArray, List.set_cons_zero, List.set_cons_succ])
  refine wpAnyH_take (i := 5) (oi := { dst := some 33, op := Op.load 9 (Operand.tmp 32), type := 9, pos := "parse.go:85", after := #[{ on := 4, ground := Ground.data }], guard := none }) (v := ?v20x5) rfl (by kernel_rfl) (by kernel_rfl) (by kernel_rfl) (fun _ _ _ h => h) (Or.inl ⟨by rfl, ?h20x5⟩) (by assumption) ?r20x5
  case h20x5 =>
    intro w' hSw
    (try dsimp only at hSw)
    go_simp
    first | done | with_reducible rfl | rfl
  (try simp only [Act.put, List.setIfInBounds_toArray, List.set_cons_zero, List.set_cons_succ])
  refine wpAnyH_ready (rs := [6, 10]) (by kernel_rfl) (by simp) (AllReadyH.cons rfl (fun K hK => ?o6) (AllReadyH.cons rfl (fun K hK => ?o10) AllReadyH.nil))
  case o6 =>
    go_simp
    go_wp2_with fail
    refine (HR.out _).mono ?_
    rintro e V1 ⟨rfl, hbV⟩
    have HBV := hideIt hbV
    have HX1 := hideIt (show V1.cell? ⟨b, 4, none⟩ = some (.string x) ∧ V1.cell? ⟨b, 5, none⟩ = some (.string y) from ⟨(hbV.cell (p := ⟨b, 4, none⟩) HB.out).trans HX.out.1, (hbV.cell (p := ⟨b, 5, none⟩) HB.out).trans HX.out.2⟩)
    clear hbV
    go_wp2_with fail
    refine hK.out _ _ HX1.out (fun hHeld => ?_)
    clear hK K
    refine wpAnyH_take (i := 7) (oi := { dst := some 27, op := Op.move (Operand.tmp 34), type := 150, pos := "parse.go:85", after := #[{ on := 6, ground := Ground.data }], guard := none }) (v := ?v21x7) rfl (by kernel_rfl) (by kernel_rfl) (by kernel_rfl) (fun _ _ _ h => h) (Or.inl ⟨by rfl, ?h21x7⟩) (by assumption) ?r21x7
    case h21x7 =>
      intro w' hSw
      (try dsimp only at hSw)
      go_simp
      first | done | with_reducible rfl | rfl
    (try simp only [Act.put, List.setIfInBounds_toArray, List.set_cons_zero, List.set_cons_succ])
    refine wpAnyH_take (i := 8) (oi := { dst := some 35, op := Op.extract (Operand.tmp 27) 0, type := 53, pos := "parse.go:85", after := #[{ on := 7, ground := Ground.data }], guard := none }) (v := ?v22x8) rfl (by kernel_rfl) (by kernel_rfl) (by kernel_rfl) (fun _ _ _ h => h) (Or.inl ⟨by rfl, ?h22x8⟩) (by assumption) ?r22x8
    case h22x8 =>
      intro w' hSw
      (try dsimp only at hSw)
      go_simp
      first | done | with_reducible rfl | rfl
    (try simp only [Act.put, List.setIfInBounds_toArray, List.set_cons_zero, List.set_cons_succ])
    refine wpAnyH_take (i := 9) (oi := { dst := some 36, op := Op.extract (Operand.tmp 27) 1, type := 4, pos := "parse.go:85", after := #[{ on := 7, ground := Ground.data }, { on := 11, ground := Ground.gcOnly Departure.lateStores }], guard := none }) (v := ?v23x9) rfl (by kernel_rfl) (by kernel_rfl) (by kernel_rfl) (fun _ _ _ h => h) (Or.inl ⟨by rfl, ?h23x9⟩) (by assumption) ?r23x9
    case h23x9 =>
      intro w' hSw
      (try dsimp only at hSw)
      go_simp
      first | done | with_reducible rfl | rfl
    (try simp only [Act.put, List.setIfInBounds_toArray, List.set_cons_zero, List.set_cons_succ])
    refine wpAnyH_ready (rs := [10]) (by kernel_rfl) (by simp) (AllReadyH.cons rfl (fun K hK => ?_) AllReadyH.nil)
    go_simp
    go_wp2_with fail
    refine hK.out _ _ ⟨cell_allocV HX1.out.1 (.cells #[.int .i64 0, .int .i64 0] 53), cell_allocV HX1.out.2 (.cells #[.int .i64 0, .int .i64 0] 53)⟩ (fun hHeld => ?_)
    clear hK K
    refine wpAnyH_ready (rs := [11]) (by kernel_rfl) (by simp) (AllReadyH.cons rfl (fun K hK => ?_) AllReadyH.nil)
    go_simp
    go_wp2_with fail
    refine hK.out _ _ ⟨cell_allocV HX1.out.1 (.cells #[.int .i64 m, .int .i64 n] 53), cell_allocV HX1.out.2 (.cells #[.int .i64 m, .int .i64 n] 53)⟩ (fun hHeld => ?_)
    clear hK K
    refine wpAnyH_take (i := 12) (oi := { dst := some 8, op := Op.assign (Operand.tmp 36), type := 4, pos := "parse.go:85", after := #[{ on := 9, ground := Ground.data }, { on := 11, ground := Ground.chain }, { on := 0, ground := Ground.phase }, { on := 1, ground := Ground.phase }, { on := 2, ground := Ground.phase }, { on := 3, ground := Ground.phase }, { on := 4, ground := Ground.phase }, { on := 5, ground := Ground.phase }, { on := 6, ground := Ground.phase }, { on := 7, ground := Ground.phase }, { on := 8, ground := Ground.phase }, { on := 9, ground := Ground.phase }, { on := 10, ground := Ground.phase }, { on := 11, ground := Ground.phase }], guard := none }) (v := ?v24x12) rfl (by kernel_rfl) (by kernel_rfl) (by kernel_rfl) (fun _ _ _ h => h) (Or.inl ⟨by rfl, ?h24x12⟩) (by assumption) ?r24x12
    case h24x12 =>
      intro w' hSw
      (try dsimp only at hSw)
      go_simp
      first | done | with_reducible rfl | rfl
    (try simp only [Act.put, List.setIfInBounds_toArray, List.set_cons_zero, List.set_cons_succ])
    refine wpAnyH_done (by kernel_rfl) ?_ _
    refine NormalAtV.mk (FrV.mk (by kernel_rfl) ?_)
    refine ⟨V1.heap.size, rfl, rfl, ?_, ?_, ?_⟩
    · exact (below_of_drew HBV.out).alloc HBV.out.size _
    · exact HBV.out.size
    · exact heap_alloc_new V1 _
  case o10 =>
    go_simp
    go_wp2_with fail
    have HBA0 := hideIt (show Below w.heap.size w (w.alloc (.cells #[.int .i64 0, .int .i64 0] 53)).drew from below_drewV ((Below.refl w.heap.size w).alloc (Nat.le_refl _) (.cells #[.int .i64 0, .int .i64 0] 53)))
    have HXA := hideIt (show (w.alloc (.cells #[.int .i64 0, .int .i64 0] 53)).drew.cell? ⟨b, 4, none⟩ = some (.string x) ∧ (w.alloc (.cells #[.int .i64 0, .int .i64 0] 53)).drew.cell? ⟨b, 5, none⟩ = some (.string y) from ⟨cell_allocV HX.out.1 (.cells #[.int .i64 0, .int .i64 0] 53), cell_allocV HX.out.2 (.cells #[.int .i64 0, .int .i64 0] 53)⟩)
    have hnw : (w.alloc (.cells #[.int .i64 0, .int .i64 0] 53)).drew.heap[w.heap.size]? = some (.cells #[.int .i64 0, .int .i64 0] 53) := heap_alloc_new w _
    have hltA : w.heap.size < (w.alloc (.cells #[.int .i64 0, .int .i64 0] 53)).drew.heap.size := by simp
    have hltB : b < (w.alloc (.cells #[.int .i64 0, .int .i64 0] 53)).drew.heap.size := Nat.lt_trans HB.out hltA
    refine hK.out _ _ HXA.out (fun hHeld => ?_)
    clear hK K
    generalize (w.alloc (.cells #[.int .i64 0, .int .i64 0] 53)).drew = VA at *
    refine wpAnyH_ready (rs := [6]) (by kernel_rfl) (by simp) (AllReadyH.cons rfl (fun K hK => ?_) AllReadyH.nil)
    go_simp
    go_wp2_with fail
    refine (HR.out _).mono ?_
    rintro e V1 ⟨rfl, hbV⟩
    have HBV := hideIt hbV
    have HX1 := hideIt (show V1.cell? ⟨b, 4, none⟩ = some (.string x) ∧ V1.cell? ⟨b, 5, none⟩ = some (.string y) from ⟨(hbV.cell (p := ⟨b, 4, none⟩) hltB).trans HXA.out.1, (hbV.cell (p := ⟨b, 5, none⟩) hltB).trans HXA.out.2⟩)
    clear hbV
    go_wp2_with fail
    refine hK.out _ _ HX1.out (fun hHeld => ?_)
    clear hK K
    refine wpAnyH_take (i := 7) (oi := { dst := some 27, op := Op.move (Operand.tmp 34), type := 150, pos := "parse.go:85", after := #[{ on := 6, ground := Ground.data }], guard := none }) (v := ?v25x7) rfl (by kernel_rfl) (by kernel_rfl) (by kernel_rfl) (fun _ _ _ h => h) (Or.inl ⟨by rfl, ?h25x7⟩) (by assumption) ?r25x7
    case h25x7 =>
      intro w' hSw
      (try dsimp only at hSw)
      go_simp
      first | done | with_reducible rfl | rfl
    (try simp only [Act.put, List.setIfInBounds_toArray, List.set_cons_zero, List.set_cons_succ])
    refine wpAnyH_take (i := 8) (oi := { dst := some 35, op := Op.extract (Operand.tmp 27) 0, type := 53, pos := "parse.go:85", after := #[{ on := 7, ground := Ground.data }], guard := none }) (v := ?v26x8) rfl (by kernel_rfl) (by kernel_rfl) (by kernel_rfl) (fun _ _ _ h => h) (Or.inl ⟨by rfl, ?h26x8⟩) (by assumption) ?r26x8
    case h26x8 =>
      intro w' hSw
      (try dsimp only at hSw)
      go_simp
      first | done | with_reducible rfl | rfl
    (try simp only [Act.put, List.setIfInBounds_toArray, List.set_cons_zero, List.set_cons_succ])
    refine wpAnyH_take (i := 9) (oi := { dst := some 36, op := Op.extract (Operand.tmp 27) 1, type := 4, pos := "parse.go:85", after := #[{ on := 7, ground := Ground.data }, { on := 11, ground := Ground.gcOnly Departure.lateStores }], guard := none }) (v := ?v27x9) rfl (by kernel_rfl) (by kernel_rfl) (by kernel_rfl) (fun _ _ _ h => h) (Or.inl ⟨by rfl, ?h27x9⟩) (by assumption) ?r27x9
    case h27x9 =>
      intro w' hSw
      (try dsimp only at hSw)
      go_simp
      first | done | with_reducible rfl | rfl
    (try simp only [Act.put, List.setIfInBounds_toArray, List.set_cons_zero, List.set_cons_succ])
    have hn1 : V1.heap[w.heap.size]? = some (.cells #[.int .i64 0, .int .i64 0] 53) := (HBV.out.block _ hltA).trans hnw
    have hn2 := set_heap hn1 0 (.int .i64 m)
    have hn3 := set_heap hn2 1 (.int .i64 n)
    have k0 : V1.cell? ⟨w.heap.size, 0, none⟩ = some (.int .i64 0) := by simp [World.cell?, hn1]
    have f0 : V1.frozen? ⟨w.heap.size, 0, none⟩ = false := by simp [World.frozen?, hn1]
    have k1 : (V1.setCell ⟨w.heap.size, 0, none⟩ (.int .i64 m)).cell? ⟨w.heap.size, 1, none⟩ = some (.int .i64 0) := by simp [World.cell?, hn2]
    have f1 : (V1.setCell ⟨w.heap.size, 0, none⟩ (.int .i64 m)).frozen? ⟨w.heap.size, 1, none⟩ = false := by simp [World.frozen?, hn2]
    have hne : b ≠ w.heap.size := by have := HB.out; omega
    have HX3 := hideIt (And.intro (cell_far (cell_far HX1.out.1 (i := 0) (v := .int .i64 m) hne) (i := 1) (v := .int .i64 n) hne) (cell_far (cell_far HX1.out.2 (i := 0) (v := .int .i64 m) hne) (i := 1) (v := .int .i64 n) hne))
    have HH3 := hideIt hn3
    clear hn1 hn2 hn3 hnw hne
    refine wpAnyH_ready (rs := [11]) (by kernel_rfl) (by simp) (AllReadyH.cons rfl (fun K hK => ?_) AllReadyH.nil)
    go_simp
    go_wp2_with fail
    refine hK.out _ _ HX3.out (fun hHeld => ?_)
    clear hK K
    refine wpAnyH_take (i := 12) (oi := { dst := some 8, op := Op.assign (Operand.tmp 36), type := 4, pos := "parse.go:85", after := #[{ on := 9, ground := Ground.data }, { on := 11, ground := Ground.chain }, { on := 0, ground := Ground.phase }, { on := 1, ground := Ground.phase }, { on := 2, ground := Ground.phase }, { on := 3, ground := Ground.phase }, { on := 4, ground := Ground.phase }, { on := 5, ground := Ground.phase }, { on := 6, ground := Ground.phase }, { on := 7, ground := Ground.phase }, { on := 8, ground := Ground.phase }, { on := 9, ground := Ground.phase }, { on := 10, ground := Ground.phase }, { on := 11, ground := Ground.phase }], guard := none }) (v := ?v28x12) rfl (by kernel_rfl) (by kernel_rfl) (by kernel_rfl) (fun _ _ _ h => h) (Or.inl ⟨by rfl, ?h28x12⟩) (by assumption) ?r28x12
    case h28x12 =>
      intro w' hSw
      (try dsimp only at hSw)
      go_simp
      first | done | with_reducible rfl | rfl
    (try simp only [Act.put, List.setIfInBounds_toArray, List.set_cons_zero, List.set_cons_succ])
    refine wpAnyH_done (by kernel_rfl) ?_ _
    refine NormalAtV.mk (FrV.mk (by kernel_rfl) ?_)
    refine ⟨w.heap.size, rfl, rfl, ?_, Nat.le_refl _, HH3.out⟩
    exact (((HBA0.out.trans (HBV.out.mono HBA0.out.size)).setCell (p := ⟨w.heap.size, 0, none⟩) (Nat.le_refl _) _).setCell (p := ⟨w.heap.size, 1, none⟩) (Nat.le_refl _) _)
end Go.Proofs.YtlljniaobbbjgaaGreatDoor

