/- What runs, with devices of its own: the contract of engine.apart. -/
import Derived.Test.YthekalhceamcoaaRK6
namespace Go.Proofs.Ythekalhceamcoaa
open Go.RowKit
theorem grown_set (W : World) (b j : Nat) (v : Value) : W.grownBy (W.setCell ⟨b, j, none⟩ v) (some b) :=
  ⟨rfl, rfl, rfl, by simp, fun k _ hk => Below.heap_setCell _ _ _ k (fun e => hk (by rw [e]))⟩
theorem RBox.set0 {W : World} {B : Nat} {x : RV} (h : RBox W B x) (s : ByteArray) : RBox (W.setCell ⟨B, 0, none⟩ (.string s)) B { x with pod := s } := by
  obtain ⟨hlt, hk⟩ := Array.getElem?_eq_some_iff.1 h
  show (W.heap.modify B _)[B]? = _
  rw [Array.getElem?_eq_getElem (by rw [Array.size_modify]; exact hlt), Array.getElem_modify_self, hk]
  rfl
theorem RBox.set1 {W : World} {B : Nat} {x : RV} (h : RBox W B x) (s : ByteArray) : RBox (W.setCell ⟨B, 1, none⟩ (.string s)) B { x with cont := s } := by
  obtain ⟨hlt, hk⟩ := Array.getElem?_eq_some_iff.1 h
  show (W.heap.modify B _)[B]? = _
  rw [Array.getElem?_eq_getElem (by rw [Array.size_modify]; exact hlt), Array.getElem_modify_self, hk]
  rfl
theorem RBox.set2 {W : World} {B : Nat} {x : RV} (h : RBox W B x) (n : Int) : RBox (W.setCell ⟨B, 2, none⟩ (.int .u64 n)) B { x with cpus := n } := by
  obtain ⟨hlt, hk⟩ := Array.getElem?_eq_some_iff.1 h
  show (W.heap.modify B _)[B]? = _
  rw [Array.getElem?_eq_getElem (by rw [Array.size_modify]; exact hlt), Array.getElem_modify_self, hk]
  rfl
theorem RBox.set3 {W : World} {B : Nat} {x : RV} (h : RBox W B x) (a : Option Addr) (n c : Nat) : RBox (W.setCell ⟨B, 3, none⟩ (.slice a n c)) B { x with da := a, dn := n, dc := c } := by
  obtain ⟨hlt, hk⟩ := Array.getElem?_eq_some_iff.1 h
  show (W.heap.modify B _)[B]? = _
  rw [Array.getElem?_eq_getElem (by rw [Array.size_modify]; exact hlt), Array.getElem_modify_self, hk]
  rfl
theorem RBox.frozen {W : World} {B : Nat} {x : RV} (h : RBox W B x) (j : Nat) : W.frozen? ⟨B, j, none⟩ = false := by simp [World.frozen?, show W.heap[B]? = _ from h]
theorem RBox.far {W : World} {B : Nat} {x : RV} (h : RBox W B x) (g j : Nat) (v : Value) (hne : B ≠ g) : RBox (W.setCell ⟨g, j, none⟩ v) B x := (Below.heap_setCell W ⟨g, j, none⟩ v B hne).trans h
theorem RBox.notInt {W : World} {B : Nat} {x : RV} (h : RBox W B x) : ∀ (arr : Array Value) (z : Nat × Nat), W.heap[B]? ≠ some (Obj.cells arr 3 z) := fun arr z e => by
  have := (show W.heap[B]? = _ from h).symm.trans e
  simp at this
theorem results_cellR {fn : Func} {p : Tmp} {ty : TypeId} (h : fn.results = #[.cell p ty]) (tmps : Array Value) (P : Program) (w : World) :
    (results fn tmps).run P w = ((asAddr (tmps.getD p undef)).run P w).andThen fun a w₁ => (loadVar ty a).run P w₁ := by
  simp only [results, h]
  simp [Sem.run_bind, Result.andThen]
/-- Four cells, filled. -/
def fill (W : World) (B : Nat) (x : RV) : World := (((W.setCell ⟨B, 0, none⟩ (.string x.pod)).setCell ⟨B, 1, none⟩ (.string x.cont)).setCell ⟨B, 2, none⟩ (.int .u64 x.cpus)).setCell ⟨B, 3, none⟩ (.slice x.da x.dn x.dc)
theorem RBox.fill {W : World} {B : Nat} {z : RV} (h : RBox W B z) (x : RV) : RBox (fill W B x) B x := (((h.set0 x.pod).set1 x.cont).set2 x.cpus).set3 x.da x.dn x.dc
theorem KInt.fill {W : World} {B : Nat} {z : RV} (h : RBox W B z) (x : RV) : KInt W (fill W B x) := by
  have h0 := h.set0 x.pod
  have h1 := h0.set1 x.cont
  have h2 := h1.set2 x.cpus
  exact (((KInt.grown (grown_set W B 0 _) h.notInt).trans (KInt.grown (grown_set _ B 1 _) h0.notInt)).trans (KInt.grown (grown_set _ B 2 _) h1.notInt)).trans (KInt.grown (grown_set _ B 3 _) h2.notInt)
theorem below_fill {w W : World} {K B : Nat} (h : Below K w W) (hK : K ≤ B) (x : RV) : Below K w (fill W B x) :=
  (((h.setCell (p := ⟨B, 0, none⟩) hK _).setCell (p := ⟨B, 1, none⟩) hK _).setCell (p := ⟨B, 2, none⟩) hK _).setCell (p := ⟨B, 3, none⟩) hK _
set_option maxRecDepth 100000 in
set_option maxHeartbeats 1000000 in
theorem apartR_any (x : RV) (w : World) (h : DevsOk w x) (hn : x.dn ≤ 1000) :
    Calls Try.prog 116 #[.agg #[.string x.pod, .string x.cont, .int .u64 x.cpus, .slice x.da x.dn x.dc]] w fun e w' => ∃ a c, e = .returned (.agg #[.string x.pod, .string x.cont, .int .u64 x.cpus, .slice a x.dn c]) ∧ DevOwn w' { x with da := a, dc := c } ∧ devsOf w' { x with da := a, dc := c } = devsOf w x ∧ DevsFrom w.heap.size { x with da := a, dc := c } ∧ Below w.heap.size w w' := by
  have hb1 := (Below.refl w.heap.size w).alloc (Nat.le_refl _) (.cells #[.string x.pod, .string x.cont, .int .u64 x.cpus, .slice x.da x.dn x.dc] 119)
  have hb2 := hb1.alloc hb1.size (.cells #[.string ⟨#[]⟩, .string ⟨#[]⟩, .int .u64 0, .slice none 0 0] 119)
  have HB2 := hideIt hb2
  have HX := hideIt ((RBox.made w x).alloc (.cells #[.string ⟨#[]⟩, .string ⟨#[]⟩, .int .u64 0, .slice none 0 0] 119))
  have hZ := RBox.made (w.alloc (.cells #[.string x.pod, .string x.cont, .int .u64 x.cpus, .slice x.da x.dn x.dc] 119)) ⟨⟨#[]⟩, ⟨#[]⟩, 0, none, 0, 0⟩
  rw [World.size_alloc] at hZ
  have HZ := hideIt hZ
  obtain ⟨hd1, hd2⟩ := h.below hb2 (fun _ _ _ hg => hg)
  have HCL := hideIt (cloneDevs_any x _ hd1 hn)
  have HD2 := hideIt hd2
  clear hb1 hb2 hZ hd1 hd2
  go_enter Try.func116, Try.ntmps116
  go_wp2_with fail
  generalize (w.alloc (.cells #[.string x.pod, .string x.cont, .int .u64 x.cpus, .slice x.da x.dn x.dc] 119)).alloc (.cells #[.string ⟨#[]⟩, .string ⟨#[]⟩, .int .u64 0, .slice none 0 0] 119) = W2 at *
  refine HCL.out.mono ?_
  rintro e w3 ⟨a, c, rfl, ho, hdv, hdf, hb3⟩
  have HDF := hideIt (show DevsFrom w.heap.size { x with da := a, dc := c } from fun h0 => by
    obtain ⟨g, hg1, hg2⟩ := hdf h0
    exact ⟨g, hg1, Nat.le_trans HB2.out.size hg2⟩)
  have hx3 := HX.out.below hb3
  have hz3 := HZ.out.below hb3
  have HB3 := hideIt (HB2.out.trans (hb3.mono HB2.out.size))
  have HO3 := hideIt ho
  have HDV := hideIt (hdv.trans HD2.out)
  have hc3 := hx3.cells
  obtain ⟨c0, c1, c2, c3⟩ := hc3
  have f3 := hx3.frozen 3
  have hx4 := hx3.set3 a x.dn c
  have hz4 := hz3.far w.heap.size 3 (.slice a x.dn c) (by omega)
  have HK4 := hideIt (KInt.grown (grown_set w3 w.heap.size 3 (.slice a x.dn c)) hx3.notInt)
  have HB4 := hideIt (HB3.out.setCell (p := ⟨w.heap.size, 3, none⟩) (Nat.le_refl _) (.slice a x.dn c))
  clear hdv ho hb3 hdf HX HZ HCL HD2 hx3 hz3
  obtain ⟨d0, d1, d2, d3⟩ := hx4.cells
  obtain ⟨z0, z1, z2, z3⟩ := hz4.cells
  have g0 := hz4.frozen 0
  have g1 := hz4.frozen 1
  have g2 := hz4.frozen 2
  have g3 := hz4.frozen 3
  have HX4 := hideIt hx4
  have HZ4 := hideIt hz4
  clear hx4 hz4
  go_wp2_with fail
  clear c0 c1 c2 c3 d0 d1 d2 d3 z0 z1 z2 z3 g0 g1 g2 g3 f3
  have hF := HZ4.out.fill { x with da := a, dc := c }
  have HK5 := hideIt (KInt.fill HZ4.out { x with da := a, dc := c })
  have HB5 := hideIt (below_fill HB4.out (B := w.heap.size + 1) (by omega) { x with da := a, dc := c })
  obtain ⟨e0, e1, e2, e3⟩ := hF.cells
  have HF : Hid (fill (w3.setCell ⟨w.heap.size, 3, none⟩ (.slice a x.dn c)) (w.heap.size + 1) { x with da := a, dc := c } = ((((w3.setCell ⟨w.heap.size, 3, none⟩ (.slice a x.dn c)).setCell ⟨w.heap.size + 1, 0, none⟩ (.string x.pod)).setCell ⟨w.heap.size + 1, 1, none⟩ (.string x.cont)).setCell ⟨w.heap.size + 1, 2, none⟩ (.int .u64 x.cpus)).setCell ⟨w.heap.size + 1, 3, none⟩ (.slice a x.dn c)) := rfl
  rw [← HF.out]
  clear hF
  generalize fill (w3.setCell ⟨w.heap.size, 3, none⟩ (.slice a x.dn c)) (w.heap.size + 1) { x with da := a, dc := c } = W5 at *
  obtain ⟨ho5, hd5⟩ := HO3.out.kept (HK4.out.trans HK5.out)
  refine bodyPost_ret (v := .agg #[.string x.pod, .string x.cont, .int .u64 x.cpus, .slice a x.dn c]) ?_ rfl ⟨a, c, rfl, ho5, hd5.trans HDV.out, HDF.out, HB5.out⟩
  rw [results_cellR rfl]
  clear ho5 hd5 HO3 HDF HDV HB5 HK5 HK4 HF HZ4 HX4 HB4 HB3 HB2
  go_simp
end Go.Proofs.Ythekalhceamcoaa
