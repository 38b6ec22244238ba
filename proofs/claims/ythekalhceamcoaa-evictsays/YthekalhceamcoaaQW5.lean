/- Sums of what pods ask for: contracts of package qos. -/
import Derived.Test.YthekalhceamcoaaQW3
import Derived.Test.YthekalhceamcoaaDPool
namespace Go.Proofs.Ythekalhceamcoaa
open Go.RowKit
open Qos (Nd Ct Pd nd0 ct0 pd0 nd ct pd silent certain classOf quiet sure sumM sumB Mild)
theorem results_cellQ {fn : Func} {p : Tmp} {ty : TypeId} (h : fn.results = #[.cell p ty]) (tmps : Array Value) (P : Program) (w : World) :
    (results fn tmps).run P w = ((asAddr (tmps.getD p undef)).run P w).andThen fun a w₁ => (loadVar ty a).run P w₁ := by
  simp only [results, h]
  simp [Sem.run_bind, Result.andThen]
/-- Two numbers side by side, all its own. -/
def TwoAt (w : World) (B : Nat) (m b : Int) : Prop := (w.cell? ⟨B, 0, none⟩ = some (.int .i64 m) ∧ w.frozen? ⟨B, 0, none⟩ = false) ∧ (w.cell? ⟨B, 1, none⟩ = some (.int .i64 b) ∧ w.frozen? ⟨B, 1, none⟩ = false)
theorem TwoAt.lt {w : World} {B : Nat} {m b : Int} (h : TwoAt w B m b) : B < w.heap.size := World.block_lt_of_cell? w _ h.1.1
theorem TwoAt.kept {w w' : World} {B : Nat} {m b : Int} {g : Option Nat} (h : TwoAt w B m b) (hg : w.grownBy w' g) (hne : some B ≠ g) : TwoAt w' B m b :=
  ⟨⟨(hg.cell_far _ h.lt hne).trans h.1.1, (hg.frozen_far _ h.lt hne).trans h.1.2⟩, ⟨(hg.cell_far _ h.lt hne).trans h.2.1, (hg.frozen_far _ h.lt hne).trans h.2.2⟩⟩
theorem TwoAt.below {w w' : World} {B : Nat} {m b : Int} (h : TwoAt w B m b) (hb : Below w.heap.size w w') : TwoAt w' B m b := h.kept (grown_below hb none) (by simp)
theorem TwoAt.alloc {w : World} {B : Nat} {m b : Int} (h : TwoAt w B m b) (o : Obj) : TwoAt (w.alloc o) B m b := h.below ((Below.refl _ w).alloc (Nat.le_refl _) o)
theorem TwoAt.made (w : World) (t : TypeId) (m b : Int) : TwoAt (w.alloc (.cells #[.int .i64 m, .int .i64 b] t)) w.heap.size m b := ⟨⟨by simp, by simp⟩, ⟨by simp, by simp⟩⟩
theorem TwoAt.set0 {w : World} {B : Nat} {m b : Int} (h : TwoAt w B m b) (n : Int) : TwoAt (w.setCell ⟨B, 0, none⟩ (.int .i64 n)) B n b := by
  obtain ⟨⟨c0, z0⟩, ⟨c1, z1⟩⟩ := h
  refine ⟨⟨?_, (World.frozen?_setCell ..).trans z0⟩, ⟨?_, (World.frozen?_setCell ..).trans z1⟩⟩
  · clear c1; go_simp
  · have hne : (⟨B, 0, none⟩ : Addr) ≠ ⟨B, 1, none⟩ := by intro h; cases h
    rw [World.cell?_setCell_other (h := hne)]; exact c1
theorem TwoAt.set1 {w : World} {B : Nat} {m b : Int} (h : TwoAt w B m b) (n : Int) : TwoAt (w.setCell ⟨B, 1, none⟩ (.int .i64 n)) B m n := by
  obtain ⟨⟨c0, z0⟩, ⟨c1, z1⟩⟩ := h
  refine ⟨⟨?_, (World.frozen?_setCell ..).trans z0⟩, ⟨?_, (World.frozen?_setCell ..).trans z1⟩⟩
  · have hne : (⟨B, 1, none⟩ : Addr) ≠ ⟨B, 0, none⟩ := by intro h; cases h
    rw [World.cell?_setCell_other (h := hne)]; exact c0
  · clear c0; go_simp
theorem below_set2 {K : Nat} {a w : World} (h : Below K a w) (B j : Nat) (v : Value) (hB : K ≤ B) (hw : K ≤ w.heap.size) : Below K a (w.setCell ⟨B, j, none⟩ v) :=
  h.trans (below_grown (grown_setCell w ⟨B, j, none⟩ v) (K := K) hw (fun i hi => by cases hi; exact hB))
set_option maxRecDepth 100000 in
set_option maxHeartbeats 2000000 in
theorem sum_any (p : Pd) (cv : Value) (w : World) (h : ConsAt w cv p.cs) (hmi : Mild p.cs) : Calls Try.prog 49 #[podV p cv] w fun e w' => e = .returned (.agg #[.int .i64 (sumM p.cs p.cs.length), .int .i64 (sumB p.cs p.cs.length)]) ∧ Below w.heap.size w w' := by
  obtain ⟨ao, c, rfl, hm, hr⟩ := h
  have HR := hideIt hr
  clear hr hm
  unfold podV
  have HB0 := hideIt ((((Below.refl w.heap.size w).alloc (Nat.le_refl _) (.cells #[.string p.nm, .int .i64 p.pr, .slice ao p.cs.length c] 60)).alloc (by simp) (.cells #[.int .i64 0, .int .i64 0] 89)).alloc (by simp; omega) (.cells #[.int .i64 0, .int .i64 0] 89))
  have HT0 : Hid (TwoAt (((w.alloc (.cells #[.string p.nm, .int .i64 p.pr, .slice ao p.cs.length c] 60)).alloc (.cells #[.int .i64 0, .int .i64 0] 89)).alloc (.cells #[.int .i64 0, .int .i64 0] 89)) (w.heap.size + 1) 0 0 ∧ TwoAt (((w.alloc (.cells #[.string p.nm, .int .i64 p.pr, .slice ao p.cs.length c] 60)).alloc (.cells #[.int .i64 0, .int .i64 0] 89)).alloc (.cells #[.int .i64 0, .int .i64 0] 89)) (w.heap.size + 1 + 1) 0 0) := by
    constructor
    · have := (TwoAt.made (w.alloc (.cells #[.string p.nm, .int .i64 p.pr, .slice ao p.cs.length c] 60)) 89 0 0).alloc (.cells #[.int .i64 0, .int .i64 0] 89)
      simpa using this
    · have := TwoAt.made ((w.alloc (.cells #[.string p.nm, .int .i64 p.pr, .slice ao p.cs.length c] 60)).alloc (.cells #[.int .i64 0, .int .i64 0] 89)) 89 0 0
      simpa using this
  generalize p.cs = cs at *
  have HMI := hideIt hmi
  have hlen := hmi.1
  clear hmi
  go_enter Try.func49, Try.ntmps49
  go_wp2_with fail
  go_loopw [9] (fun i wr => ∃ k : Nat, k ≤ cs.length ∧ i = .int .i64 k ∧ Below w.heap.size w wr ∧ TwoAt wr (w.heap.size + 1) 0 0 ∧ TwoAt wr (w.heap.size + 1 + 1) (sumM cs k) (sumB cs k)) (fun i _ => cs.length - (intOf i).toNat)
  case atStart => exact ⟨0, by omega, rfl, HB0.out, HT0.out.1, HT0.out.2⟩
  case round =>
    obtain ⟨k, hk, rfl, hB, hT1, hT2⟩ := hrel
    by_cases hlt : k < cs.length
    · obtain ⟨b, o, dv, rfl, hin⟩ := HR.out (by omega)
      have hin := hin.below hB
      obtain ⟨c0, c1, c2, c3, c4, c5⟩ := hin.at hlt
      have hsl : ∃ a n e, dv k = .slice a n e := by
        obtain ⟨a, e, he, _⟩ := (hin.2 k hlt).2
        exact ⟨a, _, e, he⟩
      have hB1 := hideIt (hB.alloc hB.size (.cells #[.string (ct cs k).nm, .int .i64 (ct cs k).am, .int .i64 (ct cs k).ab, .int .i64 (ct cs k).cm, .int .i64 (ct cs k).cb, dv k] 94))
      have hU1 := hT1.alloc (.cells #[.string (ct cs k).nm, .int .i64 (ct cs k).am, .int .i64 (ct cs k).ab, .int .i64 (ct cs k).cm, .int .i64 (ct cs k).cb, dv k] 94)
      have hU2 := hT2.alloc (.cells #[.string (ct cs k).nm, .int .i64 (ct cs k).am, .int .i64 (ct cs k).ab, .int .i64 (ct cs k).cm, .int .i64 (ct cs k).cb, dv k] 94)
      have HBX := BoxAt.made wr (ct cs k) (dv k)
      have HS1 : Hid (sumM cs (k + 1) = sumM cs k + (ct cs k).am) := rfl
      have HS2 : Hid (sumB cs (k + 1) = sumB cs k + (ct cs k).ab) := rfl
      obtain ⟨m1, m2, _⟩ := HMI.out.2 k hlt
      obtain ⟨s1, s2⟩ := Qos.sumM_in HMI.out hk
      obtain ⟨s3, s4⟩ := Qos.sumB_in HMI.out hk
      have hlt2 := hT2.lt
      clear hin hB HB0 HT0
      generalize sumM cs k = M at *
      generalize sumB cs k = N at *
      generalize ct cs k = x at *
      generalize dv k = d at *
      obtain ⟨da, dn, dc, rfl⟩ := hsl
      generalize hW1 : wr.alloc (.cells #[.string x.nm, .int .i64 x.am, .int .i64 x.ab, .int .i64 x.cm, .int .i64 x.cb, .slice da dn dc] 94) = W1 at hU1 hU2 hB1 HBX
      have e1 : wrap64 (M + x.am) = M + x.am := by unfold wrap64; omega
      have e2 : wrap64 (N + x.ab) = N + x.ab := by unfold wrap64; omega
      have HG1 := hideIt (grown_setCell W1 ⟨w.heap.size + 1 + 1, 0, none⟩ (.int .i64 (M + x.am)))
      have HV1 := hideIt (hU1.kept HG1.out (by simp))
      have HV2 := hideIt (hU2.set0 (M + x.am))
      have d2 := (HG1.out.cell_far ⟨wr.heap.size, 2, none⟩ HBX.1 (by simp; omega)).trans HBX.2.2.2.1
      obtain ⟨⟨f1, f2⟩, ⟨f3, f4⟩⟩ := hU2
      obtain ⟨⟨g1, g2⟩, ⟨g3, g4⟩⟩ := HV2.out
      obtain ⟨_, _, b1, _⟩ := HBX
      go_wp2_with fail
      have hz := hB1.out.size
      have HB2 := below_set2 hB1.out (w.heap.size + 1 + 1) 0 (.int .i64 (M + x.am)) (by omega) hz
      refine ⟨⟨k + 1, by omega, by go_num, below_set2 HB2 (w.heap.size + 1 + 1) 1 (.int .i64 (N + x.ab)) (by omega) (by simpa using hz), HV1.out.kept (grown_setCell _ ⟨w.heap.size + 1 + 1, 1, none⟩ (.int .i64 (N + x.ab))) (by simp), ?_⟩, by simp [intOf]; omega⟩
      rw [HS1.out, HS2.out]
      exact HV2.out.set1 _
    · have hke : k = cs.length := by omega
      subst hke
      have hz := hB.size
      have HB1 := hideIt (below_set2 (below_set2 hB (w.heap.size + 1) 0 (.int .i64 (sumM cs cs.length)) (by omega) hz) (w.heap.size + 1) 1 (.int .i64 (sumB cs cs.length)) (by omega) (by simpa using hz))
      have HT3 := hideIt ((hT1.set0 (sumM cs cs.length)).set1 (sumB cs cs.length))
      obtain ⟨⟨f1, f2⟩, ⟨f3, f4⟩⟩ := hT1
      obtain ⟨⟨g1, g2⟩, ⟨g3, g4⟩⟩ := hT2
      clear hB
      go_wp2_with fail
      (try simp only [Exit.inBlock, Exit.then])
      refine bodyPost_ret (v := .agg #[.int .i64 (sumM cs cs.length), .int .i64 (sumB cs cs.length)]) ?_ rfl ⟨rfl, HB1.out⟩
      obtain ⟨⟨g1, g2⟩, ⟨g3, g4⟩⟩ := HT3.out
      rw [results_cellQ rfl]
      clear f1 f2 f3 f4
      go_simp
end Go.Proofs.Ythekalhceamcoaa
