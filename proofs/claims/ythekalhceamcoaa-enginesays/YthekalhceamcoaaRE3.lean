/- Stopping what runs: the contract of (*Engine).Stop. -/
import Derived.Test.YthekalhceamcoaaRE2
namespace Go.Proofs.Ythekalhceamcoaa
open Go.RowKit Go.Maps
/-- Behind a stop. -/
structure Stopped (w w' : World) (Bd Bm n : Nat) (xs : List RV) (p c : ByteArray) (l : Int) (d : Bool) (f : Nat) : Prop where
  disk : DiskZ w' Bd (stepL l d) (stepD l d)
  out : OutR Bd Bm w w'
  no : f ≠ 0 → MapR w' Bm n xs
  yes : f = 0 → MapR w' Bm n (xs.filter fun x => !decide (x.pod = p ∧ x.cont = c))
def stopErr (l : Int) (d has : Bool) : Nat := if stepErr l d ≠ 0 then stepErr l d else if has = true then 0 else 6
set_option maxRecDepth 100000 in
set_option maxHeartbeats 8000000 in
theorem stop_any (Be Bd Bm n : Nat) (xs : List RV) (p c : ByteArray) (l : Int) (d : Bool) (w : World) (he : EngAt w Be Bd Bm) (hm : MapR w Bm n xs) (hd : DiskZ w Bd l d) (hl : -9223372036854775808 ≤ l ∧ l ≤ 9223372036854775807) (hp : p.size ≤ 7000) (hc : c.size ≤ 7000) :
    Calls Try.prog 76 #[.pointer (some ⟨Be, 0, none⟩), .string p, .string c] w fun e w' => e = .returned (errV ((stopErr l d (xs.any fun y => decide (y.pod = p ∧ y.cont = c)) : Nat) : Int)) ∧ Stopped w w' Bd Bm n xs p c l d (stopErr l d (xs.any fun y => decide (y.pod = p ∧ y.cont = c))) := by
  obtain ⟨hn1, hn2, hn3⟩ := apart_eng he hm hd
  obtain ⟨c0, c1⟩ := he.cells
  have HM1 := hideIt hm
  have HST := hideIt (stepD_any Bd l d w hd hl)
  have HE1 := hideIt he
  have hml := hm.lt
  have hdl := hd.lt
  have hel := he.lt
  clear he hm hd
  go_enter Try.func76, Try.ntmps76
  go_wp2_with fail
  refine HST.out.mono ?_
  rintro e w2 ⟨rfl, hz2, ho2⟩
  have HZ2 := hideIt hz2
  have HO2 := hideIt (OutR.of_grown (B1 := Bd) (B2 := Bm) ho2.1 (.inl rfl))
  have HM2 := hideIt (HM1.out.block (ho2.1.block Bm hml (by simpa using hn3.symm)))
  have he2 := HE1.out.block (ho2.1.block Be hel (by simpa using hn1))
  obtain ⟨g0, g1⟩ := he2.cells
  have hsz2 : w2.heap.size = w.heap.size := ho2.2
  clear hz2 ho2 he2 HST HM1 HE1 c0 c1
  by_cases hse : stepErr l d = 0
  · have HSE := hideIt (show stopErr l d (xs.any fun y => decide (y.pod = p ∧ y.cont = c)) = if (xs.any fun y => decide (y.pod = p ∧ y.cont = c)) = true then 0 else 6 from by unfold stopErr; rw [if_neg (by rw [hse]; decide)])
    rw [hse, show errV ((0 : Nat) : Int) = .nilIface from rfl]
    obtain ⟨y, hlk⟩ := HM2.out.look2 p c hp hc
    unfold nameV at hlk
    have hbA := (Below.refl w2.heap.size w2).alloc (Nat.le_refl _) (.cells #[.string p, .string c] 189)
    have hbB := hbA.alloc hbA.size (.cells #[.string ⟨#[]⟩, .string ⟨#[]⟩, .int .u64 0, .slice none 0 0] 119)
    have hbY := hbA.alloc hbA.size (.cells #[.string y.pod, .string y.cont, .int .u64 y.cpus, .slice y.da y.dn y.dc] 119)
    have hq1 := hlk ((w2.alloc (.cells #[.string p, .string c] 189)).drew) ((below_drewR hbA).block Bm (by omega))
    have hq2 := hlk (((w2.alloc (.cells #[.string p, .string c] 189)).alloc (.cells #[.string ⟨#[]⟩, .string ⟨#[]⟩, .int .u64 0, .slice none 0 0] 119)).drew) ((below_drewR hbB).block Bm (by omega))
    have k1 := ((below_drewR hbA).cell (p := ⟨Be, 1, none⟩) (by show Be < _; omega)).trans g1
    have k2 := ((below_drewR hbB).cell (p := ⟨Be, 1, none⟩) (by show Be < _; omega)).trans g1
    have HBY := hideIt (below_drewR hbY)
    have HN := hideIt (show (((w2.alloc (.cells #[.string p, .string c] 189)).alloc (.cells #[.string ⟨#[]⟩, .string ⟨#[]⟩, .int .u64 0, .slice none 0 0] 119)).drew).cell? ⟨w2.heap.size, 0, none⟩ = some (.string p) ∧ (((w2.alloc (.cells #[.string p, .string c] 189)).alloc (.cells #[.string ⟨#[]⟩, .string ⟨#[]⟩, .int .u64 0, .slice none 0 0] 119)).drew).cell? ⟨w2.heap.size, 1, none⟩ = some (.string c) from ⟨by simp, by simp⟩)
    have HNY := hideIt (show (((w2.alloc (.cells #[.string p, .string c] 189)).alloc (.cells #[.string y.pod, .string y.cont, .int .u64 y.cpus, .slice y.da y.dn y.dc] 119)).drew).cell? ⟨w2.heap.size, 0, none⟩ = some (.string p) ∧ (((w2.alloc (.cells #[.string p, .string c] 189)).alloc (.cells #[.string y.pod, .string y.cont, .int .u64 y.cpus, .slice y.da y.dn y.dc] 119)).drew).cell? ⟨w2.heap.size, 1, none⟩ = some (.string c) from ⟨by simp, by simp⟩)
    rw [hsz2] at HN HNY
    obtain ⟨n0, n1⟩ := HN.out
    clear hbA hbB hbY hlk
    unfold RV.val at hq1 hq2
    rcases two (xs.any fun y => decide (y.pod = p ∧ y.cont = c)) with hh | hh
    · rw [hh] at hq1 hq2
      have HH := hideIt hh
      clear hh
      go_wp2_with fail
      go_region
      all_goals
        generalize hW5 : ((w2.alloc (.cells #[.string p, .string c] 189)).alloc (.cells #[.string y.pod, .string y.cont, .int .u64 y.cpus, .slice y.da y.dn y.dc] 119)).drew = W5 at *
        have hbd := below_drewR HBY.out
        obtain ⟨m0, m1⟩ := HNY.out
        have m0' : W5.drew.cell? ⟨w.heap.size, 0, none⟩ = some (.string p) := m0
        have m1' : W5.drew.cell? ⟨w.heap.size, 1, none⟩ = some (.string c) := m1
        have k5 : W5.drew.cell? ⟨Be, 1, none⟩ = some (.map (some Bm)) := (hbd.cell (p := ⟨Be, 1, none⟩) (by show Be < _; omega)).trans g1
        obtain ⟨w7, hdel, hM7, hgr7, hsz7⟩ := (HM2.out.block (hbd.block Bm (by omega))).drop p c hp hc 0
        have HM7 := hideIt hM7
        have HZ7 := hideIt (show DiskZ w7 Bd (stepL l d) (stepD l d) from (hgr7.block Bd (by have := hbd.size; omega) (fun e => hn3 (Option.some.inj e))).trans ((hbd.block Bd (by omega)).trans HZ2.out))
        have HO7 := hideIt ((HO2.out.trans (OutR.of_below hbd)).trans (OutR.of_grown hgr7 (.inr rfl)))
        unfold nameV at hdel
        clear hbd hM7 hgr7 hW5 hq1 hq2 k1 k2 n0 n1 m0 m1
        go_wp2_with fail
        go_region
        all_goals
          go_wp2_with fail
          go_ret
          exact ⟨by rw [HSE.out, if_pos HH.out]; rfl, ⟨HZ7.out, HO7.out, fun h0 => absurd (by rw [HSE.out, if_pos HH.out]) h0, fun _ => HM7.out⟩⟩
    · rw [hh] at hq1 hq2
      have HH := hideIt hh
      clear hh
      go_wp2_with fail
      go_region
      all_goals
        generalize ((w2.alloc (.cells #[.string p, .string c] 189)).alloc (.cells #[.string y.pod, .string y.cont, .int .u64 y.cpus, .slice y.da y.dn y.dc] 119)).drew = W5 at *
        go_wp2_with fail
        go_ret
        exact ⟨by rw [HSE.out, if_neg (by rw [HH.out]; decide)]; rfl, ⟨(HBY.out.block Bd (by omega)).trans HZ2.out, HO2.out.trans (OutR.of_below HBY.out), fun _ => HM2.out.block (HBY.out.block Bm (by omega)), fun h0 => by rw [HSE.out, if_neg (by rw [HH.out]; decide)] at h0; cases h0⟩⟩
  · have h11 := stepErr_pos hse
    have HSE := hideIt (show stopErr l d (xs.any fun y => decide (y.pod = p ∧ y.cont = c)) = 11 from by unfold stopErr; rw [if_pos hse]; exact h11)
    rw [h11, show errV ((11 : Nat) : Int) = .iface 133 (.int .i64 11) from rfl]
    go_wp2_with fail
    go_ret
    exact ⟨by rw [HSE.out]; rfl, ⟨HZ2.out, HO2.out, fun _ => HM2.out, fun h0 => by rw [HSE.out] at h0; cases h0⟩⟩
end Go.Proofs.Ythekalhceamcoaa
