/- What hints.For answers: the contract. -/
import Derived.Test.YtlpogejkmigimaaHW2
import Derived.Deep.RegionWith
import Derived.Deep.RegionLaw
import Derived.Deep.AppendLies
namespace Go.Proofs.Ytlpogejkmigimaa
open Go.RowKit
open Ost (N4 sumTo sumOn Sm pop8 isSub masksTo fewTo hintsTo goodH)
set_option maxRecDepth 100000 in
set_option maxHeartbeats 1000000 in
theorem enough_any (q : N4) (m : Nat) (many : Int) (B : Nat) (w : World) (hm : m < 256) (hq : Sm q) (hB : w.cell? ⟨B, 0, none⟩ = some (.int .i64 many)) :
    Calls Try.prog 47 #[v4 q, .int .u8 m, .pointer (some ⟨B, 0, none⟩)] w fun e w' => e = .returned (.bool (decide (many ≤ sumOn q m))) ∧ Below w.heap.size w w' := by
  have hB0 := hideIt ((Below.refl w.heap.size w).alloc (Nat.le_refl _) (.cells #[.int .i64 q.a, .int .i64 q.b, .int .i64 q.c, .int .i64 q.d] 45))
  have hlt := World.block_lt_of_cell? w _ hB
  have hcb := (hB0.out.cell (p := ⟨B, 0, none⟩) hlt).trans hB
  have hl1 := hideIt (Nat.lt_of_lt_of_le hlt hB0.out.size)
  have f4 := Four.made w 45 q.a q.b q.c q.d
  have c0 := f4.c0
  have c1 := f4.c1
  have c2 := f4.c2
  have c3 := f4.c3
  have HT := hideIt (together_any q m)
  clear f4 hB hlt
  unfold v4 at *
  go_enter Try.func47, Try.ntmps47
  go_wp2_with fail
  go_region_with (go_at_call 48; go_loud (refine (HT.out _ hm hq).mono ?_; rintro e w' ⟨rfl, hb⟩; have hc2 := (hb.cell (p := ⟨B, 0, none⟩) hl1.out).trans hcb; have hB3 := hideIt (hB0.out.drew.trans (hb.mono hB0.out.size))))
  all_goals
    go_wp2_with fail
    go_ret
    first
      | exact ⟨rfl, hB3.out⟩
      | exact ⟨rfl, hB3.out.drew⟩
end Go.Proofs.Ytlpogejkmigimaa
