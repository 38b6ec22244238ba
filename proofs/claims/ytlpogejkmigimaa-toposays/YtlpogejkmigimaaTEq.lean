/- What 'TopoSays' answers: true. -/
import Derived.Test.YtlpogejkmigimaaTSame
import Derived.ChangeKeysEq
namespace Go.Proofs.Ytlpogejkmigimaa
open Go.RowKit
open Ost (Cpu cpu0 chosen fault)
theorem infoInt : (Try.prog.info? 3).map (fun i => (i.zero, i.size, i.bytes)) = some (some (.int .i64 0), 1, 8) := by kernel_rfl
theorem cellsInt : Try.prog.cellsOf 3 = 1 := by kernel_rfl
theorem eq4 (a b c d : Int) (w : World) : Sem.run Try.prog (Op.equalIn 10000 45 (.agg #[.int .i64 a, .int .i64 b, .int .i64 c, .int .i64 d]) (.agg #[.int .i64 a, .int .i64 b, .int .i64 c, .int .i64 d])) w = .ok true w := by
  obtain ⟨i0, hi, _, _, _⟩ := info_parts infoInt
  rw [run_equalIn_array w 9999 _ _ Try.underlying45 hi, cellsInt, show List.range 4 = [0, 1, 2, 3] from rfl]
  simp only [Op.eqItems, Nat.mul_one]
  go_simp
end Go.Proofs.Ytlpogejkmigimaa
