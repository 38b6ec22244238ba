/- What package number's two functions answer: contracts. -/
import Derived.Test.YthekalhceamcoaaRows
import Derived.Test.YthekalhceamcoaaMath
import Derived.WalkKit
import Derived.WalkSpells
import Derived.WalkLawsBesides
namespace Go.Proofs.Ythekalhceamcoaa
open Go.RowKit
set_option maxHeartbeats 400000 in
theorem digit_yes (b : UInt8) (w : World) (h : Ost.isDig b = true) :
    Calls Try.prog 98 #[.int .u8 b.toNat] w fun e w' => e = .returned (.tuple #[.int .i64 (b.toNat - 48), .bool true]) ∧ w' = w := by
  have h1 := ((Ost.isDig_iff b).1 h).1
  have h2 := ((Ost.isDig_iff b).1 h).2
  clear h
  go_enter Try.func98, Try.ntmps98
  go_wp2
  go_ret2
  exact ⟨rfl, rfl⟩
set_option maxHeartbeats 400000 in
theorem digit_no (b : UInt8) (w : World) (h : Ost.isDig b = false) :
    Calls Try.prog 98 #[.int .u8 b.toNat] w fun e w' => e = .returned (.tuple #[.int .i64 0, .bool false]) ∧ w' = w := by
  have h1 := (Ost.isDig_not b).1 h
  clear h
  by_cases h2 : 48 ≤ b.toNat
  · have h3 : 57 < b.toNat := by omega
    clear h1
    go_enter Try.func98, Try.ntmps98
    go_wp2
    go_ret2
    exact ⟨rfl, rfl⟩
  · clear h1
    go_enter Try.func98, Try.ntmps98
    go_wp2
    go_ret2
    exact ⟨rfl, rfl⟩
/-- What number.Read answers. -/
def readOut (m : Int) (l : List UInt8) : Value := if Ost.good m l then .tuple #[.int .i64 (Ost.val l), .bool true] else .tuple #[.int .i64 0, .bool false]
theorem readOut_yes {m : Int} {l : List UInt8} (h : Ost.good m l = true) : readOut m l = .tuple #[.int .i64 (Ost.val l), .bool true] := by simp [readOut, h]
theorem readOut_no {m : Int} {l : List UInt8} (h : Ost.good m l = false) : readOut m l = .tuple #[.int .i64 0, .bool false] := by simp [readOut, h]
end Go.Proofs.Ythekalhceamcoaa
