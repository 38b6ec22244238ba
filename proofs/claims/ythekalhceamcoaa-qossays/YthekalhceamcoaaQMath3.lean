/- Limits, as far as they were looked at: no program, no world. -/
import Derived.Test.YthekalhceamcoaaQMath2
namespace Go.Proofs.Ythekalhceamcoaa
namespace Qos
open Dvs (allTo)
/-- The limit, as far as it was looked at. -/
def limTo (f : Ct → Int) (cs : List Ct) (k : Nat) : Int := if allTo (fun j => decide (f (ct cs j) ≠ 0)) k = true then sumTo (fun j => f (ct cs j)) cs.length else 0
theorem limTo_zero (f : Ct → Int) (cs : List Ct) : limTo f cs 0 = sumTo (fun j => f (ct cs j)) cs.length := rfl
theorem limTo_all (f : Ct → Int) (cs : List Ct) : limTo f cs cs.length = lim f cs := rfl
theorem limTo_no {f : Ct → Int} {cs : List Ct} {k : Nat} (h : f (ct cs k) = 0) : limTo f cs (k + 1) = 0 := by
  unfold limTo
  rw [allTo]
  simp [h]
theorem limTo_yes {f : Ct → Int} {cs : List Ct} {k : Nat} (h : f (ct cs k) ≠ 0) : limTo f cs (k + 1) = limTo f cs k := by
  unfold limTo
  rw [allTo]
  simp [h]
end Qos
end Go.Proofs.Ythekalhceamcoaa
