/- Small words that the walks of stage 2 share. -/
import Derived.Test.YthekalhceamcoaaRows
import Derived.Test.YthekalhceamcoaaSMath
import Derived.WalkKit
import Derived.WalkSpells
import Derived.WalkLawsBesides
import Derived.Deep.QuietTactic
import Derived.BigQuiet
namespace Go.Proofs.Ythekalhceamcoaa
open Go.RowKit
theorem two (b : Bool) : b = true ∨ b = false := by cases b <;> simp
theorem hideIt {p : Prop} (h : p) : Hid p := h
/-- An error's number as Go's value. -/
def errV (n : Int) : Value := if n = 0 then .nilIface else .iface 133 (.int .i64 n)
theorem below_drewN {B : Nat} {a w : World} (h : Below B a w) (n : Nat) : Below B a (w.drewN n) := ⟨h.os, h.tape, h.output, h.size, h.block⟩
theorem or_step (s n : Nat) (hs : s < 18446744073709551616) (hn : n < 64) : bits BinOp.or IntKind.u64 (s : Int) (IntKind.u64.wrap (2 ^ n)) = ((s ||| 2 ^ n : Nat) : Int) := by
  have hp : 2 ^ n < 18446744073709551616 := Nat.pow_lt_pow_right (a := 2) (by omega) hn
  rw [show (2 ^ n : Int) = ((2 ^ n : Nat) : Int) by simp]
  generalize 2 ^ n = q at hp ⊢
  rw [IntKind.wrap_u64, show (q : Int) % 18446744073709551616 = (q : Int) by omega]
  exact bits_or_u64_nat s q hs hp
theorem or_lt (a b : Nat) (ha : a < 18446744073709551616) (hb : b < 18446744073709551616) : a ||| b < 18446744073709551616 := Nat.or_lt_two_pow (n := 64) ha hb
theorem pow_lt64 (n : Nat) (h : n < 64) : 2 ^ n < 18446744073709551616 := Nat.pow_lt_pow_right (a := 2) (by omega) h
theorem bit_eq (A n : Nat) (hA : A < 18446744073709551616) : (bits BinOp.and IntKind.u64 ((A : Int) / 2 ^ n) 1 == 1) = A.testBit n := by
  have e : ((A : Int) / 2 ^ n) = ((A / 2 ^ n : Nat) : Int) := by simp
  have hlt : A / 2 ^ n < 18446744073709551616 := Nat.lt_of_le_of_lt (Nat.div_le_self _ _) hA
  rw [e, show (1 : Int) = ((1 : Nat) : Int) from rfl, bits_and_u64_nat _ _ hlt (by omega), Nat.testBit_eq_decide_div_mod_eq, Nat.and_one_is_mod]
  rw [Bool.eq_iff_iff]; simp; omega
end Go.Proofs.Ythekalhceamcoaa
