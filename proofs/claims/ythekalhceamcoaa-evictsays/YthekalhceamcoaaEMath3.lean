/- Totals in two parts: no program, no world. -/
import Derived.Laws.Bits64b
import Derived.WalkKit
namespace Go.Proofs.Ythekalhceamcoaa
namespace Qos
theorem and_low (n : Int) : bits .and .i64 n 1073741823 = n % 1073741824 := by
  have h1 : (BitVec.ofInt 64 n).toNat = (n % 18446744073709551616).toNat := by rw [BitVec.toNat_ofInt]; rfl
  have h2 : (BitVec.ofInt 64 (1073741823 : Int)).toNat = 2 ^ 30 - 1 := by decide
  show IntKind.i64.wrap ((BitVec.ofInt 64 n &&& BitVec.ofInt 64 (1073741823 : Int)).toNat : Int) = _
  rw [BitVec.toNat_and, h1, h2, Nat.and_two_pow_sub_one_eq_mod, IntKind.wrap_i64]
  omega
/-- A total of two parts is so much. -/
def Tot (h l v : Int) : Prop := 0 ≤ l ∧ l < 1073741824 ∧ h * 1073741824 + l = v
theorem Tot.zero : Tot 0 0 0 := ⟨by omega, by omega, by omega⟩
theorem Tot.plus {h l v n : Int} (t : Tot h l v) : Tot (h + n / 1073741824 + (l + n % 1073741824) / 1073741824) ((l + n % 1073741824) % 1073741824) (v + n) := by
  obtain ⟨h1, h2, h3⟩ := t
  exact ⟨by omega, by omega, by omega⟩
theorem Tot.le {h l v h' l' v' : Int} (t : Tot h l v) (t' : Tot h' l' v') : (h < h' ∨ (h = h' ∧ l ≤ l')) ↔ v ≤ v' := by
  obtain ⟨h1, h2, h3⟩ := t
  obtain ⟨g1, g2, g3⟩ := t'
  omega
end Qos
end Go.Proofs.Ythekalhceamcoaa
