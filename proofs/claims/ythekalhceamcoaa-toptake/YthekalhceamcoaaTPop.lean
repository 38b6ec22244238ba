/- What bits.Count answers: the contract. -/
import Derived.Test.YthekalhceamcoaaSPop
import Derived.Test.YthekalhceamcoaaTBase
import Derived.Laws.Bits128
namespace Go.Proofs.Ythekalhceamcoaa
open Go.RowKit
theorem m0 : Ost.M0 8 = 6148914691236517205 := by decide +kernel
theorem m1 : Ost.M1 8 = 3689348814741910323 := by decide +kernel
theorem m2 : Ost.M2 8 = 1085102592571150095 := by decide +kernel
theorem andN (a : Nat) (m : Nat) (ha : a < 18446744073709551616) (hm : m < 18446744073709551616) (z : Int) (hz : z = (a : Int)) : bits BinOp.and IntKind.u64 z (m : Int) = ((a &&& m : Nat) : Int) := by
  rw [hz]; exact bits_and_u64_nat a m ha hm
theorem wrapN (n : Nat) (z : Int) (hz : z = (n : Int)) (h : n < 18446744073709551616) : IntKind.u64.wrap z = (n : Int) := by
  rw [IntKind.wrap_u64, hz]; omega
theorem ones1 (A : Nat) (hA : A < 18446744073709551616) : IntKind.u64.wrap (bits BinOp.and IntKind.u64 ((A : Int) / 2) 6148914691236517205 + bits BinOp.and IntKind.u64 (A : Int) 6148914691236517205) = ((Ost.p1 8 A : Nat) : Int) ∧ Ost.p1 8 A < 18446744073709551616 := by
  have e1 := andN (A / 2) 6148914691236517205 (by omega) (by omega) ((A : Int) / 2) (by omega)
  have e2 := andN A 6148914691236517205 hA (by omega) (A : Int) rfl
  have l1 : A / 2 &&& 6148914691236517205 ≤ 6148914691236517205 := Nat.and_le_right
  have l2 : A &&& 6148914691236517205 ≤ 6148914691236517205 := Nat.and_le_right
  have hp : Ost.p1 8 A = (A / 2 &&& 6148914691236517205) + (A &&& 6148914691236517205) := by unfold Ost.p1; rw [m0]
  rw [hp]
  refine ⟨?_, by omega⟩
  apply wrapN _ _ _ (by omega)
  rw [show (6148914691236517205 : Int) = ((6148914691236517205 : Nat) : Int) from rfl, e1, e2]
  omega
theorem ones2 (x : Nat) (hx : x < 18446744073709551616) : IntKind.u64.wrap (bits BinOp.and IntKind.u64 ((x : Int) / 4) 3689348814741910323 + bits BinOp.and IntKind.u64 (x : Int) 3689348814741910323) = ((Ost.p2 8 x : Nat) : Int) ∧ Ost.p2 8 x ≤ 7378697629483820646 := by
  have e1 := andN (x / 4) 3689348814741910323 (by omega) (by omega) ((x : Int) / 4) (by omega)
  have e2 := andN x 3689348814741910323 hx (by omega) (x : Int) rfl
  have l1 : x / 4 &&& 3689348814741910323 ≤ 3689348814741910323 := Nat.and_le_right
  have l2 : x &&& 3689348814741910323 ≤ 3689348814741910323 := Nat.and_le_right
  have hp : Ost.p2 8 x = (x / 4 &&& 3689348814741910323) + (x &&& 3689348814741910323) := by unfold Ost.p2; rw [m1]
  rw [hp]
  refine ⟨?_, by omega⟩
  apply wrapN _ _ _ (by omega)
  rw [show (3689348814741910323 : Int) = ((3689348814741910323 : Nat) : Int) from rfl, e1, e2]
  omega
theorem ones3 (x : Nat) (hx : x ≤ 7378697629483820646) : bits BinOp.and IntKind.u64 (IntKind.u64.wrap ((x : Int) / 16 + (x : Int))) 1085102592571150095 = ((Ost.p3 8 x : Nat) : Int) := by
  have hw := wrapN (x / 16 + x) ((x : Int) / 16 + (x : Int)) (by omega) (by omega)
  rw [hw]
  have hp : Ost.p3 8 x = (x / 16 + x) &&& 1085102592571150095 := by unfold Ost.p3; rw [m2]
  rw [hp]
  exact andN (x / 16 + x) 1085102592571150095 (by omega) (by omega) _ rfl
/-- Eight small numbers, in the eight bytes of one. -/
def num8 (a b c d e f g h : Nat) : Nat := a + 256 * (b + 256 * (c + 256 * (d + 256 * (e + 256 * (f + 256 * (g + 256 * h))))))
theorem num8_lt (a b c d e f g h : Nat) (_ha : a ≤ 64) (_hb : b ≤ 64) (_hc : c ≤ 64) (_hd : d ≤ 64) (_he : e ≤ 64) (_hf : f ≤ 64) (_hg : g ≤ 64) (_hh : h ≤ 64) : num8 a b c d e f g h < 4700000000000000000 := by unfold num8; omega
theorem sh8 (a b c d e f g h : Nat) (_ha : a ≤ 8) (_hb : b ≤ 8) (_hc : c ≤ 8) (_hd : d ≤ 8) (_he : e ≤ 8) (_hf : f ≤ 8) (_hg : g ≤ 8) (_hh : h ≤ 8) :
    num8 a b c d e f g h + num8 a b c d e f g h / 256 = num8 (a + b) (b + c) (c + d) (d + e) (e + f) (f + g) (g + h) h := by
  have : num8 a b c d e f g h / 256 = b + 256 * (c + 256 * (d + 256 * (e + 256 * (f + 256 * (g + 256 * h))))) := by unfold num8; omega
  rw [this]; unfold num8; omega
theorem sh16 (a b c d e f g h : Nat) (_ha : a ≤ 16) (_hb : b ≤ 16) (_hc : c ≤ 16) (_hd : d ≤ 16) (_he : e ≤ 16) (_hf : f ≤ 16) (_hg : g ≤ 16) (_hh : h ≤ 16) :
    num8 a b c d e f g h + num8 a b c d e f g h / 65536 = num8 (a + c) (b + d) (c + e) (d + f) (e + g) (f + h) g h := by
  have : num8 a b c d e f g h / 65536 = c + 256 * (d + 256 * (e + 256 * (f + 256 * (g + 256 * h)))) := by unfold num8; omega
  rw [this]; unfold num8; omega
theorem sh32 (a b c d e f g h : Nat) (_ha : a ≤ 32) (_hb : b ≤ 32) (_hc : c ≤ 32) (_hd : d ≤ 32) (_he : e ≤ 32) (_hf : f ≤ 32) (_hg : g ≤ 32) (_hh : h ≤ 32) :
    num8 a b c d e f g h + num8 a b c d e f g h / 4294967296 = num8 (a + e) (b + f) (c + g) (d + h) e f g h := by
  have : num8 a b c d e f g h / 4294967296 = e + 256 * (f + 256 * (g + 256 * h)) := by unfold num8; omega
  rw [this]; unfold num8; omega
theorem num8_mod (a b c d e f g h : Nat) (_ha : a ≤ 64) : num8 a b c d e f g h % 128 = a := by unfold num8; omega
/-- All steps' numbers. -/
theorem steps (A : Nat) (hA : A < 18446744073709551616) : ∃ x1 x2 X Y Z V : Nat,
    IntKind.u64.wrap (bits BinOp.and IntKind.u64 ((A : Int) / 2) 6148914691236517205 + bits BinOp.and IntKind.u64 (A : Int) 6148914691236517205) = (x1 : Int) ∧
    IntKind.u64.wrap (bits BinOp.and IntKind.u64 ((x1 : Int) / 4) 3689348814741910323 + bits BinOp.and IntKind.u64 (x1 : Int) 3689348814741910323) = (x2 : Int) ∧
    bits BinOp.and IntKind.u64 (IntKind.u64.wrap ((x2 : Int) / 16 + (x2 : Int))) 1085102592571150095 = (X : Int) ∧
    IntKind.u64.wrap ((X : Int) + (X : Int) / 256) = (Y : Int) ∧ IntKind.u64.wrap ((Y : Int) + (Y : Int) / 65536) = (Z : Int) ∧ IntKind.u64.wrap ((Z : Int) + (Z : Int) / 4294967296) = (V : Int) ∧
    V % 128 = (Ost.listTo A 64).length ∧ V < 4700000000000000000 := by
  obtain ⟨a, b, c, d, e, f, g, h, ha, hb, hc, hd, he, hf, hg, hh, hX, hS⟩ := Ost.pop_sum A
  have h1 := ones1 A hA
  have h2 := ones2 (Ost.p1 8 A) h1.2
  have h3 := ones3 (Ost.p2 8 (Ost.p1 8 A)) h2.2
  have hX2 : Ost.p3 8 (Ost.p2 8 (Ost.p1 8 A)) = num8 a b c d e f g h := hX
  rw [hX2] at h3
  have l1 := num8_lt a b c d e f g h (by omega) (by omega) (by omega) (by omega) (by omega) (by omega) (by omega) (by omega)
  have s1 := sh8 a b c d e f g h ha hb hc hd he hf hg hh
  have l2 := num8_lt (a + b) (b + c) (c + d) (d + e) (e + f) (f + g) (g + h) h (by omega) (by omega) (by omega) (by omega) (by omega) (by omega) (by omega) (by omega)
  have s2 := sh16 (a + b) (b + c) (c + d) (d + e) (e + f) (f + g) (g + h) h (by omega) (by omega) (by omega) (by omega) (by omega) (by omega) (by omega) (by omega)
  have l3 := num8_lt (a + b + (c + d)) (b + c + (d + e)) (c + d + (e + f)) (d + e + (f + g)) (e + f + (g + h)) (f + g + h) (g + h) h (by omega) (by omega) (by omega) (by omega) (by omega) (by omega) (by omega) (by omega)
  have s3 := sh32 (a + b + (c + d)) (b + c + (d + e)) (c + d + (e + f)) (d + e + (f + g)) (e + f + (g + h)) (f + g + h) (g + h) h (by omega) (by omega) (by omega) (by omega) (by omega) (by omega) (by omega) (by omega)
  have l4 := num8_lt (a + b + (c + d) + (e + f + (g + h))) (b + c + (d + e) + (f + g + h)) (c + d + (e + f) + (g + h)) (d + e + (f + g) + h) (e + f + (g + h)) (f + g + h) (g + h) h (by omega) (by omega) (by omega) (by omega) (by omega) (by omega) (by omega) (by omega)
  refine ⟨_, _, _, num8 (a + b) (b + c) (c + d) (d + e) (e + f) (f + g) (g + h) h, num8 (a + b + (c + d)) (b + c + (d + e)) (c + d + (e + f)) (d + e + (f + g)) (e + f + (g + h)) (f + g + h) (g + h) h, _, h1.1, h2.1, h3, ?_, ?_, ?_, num8_mod (a + b + (c + d) + (e + f + (g + h))) (b + c + (d + e) + (f + g + h)) (c + d + (e + f) + (g + h)) (d + e + (f + g) + h) (e + f + (g + h)) (f + g + h) (g + h) h (by omega) |>.trans (by rw [hS]; omega), l4⟩
  · exact wrapN _ _ (by rw [← s1]; simp) (by omega)
  · exact wrapN _ _ (by rw [← s2]; simp) (by omega)
  · exact wrapN _ _ (by rw [← s3]; simp) (by omega)
set_option maxHeartbeats 1000000 in
theorem ones_any (A : Nat) (w : World) (hA : A < 18446744073709551616) :
    Calls Try.prog 90 #[.int .u64 A] w fun e w' => e = .returned (.int .i64 ((Ost.listTo A 64).length : Nat)) ∧ w' = w := by
  obtain ⟨x1, x2, X, Y, Z, V, r1, r2, r3, r4, r5, r6, e, hV⟩ := steps A hA
  have HE := hideIt e
  clear e
  go_enter Try.func90, Try.ntmps90
  go_wp2_with fail
  go_ret
  refine ⟨?_, rfl⟩
  have e : bits BinOp.and IntKind.i64 (V : Int) 127 = ((Ost.listTo A 64).length : Nat) := by
    rw [i64_and127]; have := HE.out; omega
  exact congrArg (fun z => Ending.returned (.int .i64 z)) e
set_option maxHeartbeats 400000 in
theorem bitsCount_any (A : Nat) (w : World) (hA : A < 18446744073709551616) :
    Calls Try.prog 22 #[.int .u64 A] w fun e w' => e = .returned (.int .i64 ((Ost.listTo A 64).length : Nat)) ∧ w' = w := by
  go_enter Try.func22, Try.ntmps22
  go_wp2_with fail
  refine (ones_any A _ hA).mono ?_
  rintro e w' ⟨rfl, rfl⟩
  go_wp2_with fail
  go_ret
  exact ⟨rfl, rfl⟩
end Go.Proofs.Ythekalhceamcoaa
