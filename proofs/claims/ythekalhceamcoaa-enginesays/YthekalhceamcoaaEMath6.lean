/- Small words on bits, and on texts but one: no program, no world. -/
import Derived.Test.YthekalhceamcoaaEMath4
import Derived.Laws.Bits64b
import Derived.WalkKit
namespace Go.Proofs.Ythekalhceamcoaa
namespace Qos
theorem and_1023 (n : Int) : bits .and .i64 n 1023 = n % 1024 := by
  have h1 : (BitVec.ofInt 64 n).toNat = (n % 18446744073709551616).toNat := by rw [BitVec.toNat_ofInt]; rfl
  have h2 : (BitVec.ofInt 64 (1023 : Int)).toNat = 2 ^ 10 - 1 := by decide
  show IntKind.i64.wrap ((BitVec.ofInt 64 n &&& BitVec.ofInt 64 (1023 : Int)).toNat : Int) = _
  rw [BitVec.toNat_and, h1, h2, Nat.and_two_pow_sub_one_eq_mod, IntKind.wrap_i64]
  omega
/-- Which one is left out. -/
def outOf (n : Int) (len : Nat) : Nat := (n % 1024).toNat % len
theorem out_eq (n : Int) {len : Nat} (h : 0 < len) : (n % 1024).tmod len = (outOf n len : Nat) ∧ outOf n len < len := by
  have h0 : 0 ≤ n % 1024 := by omega
  refine ⟨?_, Nat.mod_lt _ h⟩
  unfold outOf
  rw [Int.tmod_eq_emod_of_nonneg h0]
  rw [Int.natCast_emod, Int.toNat_of_nonneg h0]
def butOne (x : ByteArray) (l : List ByteArray) : List ByteArray := l.filter fun s => decide (s ≠ x)
theorem but_yes {l : List ByteArray} {x : ByteArray} {k : Nat} (h : k < l.length) (hne : l.getD k ByteArray.empty ≠ x) : butOne x (l.take (k + 1)) = butOne x (l.take k) ++ [l.getD k ByteArray.empty] := by
  unfold butOne
  rw [List.take_add_one, List.filter_append]
  have : l[k]?.toList = [l.getD k ByteArray.empty] := by simp [h]
  rw [this]
  simp only [List.getD_eq_getElem?_getD] at hne ⊢
  simp [hne]
theorem but_no {l : List ByteArray} {x : ByteArray} {k : Nat} (h : k < l.length) (hne : l.getD k ByteArray.empty = x) : butOne x (l.take (k + 1)) = butOne x (l.take k) := by
  unfold butOne
  rw [List.take_add_one, List.filter_append]
  have : l[k]?.toList = [l.getD k ByteArray.empty] := by simp [h]
  rw [this]
  simp only [List.getD_eq_getElem?_getD] at hne ⊢
  simp [hne]
theorem unlike_of {ps : List Pd} (h : ∀ j, j < ps.length → ∀ i, i < j → (pd ps i).nm ≠ (pd ps j).nm) : Unlike ps := by
  unfold Unlike
  refine List.pairwise_iff_getElem.2 fun i j hi hj hij => ?_
  have hi' : i < ps.length := by simpa using hi
  have hj' : j < ps.length := by simpa using hj
  have := h j hj' i hij
  simp [pd, hi', hj'] at this
  simpa using this
theorem rest_len (ps : List Pd) (k i : Nat) : (restFrom ps k i).length ≤ ps.length := by
  unfold restFrom
  rw [List.length_map]
  refine Nat.le_trans (List.length_filter_le _ _) ?_
  rw [List.length_reverse, List.length_drop, List.length_range]
  omega
theorem rest_mem {ps : List Pd} {k i : Nat} {x : Pd} (h : x ∈ restFrom ps k i) : x ∈ ps := by
  unfold restFrom at h
  rw [List.mem_map] at h
  obtain ⟨j, hj, rfl⟩ := h
  have h2 := List.mem_of_mem_drop (List.mem_reverse.1 (List.mem_filter.1 hj).1)
  rw [List.mem_range] at h2
  simp [pd, h2]
end Qos
end Go.Proofs.Ythekalhceamcoaa
