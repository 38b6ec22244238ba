/- What the document's own answer to B2 is: the contract of the plain function that tells it. -/
import Derived.Test.YtfnkmlpgfohjnaaDoorRef2
namespace Go.Proofs.YtfnkmlpgfohjnaaDoor
open Go.RowKit
theorem suffix_two (s : ByteArray) (h : 2 ≤ s.size) (a b : UInt8) : Lib.hasSuffix s.data.toList [a, b] = (decide (s[s.size - 2] = a) && decide (s[s.size - 1] = b)) := by
  rcases s with ⟨⟨l⟩⟩
  simp only [ByteArray.size, List.size_toArray] at h
  obtain ⟨t, x, y, rfl⟩ : ∃ t x y, l = t ++ [x, y] := by
    refine ⟨l.take (l.length - 2), l[l.length - 2], l[l.length - 1], ?_⟩
    conv => lhs; rw [← List.take_append_drop (l.length - 2) l]
    congr 1
    rw [List.drop_eq_getElem_cons (by omega)]
    congr 1
    rw [show l.length - 2 + 1 = l.length - 1 by omega, List.drop_eq_getElem_cons (by omega), show l.length - 1 + 1 = l.length by omega]
    simp
  have e1 : (ByteArray.mk (t ++ [x, y]).toArray)[(ByteArray.mk (t ++ [x, y]).toArray).size - 2]'(by simp [ByteArray.size]) = x := by
    show (t ++ [x, y]).toArray[(t ++ [x, y]).toArray.size - 2]'(by simp) = x
    simp
  have e2 : (ByteArray.mk (t ++ [x, y]).toArray)[(ByteArray.mk (t ++ [x, y]).toArray).size - 1]'(by simp [ByteArray.size]) = y := by
    show (t ++ [x, y]).toArray[(t ++ [x, y]).toArray.size - 1]'(by simp) = y
    simp
  rw [e1, e2, Bool.eq_iff_iff, Bool.and_eq_true, decide_eq_true_eq, decide_eq_true_eq, Lib.hasSuffix, List.isSuffixOf_iff_suffix]
  constructor
  · rintro ⟨u, hu⟩
    have := (List.append_inj' hu rfl).2
    simp at this
    exact ⟨this.1.symm, this.2.symm⟩
  · rintro ⟨rfl, rfl⟩
    exact ⟨t, rfl⟩
theorem suffix_short (l : List UInt8) (h : l.length ≤ 1) (a b : UInt8) : Lib.hasSuffix l [a, b] = false := by
  rw [Lib.hasSuffix, ← Bool.not_eq_true, List.isSuffixOf_iff_suffix]
  rintro ⟨u, rfl⟩
  simp at h
/-- What is answered, by how many signs the unit has, and by its size. -/
theorem bytes_fin (l : List UInt8) (d : Nat) (z : Int) (h : Ost.cutUnit l = (l.take (l.length - d), z)) (_hz : 1 ≤ z) :
    (Ost.isNum (l.take (l.length - d)) = false → Ost.bytesOut l = (0, 4)) ∧ (16 < l.length - d → Ost.bytesOut l = (0, 4)) ∧
    (∀ k, Ost.isNum (l.take (l.length - d)) = true → l.length - d ≤ 16 → min (Ost.val (l.take (l.length - d))) (1125899906842624 + 1) = k →
      (1125899906842624 / z < k → Ost.bytesOut l = (0, 1)) ∧ (¬ 1125899906842624 / z < k → Ost.bytesOut l = (k * z, 0))) := by
  have hlen : (l.take (l.length - d)).length = l.length - d := by rw [List.length_take]; omega
  have hle : 1125899906842624 / z ≤ 1125899906842624 := Int.ediv_le_self _ (by omega)
  unfold Ost.bytesOut
  rw [h, Ost.good_of_num 16 _ (by omega), hlen]
  refine ⟨fun hn => by rw [hn]; rfl, fun hl => by rw [decide_eq_false (by omega), Bool.and_false]; rfl, fun k hn hl hk => ?_⟩
  rw [hn, decide_eq_true (by omega)]
  refine ⟨fun hb => ?_, fun hb => ?_⟩
  · simp only [Bool.and_self, if_true]; rw [if_pos (by omega)]
  · have e : Ost.val (l.take (l.length - d)) = k := by omega
    simp only [Bool.and_self, if_true]; rw [e, if_neg hb]
end Go.Proofs.YtfnkmlpgfohjnaaDoor
