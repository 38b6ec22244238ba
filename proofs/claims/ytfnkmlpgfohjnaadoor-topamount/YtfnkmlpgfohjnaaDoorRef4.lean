/- What the document's own answer to B2 is: out of its cases. -/
import Derived.Test.YtfnkmlpgfohjnaaDoorRef4b
import Derived.Test.YtfnkmlpgfohjnaaDoorRef4c
import Derived.Test.YtfnkmlpgfohjnaaDoorRef4d
namespace Go.Proofs.YtfnkmlpgfohjnaaDoor
open Go.RowKit
theorem refBytes_any (s : ByteArray) (w : World) (hs : s.size ≤ 100) :
    Calls Tryd.prog 28 #[.string s] w fun e w' => e = .returned (twoNums (Ost.bytesOut s.data.toList)) ∧ w' = w := by
  by_cases h1 : 2 ≤ s.size
  · by_cases h2 : s[s.size - 1].toNat = 105
    · by_cases a : s[s.size - 2].toNat = 75
      · exact refBytes_k s w hs h1 h2 a
      by_cases b : s[s.size - 2].toNat = 77
      · exact refBytes_m s w hs h1 h2 b
      by_cases c : s[s.size - 2].toNat = 71
      · exact refBytes_g s w hs h1 h2 c
      by_cases d : s[s.size - 2].toNat = 84
      · exact refBytes_t s w hs h1 h2 d
      exact refBytes_other s w hs h1 h2 ⟨a, b, c, d⟩
    · exact refBytes_noi s w hs h1 h2
  · exact refBytes_short s w hs (by omega)
end Go.Proofs.YtfnkmlpgfohjnaaDoor
