/- What 'MergeSays' answers: true, for all policies, nodes and wishes. -/
import Derived.Test.YtlpogejkmigimaaMS1
import Derived.Test.YtlpogejkmigimaaMR2
namespace Go.Proofs.Ytlpogejkmigimaa
open Go.RowKit
open Ost (Hi Wi wi0 Low told)
theorem mergeSays_any (pol : Int) (nodes : Nat) (ao : Option Addr) (c : Nat) (ws : List Wi) (w : World) (hv : WishesAt w (.slice ao ws.length c) ws) (hlow : ∀ y, y ∈ ws → Low y.hs) (hn : nodes < 256) :
    Calls Try.prog 5 #[.int .i64 pol, .int .u8 nodes, .slice ao ws.length c] w fun e w' => e = .returned (.bool true) ∧ Below w.heap.size w w' := by
  by_cases hb : pol < 0 ∨ 3 < pol ∨ nodes = 0 ∨ 15 < nodes
  · exact mergeSays_one pol nodes ao c ws (0, false) false _ 1 w hv (fun _ W _ => merge_bound pol nodes ao ws.length c W hn hb) (fun _ W _ => refMerge_bound pol nodes ao ws.length c W hb) (fun W => same_err 1 W (by decide))
  · by_cases hm : 4 < ws.length
    · exact mergeSays_one pol nodes ao c ws (0, false) false _ 2 w hv (fun _ W _ => merge_many pol nodes ao ws.length c W (by omega) (by omega) hm) (fun _ W _ => refMerge_many pol nodes ao ws.length c W (by omega) (by omega) hm) (fun W => same_err 2 W (by decide))
    · by_cases hz : pol = 0
      · subst hz
        exact mergeSays_one 0 nodes ao c ws (nodes, true) true _ 0 w hv (fun _ W _ => merge_zero nodes ao ws.length c W (by omega) (by omega)) (fun _ W _ => refMerge_zero nodes ao ws.length c W (by omega) (by omega)) (fun W => same_nil W)
      · exact mergeSays_one pol nodes ao c ws (told pol nodes ws) _ _ 0 w hv
          (fun h W hW => merge_main pol nodes _ ws W (hv.below hW) (fun y hy => ⟨hlow y hy, h y hy⟩) (by omega) (by omega) (by omega))
          (fun h W hW => refMerge_main pol nodes _ ws W (hv.below hW) (fun y hy => ⟨hlow y hy, h y hy⟩) (by omega) (by omega) (by omega)) (fun W => same_nil W)
end Go.Proofs.Ytlpogejkmigimaa
