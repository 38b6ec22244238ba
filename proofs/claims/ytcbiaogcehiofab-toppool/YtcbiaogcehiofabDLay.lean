/- Contracts of Go's library at this program, laid off the kit's shelf. -/
import Derived.Test.YtcbiaogcehiofabDW2
import Derived.Shelf.Lay
import Derived.Shelf.SlicesE.Clone
import Derived.Shelf.Spec.SlicesGrow
import Derived.Shelf.Sort.Plain
import Derived.Shelf.Slices.In.SortNone
import Derived.Sort.OwnSortedInts
import Derived.Ground.SlgnProg
import Derived.Ground.NamesProg
namespace Go.Proofs
open Go.Shelf
shelf_lay_g SlLaysE0.n41 Slgn 41 at Try 73 as Try.cloneL
shelf_lay_g Lays8.n4 Nm8 4 at Try 99 as Try.growL
shelf_lay Lays.n189 Nm 189 at Try as Try.sortL9
end Go.Proofs
namespace Go.Proofs.Ytcbiaogcehiofab
open Go.RowKit
open Dvs (Dv dv0 dv nth)
end Go.Proofs.Ytcbiaogcehiofab
