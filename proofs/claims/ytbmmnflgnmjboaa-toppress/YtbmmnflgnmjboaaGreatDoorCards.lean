/-
  DERIVED. GIVEN WITH THE SEED: THE CARDS: each row of YtbmmnflgnmjboaaGreatDoorRows.lean that lists a variable, with what it lists TIED to the program's text (the seventh form; the later family's looks); each row that meets fmt, with fmt's text TOLD by the authors' own Lean function (tested against real Go, not proved from fmt's source: count such statements apart). THE CARD IS WHAT COUNTS. Prove the row's statement (the work); the ties are given (YtbmmnflgnmjboaaGreatDoorTie.lean); close each card by the builder's one call (the guide's Derived/Test/ToyasCard.lean, 'card_holds'). Laid BY PROGRAM, IN A SANDBOX (cutbox-door.mjs). By AI agents, Wed Nov 11 2026. No macro, syntax, notation, axiom, sorry.
-/
import Derived.Test.YtbmmnflgnmjboaaGreatDoorRows
import GoSem.ClaimSeven
namespace Go.Proofs.YtbmmnflgnmjboaaGreatDoor
namespace Rows

/-- THE TIED CARD OF 'ostlerytop.TopApart'. -/
def topApartCard : Claim7 := { stood := { row := topApartRow, standIns := [], harness := (true, "e84a43fa7b295131232b407a9de9cc3f9aaaab5f00b230ce7324eeab313f4325"), looks := true }, kinds := [], alts := [], laidByText := true, laidKinds := [.data, .data, .data, .data, .pinned], laidTests := true, laidLooks := .later }
def TopApartCardSaid : Prop := Claim7.holds Tryz.pinned (.plain (OpenSpec.ofChange topApartSpec)) topApartCard

/-- THE TIED CARD OF 'ostlerytop.TopLeft'. -/
def topLeftCard : Claim7 := { stood := { row := topLeftRow, standIns := [], harness := (true, "e84a43fa7b295131232b407a9de9cc3f9aaaab5f00b230ce7324eeab313f4325"), looks := true }, kinds := [], alts := [], laidByText := true, laidKinds := [.data, .data, .data, .data, .pinned], laidTests := true, laidLooks := .later }
def TopLeftCardSaid : Prop := Claim7.holds Tryz.pinned (.plain (OpenSpec.ofChange topLeftSpec)) topLeftCard

/-- THE TIED CARD OF 'ostlerytop.TopKinds'. -/
def topKindsCard : Claim7 := { stood := { row := topKindsRow, standIns := [], harness := (true, "e84a43fa7b295131232b407a9de9cc3f9aaaab5f00b230ce7324eeab313f4325"), looks := true }, kinds := [], alts := [], laidByText := true, laidKinds := [.data, .data, .data, .data, .pinned], laidTests := true, laidLooks := .later }
def TopKindsCardSaid : Prop := Claim7.holds Tryz.pinned (.plain (OpenSpec.ofChange topKindsSpec)) topKindsCard

/-- THE TIED CARD OF 'ostlerytop.TopOrder'. -/
def topOrderCard : Claim7 := { stood := { row := topOrderRow, standIns := [], harness := (true, "e84a43fa7b295131232b407a9de9cc3f9aaaab5f00b230ce7324eeab313f4325"), looks := true }, kinds := [], alts := [], laidByText := true, laidKinds := [.data, .data, .data, .data, .pinned], laidTests := true, laidLooks := .later }
def TopOrderCardSaid : Prop := Claim7.holds Tryz.pinned (.plain (OpenSpec.ofChange topOrderSpec)) topOrderCard

/-- THE TIED CARD OF 'ostlerytop.TopPress'. -/
def topPressCard : Claim7 := { stood := { row := topPressRow, standIns := [], harness := (true, "e84a43fa7b295131232b407a9de9cc3f9aaaab5f00b230ce7324eeab313f4325"), looks := true }, kinds := [], alts := [], laidByText := true, laidKinds := [.data, .data, .data, .data, .pinned], laidTests := true, laidLooks := .later }
def TopPressCardSaid : Prop := Claim7.holds Tryz.pinned (.plain (OpenSpec.ofChange topPressSpec)) topPressCard

/-- THE SECOND FORM's CARD OF 'ostlerytop.TopApart'. -/
def topApartUptoCard : Claim7 := { stood := { row := topApartUptoRow, standIns := [], harness := (true, "e84a43fa7b295131232b407a9de9cc3f9aaaab5f00b230ce7324eeab313f4325"), looks := true }, kinds := [], alts := [], laidByText := true, laidKinds := [.data, .data, .data, .data, .pinned], laidTests := true, laidLooks := .later }
def TopApartUptoCardSaid : Prop := Claim7.holds Tryz.pinned (.plain (OpenSpec.upto topApartSpec)) topApartUptoCard

/-- THE SECOND FORM's CARD OF 'ostlerytop.TopLeft'. -/
def topLeftUptoCard : Claim7 := { stood := { row := topLeftUptoRow, standIns := [], harness := (true, "e84a43fa7b295131232b407a9de9cc3f9aaaab5f00b230ce7324eeab313f4325"), looks := true }, kinds := [], alts := [], laidByText := true, laidKinds := [.data, .data, .data, .data, .pinned], laidTests := true, laidLooks := .later }
def TopLeftUptoCardSaid : Prop := Claim7.holds Tryz.pinned (.plain (OpenSpec.upto topLeftSpec)) topLeftUptoCard

/-- THE SECOND FORM's CARD OF 'ostlerytop.TopKinds'. -/
def topKindsUptoCard : Claim7 := { stood := { row := topKindsUptoRow, standIns := [], harness := (true, "e84a43fa7b295131232b407a9de9cc3f9aaaab5f00b230ce7324eeab313f4325"), looks := true }, kinds := [], alts := [], laidByText := true, laidKinds := [.data, .data, .data, .data, .pinned], laidTests := true, laidLooks := .later }
def TopKindsUptoCardSaid : Prop := Claim7.holds Tryz.pinned (.plain (OpenSpec.upto topKindsSpec)) topKindsUptoCard

/-- THE SECOND FORM's CARD OF 'ostlerytop.TopOrder'. -/
def topOrderUptoCard : Claim7 := { stood := { row := topOrderUptoRow, standIns := [], harness := (true, "e84a43fa7b295131232b407a9de9cc3f9aaaab5f00b230ce7324eeab313f4325"), looks := true }, kinds := [], alts := [], laidByText := true, laidKinds := [.data, .data, .data, .data, .pinned], laidTests := true, laidLooks := .later }
def TopOrderUptoCardSaid : Prop := Claim7.holds Tryz.pinned (.plain (OpenSpec.upto topOrderSpec)) topOrderUptoCard

/-- THE SECOND FORM's CARD OF 'ostlerytop.TopPress'. -/
def topPressUptoCard : Claim7 := { stood := { row := topPressUptoRow, standIns := [], harness := (true, "e84a43fa7b295131232b407a9de9cc3f9aaaab5f00b230ce7324eeab313f4325"), looks := true }, kinds := [], alts := [], laidByText := true, laidKinds := [.data, .data, .data, .data, .pinned], laidTests := true, laidLooks := .later }
def TopPressUptoCardSaid : Prop := Claim7.holds Tryz.pinned (.plain (OpenSpec.upto topPressSpec)) topPressUptoCard
end Rows
end Go.Proofs.YtbmmnflgnmjboaaGreatDoor
