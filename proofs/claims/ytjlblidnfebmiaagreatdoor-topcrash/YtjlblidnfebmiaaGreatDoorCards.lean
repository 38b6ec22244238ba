/-
  DERIVED. GIVEN WITH THE SEED: THE CARDS: each row of YtjlblidnfebmiaaGreatDoorRows.lean that lists a variable, with what it lists TIED to the program's text (the seventh form; the later family's looks); each row that meets fmt, with fmt's text TOLD by the authors' own Lean function (tested against real Go, not proved from fmt's source: count such statements apart). THE CARD IS WHAT COUNTS. Prove the row's statement (the work); the ties are given (YtjlblidnfebmiaaGreatDoorTie.lean); close each card by the builder's one call (the guide's Derived/Test/ToyasCard.lean, 'card_holds'). Laid BY PROGRAM, IN A SANDBOX (cutbox-door.mjs). By AI agents, Wed Nov 11 2026. No macro, syntax, notation, axiom, sorry.
-/
import Derived.Test.YtjlblidnfebmiaaGreatDoorRows
import GoSem.ClaimSeven
namespace Go.Proofs.YtjlblidnfebmiaaGreatDoor
namespace Rows

/-- THE TIED CARD OF 'ostlerytop.TopCrash'. -/
def topCrashCard : Claim7 := { stood := { row := topCrashRow, standIns := [], harness := (true, "bede23cb5aaa6ac0783f003113a8cb6b1ce50d39d22de8f91c2ad3f516be9211"), looks := true }, kinds := [], alts := [], laidByText := true, laidKinds := [.data, .data, .data, .data, .pinned], laidTests := true, laidLooks := .later }
def TopCrashCardSaid : Prop := Claim7.holds Tryz.pinned (.plain (OpenSpec.ofChange topCrashSpec)) topCrashCard

/-- THE TIED CARD OF 'ostlerytop.TopAgain'. -/
def topAgainCard : Claim7 := { stood := { row := topAgainRow, standIns := [], harness := (true, "bede23cb5aaa6ac0783f003113a8cb6b1ce50d39d22de8f91c2ad3f516be9211"), looks := true }, kinds := [], alts := [], laidByText := true, laidKinds := [.data, .data, .data, .data, .pinned], laidTests := true, laidLooks := .later }
def TopAgainCardSaid : Prop := Claim7.holds Tryz.pinned (.plain (OpenSpec.ofChange topAgainSpec)) topAgainCard

/-- THE TIED CARD OF 'ostlerytop.TopSpoil'. -/
def topSpoilCard : Claim7 := { stood := { row := topSpoilRow, standIns := [], harness := (true, "bede23cb5aaa6ac0783f003113a8cb6b1ce50d39d22de8f91c2ad3f516be9211"), looks := true }, kinds := [], alts := [], laidByText := true, laidKinds := [.data, .data, .data, .data, .pinned], laidTests := true, laidLooks := .later }
def TopSpoilCardSaid : Prop := Claim7.holds Tryz.pinned (.plain (OpenSpec.ofChange topSpoilSpec)) topSpoilCard

/-- THE SECOND FORM's CARD OF 'ostlerytop.TopCrash'. -/
def topCrashUptoCard : Claim7 := { stood := { row := topCrashUptoRow, standIns := [], harness := (true, "bede23cb5aaa6ac0783f003113a8cb6b1ce50d39d22de8f91c2ad3f516be9211"), looks := true }, kinds := [], alts := [], laidByText := true, laidKinds := [.data, .data, .data, .data, .pinned], laidTests := true, laidLooks := .later }
def TopCrashUptoCardSaid : Prop := Claim7.holds Tryz.pinned (.plain (OpenSpec.upto topCrashSpec)) topCrashUptoCard

/-- THE SECOND FORM's CARD OF 'ostlerytop.TopAgain'. -/
def topAgainUptoCard : Claim7 := { stood := { row := topAgainUptoRow, standIns := [], harness := (true, "bede23cb5aaa6ac0783f003113a8cb6b1ce50d39d22de8f91c2ad3f516be9211"), looks := true }, kinds := [], alts := [], laidByText := true, laidKinds := [.data, .data, .data, .data, .pinned], laidTests := true, laidLooks := .later }
def TopAgainUptoCardSaid : Prop := Claim7.holds Tryz.pinned (.plain (OpenSpec.upto topAgainSpec)) topAgainUptoCard

/-- THE SECOND FORM's CARD OF 'ostlerytop.TopSpoil'. -/
def topSpoilUptoCard : Claim7 := { stood := { row := topSpoilUptoRow, standIns := [], harness := (true, "bede23cb5aaa6ac0783f003113a8cb6b1ce50d39d22de8f91c2ad3f516be9211"), looks := true }, kinds := [], alts := [], laidByText := true, laidKinds := [.data, .data, .data, .data, .pinned], laidTests := true, laidLooks := .later }
def TopSpoilUptoCardSaid : Prop := Claim7.holds Tryz.pinned (.plain (OpenSpec.upto topSpoilSpec)) topSpoilUptoCard
end Rows
end Go.Proofs.YtjlblidnfebmiaaGreatDoor
