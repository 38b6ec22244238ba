/-
  DERIVED. GIVEN WITH THE SEED: THE CARDS: each row of YtlljniaobbbjgaaGreatDoorRows.lean that lists a variable, with what it lists TIED to the program's text (the seventh form; the later family's looks); each row that meets fmt, with fmt's text TOLD by the authors' own Lean function (tested against real Go, not proved from fmt's source: count such statements apart). THE CARD IS WHAT COUNTS. Prove the row's statement (the work); the ties are given (YtlljniaobbbjgaaGreatDoorTie.lean); close each card by the builder's one call (the guide's Derived/Test/ToyasCard.lean, 'card_holds'). Laid BY PROGRAM, IN A SANDBOX (cutbox-door.mjs). By AI agents, Wed Nov 11 2026. No macro, syntax, notation, axiom, sorry.
-/
import Derived.Test.YtlljniaobbbjgaaGreatDoorRows
import GoSem.ClaimSeven
namespace Go.Proofs.YtlljniaobbbjgaaGreatDoor
namespace Rows

/-- THE TIED CARD OF 'ostlerylaw.SaveSays'. -/
def saveSaysCard : Claim7 := { stood := { row := saveSaysRow, standIns := [], harness := (true, "12e784750ec918f09655e0cf1d6931132dbb0f2a844338109634148133384002"), looks := true }, kinds := [], alts := [], laidByText := true, laidKinds := [.data, .data, .data, .data, .pinned], laidTests := true, laidLooks := .later }
def SaveSaysCardSaid : Prop := Claim7.holds Tryz.pinned (.plain (OpenSpec.ofChange saveSaysSpec)) saveSaysCard

/-- THE TIED CARD OF 'ostlerylaw.SaveReads'. -/
def saveReadsCard : Claim7 := { stood := { row := saveReadsRow, standIns := [], harness := (true, "12e784750ec918f09655e0cf1d6931132dbb0f2a844338109634148133384002"), looks := true }, kinds := [], alts := [], laidByText := true, laidKinds := [.data, .data, .data, .data, .pinned], laidTests := true, laidLooks := .later }
def SaveReadsCardSaid : Prop := Claim7.holds Tryz.pinned (.plain (OpenSpec.ofChange saveReadsSpec)) saveReadsCard

/-- THE TIED CARD OF 'ostlerytop.TopFile'. -/
def topFileCard : Claim7 := { stood := { row := topFileRow, standIns := [], harness := (true, "12e784750ec918f09655e0cf1d6931132dbb0f2a844338109634148133384002"), looks := true }, kinds := [], alts := [], laidByText := true, laidKinds := [.data, .data, .data, .data, .pinned], laidTests := true, laidLooks := .later }
def TopFileCardSaid : Prop := Claim7.holds Tryz.pinned (.plain (OpenSpec.ofChange topFileSpec)) topFileCard

/-- THE SECOND FORM's CARD OF 'ostlerylaw.SaveSays'. -/
def saveSaysUptoCard : Claim7 := { stood := { row := saveSaysUptoRow, standIns := [], harness := (true, "12e784750ec918f09655e0cf1d6931132dbb0f2a844338109634148133384002"), looks := true }, kinds := [], alts := [], laidByText := true, laidKinds := [.data, .data, .data, .data, .pinned], laidTests := true, laidLooks := .later }
def SaveSaysUptoCardSaid : Prop := Claim7.holds Tryz.pinned (.plain (OpenSpec.upto saveSaysSpec)) saveSaysUptoCard

/-- THE SECOND FORM's CARD OF 'ostlerylaw.SaveReads'. -/
def saveReadsUptoCard : Claim7 := { stood := { row := saveReadsUptoRow, standIns := [], harness := (true, "12e784750ec918f09655e0cf1d6931132dbb0f2a844338109634148133384002"), looks := true }, kinds := [], alts := [], laidByText := true, laidKinds := [.data, .data, .data, .data, .pinned], laidTests := true, laidLooks := .later }
def SaveReadsUptoCardSaid : Prop := Claim7.holds Tryz.pinned (.plain (OpenSpec.upto saveReadsSpec)) saveReadsUptoCard

/-- THE SECOND FORM's CARD OF 'ostlerytop.TopFile'. -/
def topFileUptoCard : Claim7 := { stood := { row := topFileUptoRow, standIns := [], harness := (true, "12e784750ec918f09655e0cf1d6931132dbb0f2a844338109634148133384002"), looks := true }, kinds := [], alts := [], laidByText := true, laidKinds := [.data, .data, .data, .data, .pinned], laidTests := true, laidLooks := .later }
def TopFileUptoCardSaid : Prop := Claim7.holds Tryz.pinned (.plain (OpenSpec.upto topFileSpec)) topFileUptoCard
end Rows
end Go.Proofs.YtlljniaobbbjgaaGreatDoor
