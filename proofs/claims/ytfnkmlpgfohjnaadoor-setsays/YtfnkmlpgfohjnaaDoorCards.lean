/-
  DERIVED. GIVEN WITH THE SEED: THE CARDS: each row of YtfnkmlpgfohjnaaDoorRows.lean that lists a variable, with what it lists TIED to the program's text (the seventh form; the later family's looks); each row that meets fmt, with fmt's text TOLD by the authors' own Lean function (tested against real Go, not proved from fmt's source: count such statements apart). THE CARD IS WHAT COUNTS. Prove the row's statement (the work); the ties are given (YtfnkmlpgfohjnaaDoorTie.lean); close each card by the builder's one call (the guide's Derived/Test/ToyasCard.lean, 'card_holds'). Laid BY PROGRAM, IN A SANDBOX (cutbox-door.mjs). By AI agents, Wed Nov 11 2026. No macro, syntax, notation, axiom, sorry.
-/
import Derived.Test.YtfnkmlpgfohjnaaDoorRows
import GoSem.ClaimSeven
namespace Go.Proofs.YtfnkmlpgfohjnaaDoor
namespace Rows

/-- THE TIED CARD OF 'ostlerylaw.Names'. -/
def namesCard : Claim7 := { stood := { row := namesRow, standIns := [], harness := (true, "258c558864214f0a69ec8ebbcc073871e7926da7de45fe0e16988d307871dadf"), looks := true }, kinds := [], alts := [], laidByText := true, laidKinds := [.data, .data, .data], laidTests := true, laidLooks := .later }
def NamesCardSaid : Prop := Claim7.holds Tryd.pinned (.plain (OpenSpec.ofChange namesSpec)) namesCard

/-- THE TIED CARD OF 'ostlerylaw.SetSays'. -/
def setSaysCard : Claim7 := { stood := { row := setSaysRow, standIns := [], harness := (true, "258c558864214f0a69ec8ebbcc073871e7926da7de45fe0e16988d307871dadf"), looks := true }, kinds := [], alts := [], laidByText := true, laidKinds := [.data, .data, .data, .data, .pinned], laidTests := true, laidLooks := .later }
def SetSaysCardSaid : Prop := Claim7.holds Tryd.pinned (.plain (OpenSpec.ofChange setSaysSpec)) setSaysCard

/-- THE TIED CARD OF 'ostlerylaw.AmountSays'. -/
def amountSaysCard : Claim7 := { stood := { row := amountSaysRow, standIns := [], harness := (true, "258c558864214f0a69ec8ebbcc073871e7926da7de45fe0e16988d307871dadf"), looks := true }, kinds := [], alts := [], laidByText := true, laidKinds := [.data, .data, .data, .data], laidTests := true, laidLooks := .later }
def AmountSaysCardSaid : Prop := Claim7.holds Tryd.pinned (.plain (OpenSpec.ofChange amountSaysSpec)) amountSaysCard

/-- THE TIED CARD OF 'ostlerytop.TopSet'. -/
def topSetCard : Claim7 := { stood := { row := topSetRow, standIns := [], harness := (true, "258c558864214f0a69ec8ebbcc073871e7926da7de45fe0e16988d307871dadf"), looks := true }, kinds := [], alts := [], laidByText := true, laidKinds := [.data, .data, .data, .data, .pinned], laidTests := true, laidLooks := .later }
def TopSetCardSaid : Prop := Claim7.holds Tryd.pinned (.plain (OpenSpec.ofChange topSetSpec)) topSetCard

/-- THE TIED CARD OF 'ostlerytop.TopAmount'. -/
def topAmountCard : Claim7 := { stood := { row := topAmountRow, standIns := [], harness := (true, "258c558864214f0a69ec8ebbcc073871e7926da7de45fe0e16988d307871dadf"), looks := true }, kinds := [], alts := [], laidByText := true, laidKinds := [.data, .data, .data, .data], laidTests := true, laidLooks := .later }
def TopAmountCardSaid : Prop := Claim7.holds Tryd.pinned (.plain (OpenSpec.ofChange topAmountSpec)) topAmountCard

/-- THE SECOND FORM's CARD OF 'ostlerylaw.Names'. -/
def namesUptoCard : Claim7 := { stood := { row := namesUptoRow, standIns := [], harness := (true, "258c558864214f0a69ec8ebbcc073871e7926da7de45fe0e16988d307871dadf"), looks := true }, kinds := [], alts := [], laidByText := true, laidKinds := [.data, .data, .data], laidTests := true, laidLooks := .later }
def NamesUptoCardSaid : Prop := Claim7.holds Tryd.pinned (.plain (OpenSpec.upto namesSpec)) namesUptoCard

/-- THE SECOND FORM's CARD OF 'ostlerylaw.SetSays'. -/
def setSaysUptoCard : Claim7 := { stood := { row := setSaysUptoRow, standIns := [], harness := (true, "258c558864214f0a69ec8ebbcc073871e7926da7de45fe0e16988d307871dadf"), looks := true }, kinds := [], alts := [], laidByText := true, laidKinds := [.data, .data, .data, .data, .pinned], laidTests := true, laidLooks := .later }
def SetSaysUptoCardSaid : Prop := Claim7.holds Tryd.pinned (.plain (OpenSpec.upto setSaysSpec)) setSaysUptoCard

/-- THE SECOND FORM's CARD OF 'ostlerylaw.AmountSays'. -/
def amountSaysUptoCard : Claim7 := { stood := { row := amountSaysUptoRow, standIns := [], harness := (true, "258c558864214f0a69ec8ebbcc073871e7926da7de45fe0e16988d307871dadf"), looks := true }, kinds := [], alts := [], laidByText := true, laidKinds := [.data, .data, .data, .data], laidTests := true, laidLooks := .later }
def AmountSaysUptoCardSaid : Prop := Claim7.holds Tryd.pinned (.plain (OpenSpec.upto amountSaysSpec)) amountSaysUptoCard

/-- THE SECOND FORM's CARD OF 'ostlerytop.TopSet'. -/
def topSetUptoCard : Claim7 := { stood := { row := topSetUptoRow, standIns := [], harness := (true, "258c558864214f0a69ec8ebbcc073871e7926da7de45fe0e16988d307871dadf"), looks := true }, kinds := [], alts := [], laidByText := true, laidKinds := [.data, .data, .data, .data, .pinned], laidTests := true, laidLooks := .later }
def TopSetUptoCardSaid : Prop := Claim7.holds Tryd.pinned (.plain (OpenSpec.upto topSetSpec)) topSetUptoCard

/-- THE SECOND FORM's CARD OF 'ostlerytop.TopAmount'. -/
def topAmountUptoCard : Claim7 := { stood := { row := topAmountUptoRow, standIns := [], harness := (true, "258c558864214f0a69ec8ebbcc073871e7926da7de45fe0e16988d307871dadf"), looks := true }, kinds := [], alts := [], laidByText := true, laidKinds := [.data, .data, .data, .data], laidTests := true, laidLooks := .later }
def TopAmountUptoCardSaid : Prop := Claim7.holds Tryd.pinned (.plain (OpenSpec.upto topAmountSpec)) topAmountUptoCard
end Rows
end Go.Proofs.YtfnkmlpgfohjnaaDoor
