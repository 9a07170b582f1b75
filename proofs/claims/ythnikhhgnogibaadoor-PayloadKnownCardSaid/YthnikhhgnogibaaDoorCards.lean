/-
  DERIVED. GIVEN WITH THE SEED: THE CARDS: each row of YthnikhhgnogibaaDoorRows.lean that lists a variable, with what it lists TIED to the program's text (the seventh form; the later family's looks); each row that meets fmt, with fmt's text TOLD by the authors' own Lean function (tested against real Go, not proved from fmt's source: count such statements apart). THE CARD IS WHAT COUNTS. Prove the row's statement (the work); the ties are given (YthnikhhgnogibaaDoorTie.lean); close each card by the builder's one call (the guide's Derived/Test/ToyasCard.lean, 'card_holds'). Laid BY PROGRAM, IN A SANDBOX (cutbox-door.mjs). By AI agents, Wed Nov 11 2026. No macro, syntax, notation, axiom, sorry.
-/
import Derived.Test.YthnikhhgnogibaaDoorRows
import GoSem.ClaimSeven
namespace Go.Proofs.YthnikhhgnogibaaDoor
namespace Rows

/-- THE TIED CARD OF 'hairsbreadthlaw11.PayloadMoves'. -/
def payloadMovesCard : Claim7 := { stood := { row := payloadMovesRow, standIns := [], harness := (true, "5edec6ac570c67c301cb8cbe3cbb5048d81d55c937b120c30ef705b956853923"), looks := false }, kinds := [], alts := [], laidByText := true, laidKinds := [.data], laidTests := true, laidLooks := .later }
def PayloadMovesCardSaid : Prop := Claim7.holds Tryd.pinned (.plain (OpenSpec.ofChange payloadMovesSpec)) payloadMovesCard

/-- THE TIED CARD OF 'hairsbreadthlaw11.PayloadBack'. -/
def payloadBackCard : Claim7 := { stood := { row := payloadBackRow, standIns := [], harness := (true, "5edec6ac570c67c301cb8cbe3cbb5048d81d55c937b120c30ef705b956853923"), looks := false }, kinds := [], alts := [], laidByText := true, laidKinds := [.data], laidTests := true, laidLooks := .later }
def PayloadBackCardSaid : Prop := Claim7.holds Tryd.pinned (.plain (OpenSpec.ofChange payloadBackSpec)) payloadBackCard

/-- THE TIED CARD OF 'hairsbreadthlaw11.PayloadOn'. -/
def payloadOnCard : Claim7 := { stood := { row := payloadOnRow, standIns := [], harness := (true, "5edec6ac570c67c301cb8cbe3cbb5048d81d55c937b120c30ef705b956853923"), looks := false }, kinds := [], alts := [], laidByText := true, laidKinds := [.data], laidTests := true, laidLooks := .later }
def PayloadOnCardSaid : Prop := Claim7.holds Tryd.pinned (.plain (OpenSpec.ofChange payloadOnSpec)) payloadOnCard

/-- THE TIED CARD OF 'hairsbreadthlaw11.PayloadNone'. -/
def payloadNoneCard : Claim7 := { stood := { row := payloadNoneRow, standIns := [], harness := (true, "5edec6ac570c67c301cb8cbe3cbb5048d81d55c937b120c30ef705b956853923"), looks := false }, kinds := [], alts := [], laidByText := true, laidKinds := [.data], laidTests := true, laidLooks := .later }
def PayloadNoneCardSaid : Prop := Claim7.holds Tryd.pinned (.plain (OpenSpec.ofChange payloadNoneSpec)) payloadNoneCard

/-- THE TIED CARD OF 'hairsbreadthlaw11.PayloadKnown'. -/
def payloadKnownCard : Claim7 := { stood := { row := payloadKnownRow, standIns := [], harness := (true, "5edec6ac570c67c301cb8cbe3cbb5048d81d55c937b120c30ef705b956853923"), looks := false }, kinds := [], alts := [], laidByText := true, laidKinds := [.data], laidTests := true, laidLooks := .later }
def PayloadKnownCardSaid : Prop := Claim7.holds Tryd.pinned (.plain (OpenSpec.ofChange payloadKnownSpec)) payloadKnownCard

/-- THE SECOND FORM's CARD OF 'hairsbreadthlaw11.PayloadMoves'. -/
def payloadMovesUptoCard : Claim7 := { stood := { row := payloadMovesUptoRow, standIns := [], harness := (true, "5edec6ac570c67c301cb8cbe3cbb5048d81d55c937b120c30ef705b956853923"), looks := false }, kinds := [], alts := [], laidByText := true, laidKinds := [.data], laidTests := true, laidLooks := .later }
def PayloadMovesUptoCardSaid : Prop := Claim7.holds Tryd.pinned (.plain (OpenSpec.upto payloadMovesSpec)) payloadMovesUptoCard

/-- THE SECOND FORM's CARD OF 'hairsbreadthlaw11.PayloadBack'. -/
def payloadBackUptoCard : Claim7 := { stood := { row := payloadBackUptoRow, standIns := [], harness := (true, "5edec6ac570c67c301cb8cbe3cbb5048d81d55c937b120c30ef705b956853923"), looks := false }, kinds := [], alts := [], laidByText := true, laidKinds := [.data], laidTests := true, laidLooks := .later }
def PayloadBackUptoCardSaid : Prop := Claim7.holds Tryd.pinned (.plain (OpenSpec.upto payloadBackSpec)) payloadBackUptoCard

/-- THE SECOND FORM's CARD OF 'hairsbreadthlaw11.PayloadOn'. -/
def payloadOnUptoCard : Claim7 := { stood := { row := payloadOnUptoRow, standIns := [], harness := (true, "5edec6ac570c67c301cb8cbe3cbb5048d81d55c937b120c30ef705b956853923"), looks := false }, kinds := [], alts := [], laidByText := true, laidKinds := [.data], laidTests := true, laidLooks := .later }
def PayloadOnUptoCardSaid : Prop := Claim7.holds Tryd.pinned (.plain (OpenSpec.upto payloadOnSpec)) payloadOnUptoCard

/-- THE SECOND FORM's CARD OF 'hairsbreadthlaw11.PayloadNone'. -/
def payloadNoneUptoCard : Claim7 := { stood := { row := payloadNoneUptoRow, standIns := [], harness := (true, "5edec6ac570c67c301cb8cbe3cbb5048d81d55c937b120c30ef705b956853923"), looks := false }, kinds := [], alts := [], laidByText := true, laidKinds := [.data], laidTests := true, laidLooks := .later }
def PayloadNoneUptoCardSaid : Prop := Claim7.holds Tryd.pinned (.plain (OpenSpec.upto payloadNoneSpec)) payloadNoneUptoCard

/-- THE SECOND FORM's CARD OF 'hairsbreadthlaw11.PayloadKnown'. -/
def payloadKnownUptoCard : Claim7 := { stood := { row := payloadKnownUptoRow, standIns := [], harness := (true, "5edec6ac570c67c301cb8cbe3cbb5048d81d55c937b120c30ef705b956853923"), looks := false }, kinds := [], alts := [], laidByText := true, laidKinds := [.data], laidTests := true, laidLooks := .later }
def PayloadKnownUptoCardSaid : Prop := Claim7.holds Tryd.pinned (.plain (OpenSpec.upto payloadKnownSpec)) payloadKnownUptoCard
end Rows
end Go.Proofs.YthnikhhgnogibaaDoor
