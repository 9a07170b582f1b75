/-
  DERIVED. GIVEN WITH THE SEED: THE CARDS: each row of YtbihcehcdjkkiaaDoorRows.lean that lists a variable, with what it lists TIED to the program's text (the seventh form; the later family's looks); each row that meets fmt, with fmt's text TOLD by the authors' own Lean function (tested against real Go, not proved from fmt's source: count such statements apart). THE CARD IS WHAT COUNTS. Prove the row's statement (the work); the ties are given (YtbihcehcdjkkiaaDoorTie.lean); close each card by the builder's one call (the guide's Derived/Test/ToyasCard.lean, 'card_holds'). Laid BY PROGRAM, IN A SANDBOX (cutbox-door.mjs). By AI agents, Wed Nov 11 2026. No macro, syntax, notation, axiom, sorry.
-/
import Derived.Test.YtbihcehcdjkkiaaDoorRows
import GoSem.ClaimSeven
namespace Go.Proofs.YtbihcehcdjkkiaaDoor
namespace Rows

/-- THE TIED CARD OF 'hairsbreadthlaw07.FormatNumbers'. -/
def formatNumbersCard : Claim7 := { stood := { row := formatNumbersRow, standIns := [], harness := (true, "c426a30eaaae4689ea7364d38cae62b2e36867abad2b2d52c3238497cd57788d"), looks := false }, kinds := [], alts := [], laidByText := true, laidKinds := [.data], laidTests := true, laidLooks := .later }
def FormatNumbersCardSaid : Prop := Claim7.holds Tryd.pinned (.plain (OpenSpec.ofChange formatNumbersSpec)) formatNumbersCard

/-- THE TIED CARD OF 'hairsbreadthlaw07.FormatFields'. -/
def formatFieldsCard : Claim7 := { stood := { row := formatFieldsRow, standIns := [], harness := (true, "c426a30eaaae4689ea7364d38cae62b2e36867abad2b2d52c3238497cd57788d"), looks := false }, kinds := [], alts := [], laidByText := true, laidKinds := [.data], laidTests := true, laidLooks := .later }
def FormatFieldsCardSaid : Prop := Claim7.holds Tryd.pinned (.plain (OpenSpec.ofChange formatFieldsSpec)) formatFieldsCard

/-- THE TIED CARD OF 'hairsbreadthlaw07.FormatBack'. -/
def formatBackCard : Claim7 := { stood := { row := formatBackRow, standIns := [], harness := (true, "c426a30eaaae4689ea7364d38cae62b2e36867abad2b2d52c3238497cd57788d"), looks := false }, kinds := [], alts := [], laidByText := true, laidKinds := [.data], laidTests := true, laidLooks := .later }
def FormatBackCardSaid : Prop := Claim7.holds Tryd.pinned (.plain (OpenSpec.ofChange formatBackSpec)) formatBackCard

/-- THE TIED CARD OF 'hairsbreadthlaw07.FormatFit'. -/
def formatFitCard : Claim7 := { stood := { row := formatFitRow, standIns := [], harness := (true, "c426a30eaaae4689ea7364d38cae62b2e36867abad2b2d52c3238497cd57788d"), looks := false }, kinds := [], alts := [], laidByText := true, laidKinds := [.data], laidTests := true, laidLooks := .later }
def FormatFitCardSaid : Prop := Claim7.holds Tryd.pinned (.plain (OpenSpec.ofChange formatFitSpec)) formatFitCard

/-- THE TIED CARD OF 'hairsbreadthlaw07.FormatOrder'. -/
def formatOrderCard : Claim7 := { stood := { row := formatOrderRow, standIns := [], harness := (true, "c426a30eaaae4689ea7364d38cae62b2e36867abad2b2d52c3238497cd57788d"), looks := false }, kinds := [], alts := [], laidByText := true, laidKinds := [.data], laidTests := true, laidLooks := .later }
def FormatOrderCardSaid : Prop := Claim7.holds Tryd.pinned (.plain (OpenSpec.ofChange formatOrderSpec)) formatOrderCard

/-- THE TIED CARD OF 'hairsbreadthlaw07.FormatWide'. -/
def formatWideCard : Claim7 := { stood := { row := formatWideRow, standIns := [], harness := (true, "c426a30eaaae4689ea7364d38cae62b2e36867abad2b2d52c3238497cd57788d"), looks := false }, kinds := [], alts := [], laidByText := true, laidKinds := [.data], laidTests := true, laidLooks := .later }
def FormatWideCardSaid : Prop := Claim7.holds Tryd.pinned (.plain (OpenSpec.ofChange formatWideSpec)) formatWideCard

/-- THE TIED CARD OF 'hairsbreadthlaw07.FormatKnown'. -/
def formatKnownCard : Claim7 := { stood := { row := formatKnownRow, standIns := [], harness := (true, "c426a30eaaae4689ea7364d38cae62b2e36867abad2b2d52c3238497cd57788d"), looks := false }, kinds := [], alts := [], laidByText := true, laidKinds := [.data], laidTests := true, laidLooks := .later }
def FormatKnownCardSaid : Prop := Claim7.holds Tryd.pinned (.plain (OpenSpec.ofChange formatKnownSpec)) formatKnownCard

/-- THE SECOND FORM's CARD OF 'hairsbreadthlaw07.FormatNumbers'. -/
def formatNumbersUptoCard : Claim7 := { stood := { row := formatNumbersUptoRow, standIns := [], harness := (true, "c426a30eaaae4689ea7364d38cae62b2e36867abad2b2d52c3238497cd57788d"), looks := false }, kinds := [], alts := [], laidByText := true, laidKinds := [.data], laidTests := true, laidLooks := .later }
def FormatNumbersUptoCardSaid : Prop := Claim7.holds Tryd.pinned (.plain (OpenSpec.upto formatNumbersSpec)) formatNumbersUptoCard

/-- THE SECOND FORM's CARD OF 'hairsbreadthlaw07.FormatFields'. -/
def formatFieldsUptoCard : Claim7 := { stood := { row := formatFieldsUptoRow, standIns := [], harness := (true, "c426a30eaaae4689ea7364d38cae62b2e36867abad2b2d52c3238497cd57788d"), looks := false }, kinds := [], alts := [], laidByText := true, laidKinds := [.data], laidTests := true, laidLooks := .later }
def FormatFieldsUptoCardSaid : Prop := Claim7.holds Tryd.pinned (.plain (OpenSpec.upto formatFieldsSpec)) formatFieldsUptoCard

/-- THE SECOND FORM's CARD OF 'hairsbreadthlaw07.FormatBack'. -/
def formatBackUptoCard : Claim7 := { stood := { row := formatBackUptoRow, standIns := [], harness := (true, "c426a30eaaae4689ea7364d38cae62b2e36867abad2b2d52c3238497cd57788d"), looks := false }, kinds := [], alts := [], laidByText := true, laidKinds := [.data], laidTests := true, laidLooks := .later }
def FormatBackUptoCardSaid : Prop := Claim7.holds Tryd.pinned (.plain (OpenSpec.upto formatBackSpec)) formatBackUptoCard

/-- THE SECOND FORM's CARD OF 'hairsbreadthlaw07.FormatFit'. -/
def formatFitUptoCard : Claim7 := { stood := { row := formatFitUptoRow, standIns := [], harness := (true, "c426a30eaaae4689ea7364d38cae62b2e36867abad2b2d52c3238497cd57788d"), looks := false }, kinds := [], alts := [], laidByText := true, laidKinds := [.data], laidTests := true, laidLooks := .later }
def FormatFitUptoCardSaid : Prop := Claim7.holds Tryd.pinned (.plain (OpenSpec.upto formatFitSpec)) formatFitUptoCard

/-- THE SECOND FORM's CARD OF 'hairsbreadthlaw07.FormatOrder'. -/
def formatOrderUptoCard : Claim7 := { stood := { row := formatOrderUptoRow, standIns := [], harness := (true, "c426a30eaaae4689ea7364d38cae62b2e36867abad2b2d52c3238497cd57788d"), looks := false }, kinds := [], alts := [], laidByText := true, laidKinds := [.data], laidTests := true, laidLooks := .later }
def FormatOrderUptoCardSaid : Prop := Claim7.holds Tryd.pinned (.plain (OpenSpec.upto formatOrderSpec)) formatOrderUptoCard

/-- THE SECOND FORM's CARD OF 'hairsbreadthlaw07.FormatWide'. -/
def formatWideUptoCard : Claim7 := { stood := { row := formatWideUptoRow, standIns := [], harness := (true, "c426a30eaaae4689ea7364d38cae62b2e36867abad2b2d52c3238497cd57788d"), looks := false }, kinds := [], alts := [], laidByText := true, laidKinds := [.data], laidTests := true, laidLooks := .later }
def FormatWideUptoCardSaid : Prop := Claim7.holds Tryd.pinned (.plain (OpenSpec.upto formatWideSpec)) formatWideUptoCard

/-- THE SECOND FORM's CARD OF 'hairsbreadthlaw07.FormatKnown'. -/
def formatKnownUptoCard : Claim7 := { stood := { row := formatKnownUptoRow, standIns := [], harness := (true, "c426a30eaaae4689ea7364d38cae62b2e36867abad2b2d52c3238497cd57788d"), looks := false }, kinds := [], alts := [], laidByText := true, laidKinds := [.data], laidTests := true, laidLooks := .later }
def FormatKnownUptoCardSaid : Prop := Claim7.holds Tryd.pinned (.plain (OpenSpec.upto formatKnownSpec)) formatKnownUptoCard
end Rows
end Go.Proofs.YtbihcehcdjkkiaaDoor
