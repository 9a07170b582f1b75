/-
  DERIVED. GIVEN WITH THE SEED: THE CARDS: each row of YtkhcbioohoeegaaDoorRows.lean that lists a variable, with what it lists TIED to the program's text (the seventh form; the later family's looks); each row that meets fmt, with fmt's text TOLD by the authors' own Lean function (tested against real Go, not proved from fmt's source: count such statements apart). THE CARD IS WHAT COUNTS. Prove the row's statement (the work); the ties are given (YtkhcbioohoeegaaDoorTie.lean); close each card by the builder's one call (the guide's Derived/Test/ToyasCard.lean, 'card_holds'). Laid BY PROGRAM, IN A SANDBOX (cutbox-door.mjs). By AI agents, Wed Nov 11 2026. No macro, syntax, notation, axiom, sorry.
-/
import Derived.Test.YtkhcbioohoeegaaDoorRows
import GoSem.ClaimSeven
namespace Go.Proofs.YtkhcbioohoeegaaDoor
namespace Rows

/-- THE TIED CARD OF 'hairsbreadthlaw04.CountTwo'. -/
def countTwoCard : Claim7 := { stood := { row := countTwoRow, standIns := [], harness := (true, "b60f864a15f47780cb398766098edd1ef9a4f93e5272328dc5b85b2835771f08"), looks := false }, kinds := [], alts := [], laidByText := true, laidKinds := [.data], laidTests := true, laidLooks := .later }
def CountTwoCardSaid : Prop := Claim7.holds Tryd.pinned (.plain (OpenSpec.ofChange countTwoSpec)) countTwoCard

/-- THE TIED CARD OF 'hairsbreadthlaw04.CountFour'. -/
def countFourCard : Claim7 := { stood := { row := countFourRow, standIns := [], harness := (true, "b60f864a15f47780cb398766098edd1ef9a4f93e5272328dc5b85b2835771f08"), looks := false }, kinds := [], alts := [], laidByText := true, laidKinds := [.data], laidTests := true, laidLooks := .later }
def CountFourCardSaid : Prop := Claim7.holds Tryd.pinned (.plain (OpenSpec.ofChange countFourSpec)) countFourCard

/-- THE TIED CARD OF 'hairsbreadthlaw04.CountBetween'. -/
def countBetweenCard : Claim7 := { stood := { row := countBetweenRow, standIns := [], harness := (true, "b60f864a15f47780cb398766098edd1ef9a4f93e5272328dc5b85b2835771f08"), looks := false }, kinds := [], alts := [], laidByText := true, laidKinds := [.data], laidTests := true, laidLooks := .later }
def CountBetweenCardSaid : Prop := Claim7.holds Tryd.pinned (.plain (OpenSpec.ofChange countBetweenSpec)) countBetweenCard

/-- THE TIED CARD OF 'hairsbreadthlaw04.CountBack'. -/
def countBackCard : Claim7 := { stood := { row := countBackRow, standIns := [], harness := (true, "b60f864a15f47780cb398766098edd1ef9a4f93e5272328dc5b85b2835771f08"), looks := false }, kinds := [], alts := [], laidByText := true, laidKinds := [.data], laidTests := true, laidLooks := .later }
def CountBackCardSaid : Prop := Claim7.holds Tryd.pinned (.plain (OpenSpec.ofChange countBackSpec)) countBackCard

/-- THE TIED CARD OF 'hairsbreadthlaw04.CountTail'. -/
def countTailCard : Claim7 := { stood := { row := countTailRow, standIns := [], harness := (true, "b60f864a15f47780cb398766098edd1ef9a4f93e5272328dc5b85b2835771f08"), looks := false }, kinds := [], alts := [], laidByText := true, laidKinds := [.data], laidTests := true, laidLooks := .later }
def CountTailCardSaid : Prop := Claim7.holds Tryd.pinned (.plain (OpenSpec.ofChange countTailSpec)) countTailCard

/-- THE TIED CARD OF 'hairsbreadthlaw04.CountShift'. -/
def countShiftCard : Claim7 := { stood := { row := countShiftRow, standIns := [], harness := (true, "b60f864a15f47780cb398766098edd1ef9a4f93e5272328dc5b85b2835771f08"), looks := false }, kinds := [], alts := [], laidByText := true, laidKinds := [.data], laidTests := true, laidLooks := .later }
def CountShiftCardSaid : Prop := Claim7.holds Tryd.pinned (.plain (OpenSpec.ofChange countShiftSpec)) countShiftCard

/-- THE TIED CARD OF 'hairsbreadthlaw04.CountKnown'. -/
def countKnownCard : Claim7 := { stood := { row := countKnownRow, standIns := [], harness := (true, "b60f864a15f47780cb398766098edd1ef9a4f93e5272328dc5b85b2835771f08"), looks := false }, kinds := [], alts := [], laidByText := true, laidKinds := [.data], laidTests := true, laidLooks := .later }
def CountKnownCardSaid : Prop := Claim7.holds Tryd.pinned (.plain (OpenSpec.ofChange countKnownSpec)) countKnownCard

/-- THE SECOND FORM's CARD OF 'hairsbreadthlaw04.CountTwo'. -/
def countTwoUptoCard : Claim7 := { stood := { row := countTwoUptoRow, standIns := [], harness := (true, "b60f864a15f47780cb398766098edd1ef9a4f93e5272328dc5b85b2835771f08"), looks := false }, kinds := [], alts := [], laidByText := true, laidKinds := [.data], laidTests := true, laidLooks := .later }
def CountTwoUptoCardSaid : Prop := Claim7.holds Tryd.pinned (.plain (OpenSpec.upto countTwoSpec)) countTwoUptoCard

/-- THE SECOND FORM's CARD OF 'hairsbreadthlaw04.CountFour'. -/
def countFourUptoCard : Claim7 := { stood := { row := countFourUptoRow, standIns := [], harness := (true, "b60f864a15f47780cb398766098edd1ef9a4f93e5272328dc5b85b2835771f08"), looks := false }, kinds := [], alts := [], laidByText := true, laidKinds := [.data], laidTests := true, laidLooks := .later }
def CountFourUptoCardSaid : Prop := Claim7.holds Tryd.pinned (.plain (OpenSpec.upto countFourSpec)) countFourUptoCard

/-- THE SECOND FORM's CARD OF 'hairsbreadthlaw04.CountBetween'. -/
def countBetweenUptoCard : Claim7 := { stood := { row := countBetweenUptoRow, standIns := [], harness := (true, "b60f864a15f47780cb398766098edd1ef9a4f93e5272328dc5b85b2835771f08"), looks := false }, kinds := [], alts := [], laidByText := true, laidKinds := [.data], laidTests := true, laidLooks := .later }
def CountBetweenUptoCardSaid : Prop := Claim7.holds Tryd.pinned (.plain (OpenSpec.upto countBetweenSpec)) countBetweenUptoCard

/-- THE SECOND FORM's CARD OF 'hairsbreadthlaw04.CountBack'. -/
def countBackUptoCard : Claim7 := { stood := { row := countBackUptoRow, standIns := [], harness := (true, "b60f864a15f47780cb398766098edd1ef9a4f93e5272328dc5b85b2835771f08"), looks := false }, kinds := [], alts := [], laidByText := true, laidKinds := [.data], laidTests := true, laidLooks := .later }
def CountBackUptoCardSaid : Prop := Claim7.holds Tryd.pinned (.plain (OpenSpec.upto countBackSpec)) countBackUptoCard

/-- THE SECOND FORM's CARD OF 'hairsbreadthlaw04.CountTail'. -/
def countTailUptoCard : Claim7 := { stood := { row := countTailUptoRow, standIns := [], harness := (true, "b60f864a15f47780cb398766098edd1ef9a4f93e5272328dc5b85b2835771f08"), looks := false }, kinds := [], alts := [], laidByText := true, laidKinds := [.data], laidTests := true, laidLooks := .later }
def CountTailUptoCardSaid : Prop := Claim7.holds Tryd.pinned (.plain (OpenSpec.upto countTailSpec)) countTailUptoCard

/-- THE SECOND FORM's CARD OF 'hairsbreadthlaw04.CountShift'. -/
def countShiftUptoCard : Claim7 := { stood := { row := countShiftUptoRow, standIns := [], harness := (true, "b60f864a15f47780cb398766098edd1ef9a4f93e5272328dc5b85b2835771f08"), looks := false }, kinds := [], alts := [], laidByText := true, laidKinds := [.data], laidTests := true, laidLooks := .later }
def CountShiftUptoCardSaid : Prop := Claim7.holds Tryd.pinned (.plain (OpenSpec.upto countShiftSpec)) countShiftUptoCard

/-- THE SECOND FORM's CARD OF 'hairsbreadthlaw04.CountKnown'. -/
def countKnownUptoCard : Claim7 := { stood := { row := countKnownUptoRow, standIns := [], harness := (true, "b60f864a15f47780cb398766098edd1ef9a4f93e5272328dc5b85b2835771f08"), looks := false }, kinds := [], alts := [], laidByText := true, laidKinds := [.data], laidTests := true, laidLooks := .later }
def CountKnownUptoCardSaid : Prop := Claim7.holds Tryd.pinned (.plain (OpenSpec.upto countKnownSpec)) countKnownUptoCard
end Rows
end Go.Proofs.YtkhcbioohoeegaaDoor
