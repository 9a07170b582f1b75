/-
  DERIVED. GIVEN WITH THE SEED: THE CARDS: each row of YteobcedcgkfmjaaDoorRows.lean that lists a variable, with what it lists TIED to the program's text (the seventh form; the later family's looks); each row that meets fmt, with fmt's text TOLD by the authors' own Lean function (tested against real Go, not proved from fmt's source: count such statements apart). THE CARD IS WHAT COUNTS. Prove the row's statement (the work); the ties are given (YteobcedcgkfmjaaDoorTie.lean); close each card by the builder's one call (the guide's Derived/Test/ToyasCard.lean, 'card_holds'). Laid BY PROGRAM, IN A SANDBOX (cutbox-door.mjs). By AI agents, Wed Nov 11 2026. No macro, syntax, notation, axiom, sorry.
-/
import Derived.Test.YteobcedcgkfmjaaDoorRows
import GoSem.ClaimSeven
namespace Go.Proofs.YteobcedcgkfmjaaDoor
namespace Rows

/-- THE TIED CARD OF 'hairsbreadthlaw12.FlagSets'. -/
def flagSetsCard : Claim7 := { stood := { row := flagSetsRow, standIns := [], harness := (true, "1b10a694e23aa6b2d2eca0410848938a57ab7012121ec3ede46a4703138c19c1"), looks := false }, kinds := [], alts := [], laidByText := true, laidKinds := [.data], laidTests := true, laidLooks := .later }
def FlagSetsCardSaid : Prop := Claim7.holds Tryd.pinned (.plain (OpenSpec.ofChange flagSetsSpec)) flagSetsCard

/-- THE TIED CARD OF 'hairsbreadthlaw12.FlagJoins'. -/
def flagJoinsCard : Claim7 := { stood := { row := flagJoinsRow, standIns := [], harness := (true, "1b10a694e23aa6b2d2eca0410848938a57ab7012121ec3ede46a4703138c19c1"), looks := false }, kinds := [], alts := [], laidByText := true, laidKinds := [.data], laidTests := true, laidLooks := .later }
def FlagJoinsCardSaid : Prop := Claim7.holds Tryd.pinned (.plain (OpenSpec.ofChange flagJoinsSpec)) flagJoinsCard

/-- THE TIED CARD OF 'hairsbreadthlaw12.FlagNames'. -/
def flagNamesCard : Claim7 := { stood := { row := flagNamesRow, standIns := [], harness := (true, "1b10a694e23aa6b2d2eca0410848938a57ab7012121ec3ede46a4703138c19c1"), looks := false }, kinds := [], alts := [], laidByText := true, laidKinds := [.data], laidTests := true, laidLooks := .later }
def FlagNamesCardSaid : Prop := Claim7.holds Tryd.pinned (.plain (OpenSpec.ofChange flagNamesSpec)) flagNamesCard

/-- THE TIED CARD OF 'hairsbreadthlaw12.FlagOrder'. -/
def flagOrderCard : Claim7 := { stood := { row := flagOrderRow, standIns := [], harness := (true, "1b10a694e23aa6b2d2eca0410848938a57ab7012121ec3ede46a4703138c19c1"), looks := false }, kinds := [], alts := [], laidByText := true, laidKinds := [.data], laidTests := true, laidLooks := .later }
def FlagOrderCardSaid : Prop := Claim7.holds Tryd.pinned (.plain (OpenSpec.ofChange flagOrderSpec)) flagOrderCard

/-- THE TIED CARD OF 'hairsbreadthlaw12.FlagKnown'. -/
def flagKnownCard : Claim7 := { stood := { row := flagKnownRow, standIns := [], harness := (true, "1b10a694e23aa6b2d2eca0410848938a57ab7012121ec3ede46a4703138c19c1"), looks := false }, kinds := [], alts := [], laidByText := true, laidKinds := [.data], laidTests := true, laidLooks := .later }
def FlagKnownCardSaid : Prop := Claim7.holds Tryd.pinned (.plain (OpenSpec.ofChange flagKnownSpec)) flagKnownCard

/-- THE SECOND FORM's CARD OF 'hairsbreadthlaw12.FlagSets'. -/
def flagSetsUptoCard : Claim7 := { stood := { row := flagSetsUptoRow, standIns := [], harness := (true, "1b10a694e23aa6b2d2eca0410848938a57ab7012121ec3ede46a4703138c19c1"), looks := false }, kinds := [], alts := [], laidByText := true, laidKinds := [.data], laidTests := true, laidLooks := .later }
def FlagSetsUptoCardSaid : Prop := Claim7.holds Tryd.pinned (.plain (OpenSpec.upto flagSetsSpec)) flagSetsUptoCard

/-- THE SECOND FORM's CARD OF 'hairsbreadthlaw12.FlagJoins'. -/
def flagJoinsUptoCard : Claim7 := { stood := { row := flagJoinsUptoRow, standIns := [], harness := (true, "1b10a694e23aa6b2d2eca0410848938a57ab7012121ec3ede46a4703138c19c1"), looks := false }, kinds := [], alts := [], laidByText := true, laidKinds := [.data], laidTests := true, laidLooks := .later }
def FlagJoinsUptoCardSaid : Prop := Claim7.holds Tryd.pinned (.plain (OpenSpec.upto flagJoinsSpec)) flagJoinsUptoCard

/-- THE SECOND FORM's CARD OF 'hairsbreadthlaw12.FlagNames'. -/
def flagNamesUptoCard : Claim7 := { stood := { row := flagNamesUptoRow, standIns := [], harness := (true, "1b10a694e23aa6b2d2eca0410848938a57ab7012121ec3ede46a4703138c19c1"), looks := false }, kinds := [], alts := [], laidByText := true, laidKinds := [.data], laidTests := true, laidLooks := .later }
def FlagNamesUptoCardSaid : Prop := Claim7.holds Tryd.pinned (.plain (OpenSpec.upto flagNamesSpec)) flagNamesUptoCard

/-- THE SECOND FORM's CARD OF 'hairsbreadthlaw12.FlagOrder'. -/
def flagOrderUptoCard : Claim7 := { stood := { row := flagOrderUptoRow, standIns := [], harness := (true, "1b10a694e23aa6b2d2eca0410848938a57ab7012121ec3ede46a4703138c19c1"), looks := false }, kinds := [], alts := [], laidByText := true, laidKinds := [.data], laidTests := true, laidLooks := .later }
def FlagOrderUptoCardSaid : Prop := Claim7.holds Tryd.pinned (.plain (OpenSpec.upto flagOrderSpec)) flagOrderUptoCard

/-- THE SECOND FORM's CARD OF 'hairsbreadthlaw12.FlagKnown'. -/
def flagKnownUptoCard : Claim7 := { stood := { row := flagKnownUptoRow, standIns := [], harness := (true, "1b10a694e23aa6b2d2eca0410848938a57ab7012121ec3ede46a4703138c19c1"), looks := false }, kinds := [], alts := [], laidByText := true, laidKinds := [.data], laidTests := true, laidLooks := .later }
def FlagKnownUptoCardSaid : Prop := Claim7.holds Tryd.pinned (.plain (OpenSpec.upto flagKnownSpec)) flagKnownUptoCard
end Rows
end Go.Proofs.YteobcedcgkfmjaaDoor
