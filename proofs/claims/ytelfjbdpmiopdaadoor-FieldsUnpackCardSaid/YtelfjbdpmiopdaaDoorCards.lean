/-
  DERIVED. GIVEN WITH THE SEED: THE CARDS: each row of YtelfjbdpmiopdaaDoorRows.lean that lists a variable, with what it lists TIED to the program's text (the seventh form; the later family's looks); each row that meets fmt, with fmt's text TOLD by the authors' own Lean function (tested against real Go, not proved from fmt's source: count such statements apart). THE CARD IS WHAT COUNTS. Prove the row's statement (the work); the ties are given (YtelfjbdpmiopdaaDoorTie.lean); close each card by the builder's one call (the guide's Derived/Test/ToyasCard.lean, 'card_holds'). Laid BY PROGRAM, IN A SANDBOX (cutbox-door.mjs). By AI agents, Wed Nov 11 2026. No macro, syntax, notation, axiom, sorry.
-/
import Derived.Test.YtelfjbdpmiopdaaDoorRows
import GoSem.ClaimSeven
namespace Go.Proofs.YtelfjbdpmiopdaaDoor
namespace Rows

/-- THE TIED CARD OF 'hairsbreadthlaw09.FieldsUnpack'. -/
def fieldsUnpackCard : Claim7 := { stood := { row := fieldsUnpackRow, standIns := [], harness := (true, "eb8d1f0abcee696491bb5a82215f0ff7b1962d464d8139263c34a0b79a1efcee"), looks := false }, kinds := [], alts := [], laidByText := true, laidKinds := [.data], laidTests := true, laidLooks := .later }
def FieldsUnpackCardSaid : Prop := Claim7.holds Tryd.pinned (.plain (OpenSpec.ofChange fieldsUnpackSpec)) fieldsUnpackCard

/-- THE TIED CARD OF 'hairsbreadthlaw09.FieldsPack'. -/
def fieldsPackCard : Claim7 := { stood := { row := fieldsPackRow, standIns := [], harness := (true, "eb8d1f0abcee696491bb5a82215f0ff7b1962d464d8139263c34a0b79a1efcee"), looks := false }, kinds := [], alts := [], laidByText := true, laidKinds := [.data], laidTests := true, laidLooks := .later }
def FieldsPackCardSaid : Prop := Claim7.holds Tryd.pinned (.plain (OpenSpec.ofChange fieldsPackSpec)) fieldsPackCard

/-- THE TIED CARD OF 'hairsbreadthlaw09.FieldsBack'. -/
def fieldsBackCard : Claim7 := { stood := { row := fieldsBackRow, standIns := [], harness := (true, "eb8d1f0abcee696491bb5a82215f0ff7b1962d464d8139263c34a0b79a1efcee"), looks := false }, kinds := [], alts := [], laidByText := true, laidKinds := [.data], laidTests := true, laidLooks := .later }
def FieldsBackCardSaid : Prop := Claim7.holds Tryd.pinned (.plain (OpenSpec.ofChange fieldsBackSpec)) fieldsBackCard

/-- THE TIED CARD OF 'hairsbreadthlaw09.FieldsOrder'. -/
def fieldsOrderCard : Claim7 := { stood := { row := fieldsOrderRow, standIns := [], harness := (true, "eb8d1f0abcee696491bb5a82215f0ff7b1962d464d8139263c34a0b79a1efcee"), looks := false }, kinds := [], alts := [], laidByText := true, laidKinds := [.data], laidTests := true, laidLooks := .later }
def FieldsOrderCardSaid : Prop := Claim7.holds Tryd.pinned (.plain (OpenSpec.ofChange fieldsOrderSpec)) fieldsOrderCard

/-- THE TIED CARD OF 'hairsbreadthlaw09.FieldsReach'. -/
def fieldsReachCard : Claim7 := { stood := { row := fieldsReachRow, standIns := [], harness := (true, "eb8d1f0abcee696491bb5a82215f0ff7b1962d464d8139263c34a0b79a1efcee"), looks := false }, kinds := [], alts := [], laidByText := true, laidKinds := [.data], laidTests := true, laidLooks := .later }
def FieldsReachCardSaid : Prop := Claim7.holds Tryd.pinned (.plain (OpenSpec.ofChange fieldsReachSpec)) fieldsReachCard

/-- THE TIED CARD OF 'hairsbreadthlaw09.FieldsWide'. -/
def fieldsWideCard : Claim7 := { stood := { row := fieldsWideRow, standIns := [], harness := (true, "eb8d1f0abcee696491bb5a82215f0ff7b1962d464d8139263c34a0b79a1efcee"), looks := false }, kinds := [], alts := [], laidByText := true, laidKinds := [.data], laidTests := true, laidLooks := .later }
def FieldsWideCardSaid : Prop := Claim7.holds Tryd.pinned (.plain (OpenSpec.ofChange fieldsWideSpec)) fieldsWideCard

/-- THE TIED CARD OF 'hairsbreadthlaw09.FieldsKnown'. -/
def fieldsKnownCard : Claim7 := { stood := { row := fieldsKnownRow, standIns := [], harness := (true, "eb8d1f0abcee696491bb5a82215f0ff7b1962d464d8139263c34a0b79a1efcee"), looks := false }, kinds := [], alts := [], laidByText := true, laidKinds := [.data], laidTests := true, laidLooks := .later }
def FieldsKnownCardSaid : Prop := Claim7.holds Tryd.pinned (.plain (OpenSpec.ofChange fieldsKnownSpec)) fieldsKnownCard

/-- THE SECOND FORM's CARD OF 'hairsbreadthlaw09.FieldsUnpack'. -/
def fieldsUnpackUptoCard : Claim7 := { stood := { row := fieldsUnpackUptoRow, standIns := [], harness := (true, "eb8d1f0abcee696491bb5a82215f0ff7b1962d464d8139263c34a0b79a1efcee"), looks := false }, kinds := [], alts := [], laidByText := true, laidKinds := [.data], laidTests := true, laidLooks := .later }
def FieldsUnpackUptoCardSaid : Prop := Claim7.holds Tryd.pinned (.plain (OpenSpec.upto fieldsUnpackSpec)) fieldsUnpackUptoCard

/-- THE SECOND FORM's CARD OF 'hairsbreadthlaw09.FieldsPack'. -/
def fieldsPackUptoCard : Claim7 := { stood := { row := fieldsPackUptoRow, standIns := [], harness := (true, "eb8d1f0abcee696491bb5a82215f0ff7b1962d464d8139263c34a0b79a1efcee"), looks := false }, kinds := [], alts := [], laidByText := true, laidKinds := [.data], laidTests := true, laidLooks := .later }
def FieldsPackUptoCardSaid : Prop := Claim7.holds Tryd.pinned (.plain (OpenSpec.upto fieldsPackSpec)) fieldsPackUptoCard

/-- THE SECOND FORM's CARD OF 'hairsbreadthlaw09.FieldsBack'. -/
def fieldsBackUptoCard : Claim7 := { stood := { row := fieldsBackUptoRow, standIns := [], harness := (true, "eb8d1f0abcee696491bb5a82215f0ff7b1962d464d8139263c34a0b79a1efcee"), looks := false }, kinds := [], alts := [], laidByText := true, laidKinds := [.data], laidTests := true, laidLooks := .later }
def FieldsBackUptoCardSaid : Prop := Claim7.holds Tryd.pinned (.plain (OpenSpec.upto fieldsBackSpec)) fieldsBackUptoCard

/-- THE SECOND FORM's CARD OF 'hairsbreadthlaw09.FieldsOrder'. -/
def fieldsOrderUptoCard : Claim7 := { stood := { row := fieldsOrderUptoRow, standIns := [], harness := (true, "eb8d1f0abcee696491bb5a82215f0ff7b1962d464d8139263c34a0b79a1efcee"), looks := false }, kinds := [], alts := [], laidByText := true, laidKinds := [.data], laidTests := true, laidLooks := .later }
def FieldsOrderUptoCardSaid : Prop := Claim7.holds Tryd.pinned (.plain (OpenSpec.upto fieldsOrderSpec)) fieldsOrderUptoCard

/-- THE SECOND FORM's CARD OF 'hairsbreadthlaw09.FieldsReach'. -/
def fieldsReachUptoCard : Claim7 := { stood := { row := fieldsReachUptoRow, standIns := [], harness := (true, "eb8d1f0abcee696491bb5a82215f0ff7b1962d464d8139263c34a0b79a1efcee"), looks := false }, kinds := [], alts := [], laidByText := true, laidKinds := [.data], laidTests := true, laidLooks := .later }
def FieldsReachUptoCardSaid : Prop := Claim7.holds Tryd.pinned (.plain (OpenSpec.upto fieldsReachSpec)) fieldsReachUptoCard

/-- THE SECOND FORM's CARD OF 'hairsbreadthlaw09.FieldsWide'. -/
def fieldsWideUptoCard : Claim7 := { stood := { row := fieldsWideUptoRow, standIns := [], harness := (true, "eb8d1f0abcee696491bb5a82215f0ff7b1962d464d8139263c34a0b79a1efcee"), looks := false }, kinds := [], alts := [], laidByText := true, laidKinds := [.data], laidTests := true, laidLooks := .later }
def FieldsWideUptoCardSaid : Prop := Claim7.holds Tryd.pinned (.plain (OpenSpec.upto fieldsWideSpec)) fieldsWideUptoCard

/-- THE SECOND FORM's CARD OF 'hairsbreadthlaw09.FieldsKnown'. -/
def fieldsKnownUptoCard : Claim7 := { stood := { row := fieldsKnownUptoRow, standIns := [], harness := (true, "eb8d1f0abcee696491bb5a82215f0ff7b1962d464d8139263c34a0b79a1efcee"), looks := false }, kinds := [], alts := [], laidByText := true, laidKinds := [.data], laidTests := true, laidLooks := .later }
def FieldsKnownUptoCardSaid : Prop := Claim7.holds Tryd.pinned (.plain (OpenSpec.upto fieldsKnownSpec)) fieldsKnownUptoCard
end Rows
end Go.Proofs.YtelfjbdpmiopdaaDoor
