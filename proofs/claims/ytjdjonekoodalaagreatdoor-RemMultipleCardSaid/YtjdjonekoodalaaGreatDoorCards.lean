/-
  DERIVED. GIVEN WITH THE SEED: THE CARDS: each row of YtjdjonekoodalaaGreatDoorRows.lean that lists a variable, with what it lists TIED to the program's text (the seventh form; the later family's looks); each row that meets fmt, with fmt's text TOLD by the authors' own Lean function (tested against real Go, not proved from fmt's source: count such statements apart). THE CARD IS WHAT COUNTS. Prove the row's statement (the work); the ties are given (YtjdjonekoodalaaGreatDoorTie.lean); close each card by the builder's one call (the guide's Derived/Test/ToyasCard.lean, 'card_holds'). Laid BY PROGRAM, IN A SANDBOX (cutbox-door.mjs). By AI agents, Wed Nov 11 2026. No macro, syntax, notation, axiom, sorry.
-/
import Derived.Test.YtjdjonekoodalaaGreatDoorRows
import GoSem.ClaimSeven
namespace Go.Proofs.YtjdjonekoodalaaGreatDoor
namespace Rows

/-- THE TIED CARD OF 'hairsbreadthlaw23.RemAll'. -/
def remAllCard : Claim7 := { stood := { row := remAllRow, standIns := [], harness := (true, "d60ee813e098d550d254dd589f66c9b603a00f58318f690795b9f24a197127d8"), looks := false }, kinds := [], alts := [], laidByText := true, laidKinds := [.data], laidTests := true, laidLooks := .later }
def RemAllCardSaid : Prop := Claim7.holds Tryz.pinned (.plain (OpenSpec.ofChange remAllSpec)) remAllCard

/-- THE TIED CARD OF 'hairsbreadthlaw23.RemHalf'. -/
def remHalfCard : Claim7 := { stood := { row := remHalfRow, standIns := [], harness := (true, "d60ee813e098d550d254dd589f66c9b603a00f58318f690795b9f24a197127d8"), looks := false }, kinds := [], alts := [], laidByText := true, laidKinds := [.data], laidTests := true, laidLooks := .later }
def RemHalfCardSaid : Prop := Claim7.holds Tryz.pinned (.plain (OpenSpec.ofChange remHalfSpec)) remHalfCard

/-- THE TIED CARD OF 'hairsbreadthlaw23.RemTurn'. -/
def remTurnCard : Claim7 := { stood := { row := remTurnRow, standIns := [], harness := (true, "d60ee813e098d550d254dd589f66c9b603a00f58318f690795b9f24a197127d8"), looks := false }, kinds := [], alts := [], laidByText := true, laidKinds := [.data], laidTests := true, laidLooks := .later }
def RemTurnCardSaid : Prop := Claim7.holds Tryz.pinned (.plain (OpenSpec.ofChange remTurnSpec)) remTurnCard

/-- THE TIED CARD OF 'hairsbreadthlaw23.RemMultiple'. -/
def remMultipleCard : Claim7 := { stood := { row := remMultipleRow, standIns := [], harness := (true, "d60ee813e098d550d254dd589f66c9b603a00f58318f690795b9f24a197127d8"), looks := false }, kinds := [], alts := [], laidByText := true, laidKinds := [.data], laidTests := true, laidLooks := .later }
def RemMultipleCardSaid : Prop := Claim7.holds Tryz.pinned (.plain (OpenSpec.ofChange remMultipleSpec)) remMultipleCard

/-- THE TIED CARD OF 'hairsbreadthlaw23.RemStep'. -/
def remStepCard : Claim7 := { stood := { row := remStepRow, standIns := [], harness := (true, "d60ee813e098d550d254dd589f66c9b603a00f58318f690795b9f24a197127d8"), looks := false }, kinds := [], alts := [], laidByText := true, laidKinds := [.data], laidTests := true, laidLooks := .later }
def RemStepCardSaid : Prop := Claim7.holds Tryz.pinned (.plain (OpenSpec.ofChange remStepSpec)) remStepCard

/-- THE TIED CARD OF 'hairsbreadthlaw23.RemSpecial'. -/
def remSpecialCard : Claim7 := { stood := { row := remSpecialRow, standIns := [], harness := (true, "d60ee813e098d550d254dd589f66c9b603a00f58318f690795b9f24a197127d8"), looks := false }, kinds := [], alts := [], laidByText := true, laidKinds := [.data], laidTests := true, laidLooks := .later }
def RemSpecialCardSaid : Prop := Claim7.holds Tryz.pinned (.plain (OpenSpec.ofChange remSpecialSpec)) remSpecialCard

/-- THE TIED CARD OF 'hairsbreadthlaw23.RemKnown'. -/
def remKnownCard : Claim7 := { stood := { row := remKnownRow, standIns := [], harness := (true, "d60ee813e098d550d254dd589f66c9b603a00f58318f690795b9f24a197127d8"), looks := false }, kinds := [], alts := [], laidByText := true, laidKinds := [.data], laidTests := true, laidLooks := .later }
def RemKnownCardSaid : Prop := Claim7.holds Tryz.pinned (.plain (OpenSpec.ofChange remKnownSpec)) remKnownCard

/-- THE SECOND FORM's CARD OF 'hairsbreadthlaw23.RemAll'. -/
def remAllUptoCard : Claim7 := { stood := { row := remAllUptoRow, standIns := [], harness := (true, "d60ee813e098d550d254dd589f66c9b603a00f58318f690795b9f24a197127d8"), looks := false }, kinds := [], alts := [], laidByText := true, laidKinds := [.data], laidTests := true, laidLooks := .later }
def RemAllUptoCardSaid : Prop := Claim7.holds Tryz.pinned (.plain (OpenSpec.upto remAllSpec)) remAllUptoCard

/-- THE SECOND FORM's CARD OF 'hairsbreadthlaw23.RemHalf'. -/
def remHalfUptoCard : Claim7 := { stood := { row := remHalfUptoRow, standIns := [], harness := (true, "d60ee813e098d550d254dd589f66c9b603a00f58318f690795b9f24a197127d8"), looks := false }, kinds := [], alts := [], laidByText := true, laidKinds := [.data], laidTests := true, laidLooks := .later }
def RemHalfUptoCardSaid : Prop := Claim7.holds Tryz.pinned (.plain (OpenSpec.upto remHalfSpec)) remHalfUptoCard

/-- THE SECOND FORM's CARD OF 'hairsbreadthlaw23.RemTurn'. -/
def remTurnUptoCard : Claim7 := { stood := { row := remTurnUptoRow, standIns := [], harness := (true, "d60ee813e098d550d254dd589f66c9b603a00f58318f690795b9f24a197127d8"), looks := false }, kinds := [], alts := [], laidByText := true, laidKinds := [.data], laidTests := true, laidLooks := .later }
def RemTurnUptoCardSaid : Prop := Claim7.holds Tryz.pinned (.plain (OpenSpec.upto remTurnSpec)) remTurnUptoCard

/-- THE SECOND FORM's CARD OF 'hairsbreadthlaw23.RemMultiple'. -/
def remMultipleUptoCard : Claim7 := { stood := { row := remMultipleUptoRow, standIns := [], harness := (true, "d60ee813e098d550d254dd589f66c9b603a00f58318f690795b9f24a197127d8"), looks := false }, kinds := [], alts := [], laidByText := true, laidKinds := [.data], laidTests := true, laidLooks := .later }
def RemMultipleUptoCardSaid : Prop := Claim7.holds Tryz.pinned (.plain (OpenSpec.upto remMultipleSpec)) remMultipleUptoCard

/-- THE SECOND FORM's CARD OF 'hairsbreadthlaw23.RemStep'. -/
def remStepUptoCard : Claim7 := { stood := { row := remStepUptoRow, standIns := [], harness := (true, "d60ee813e098d550d254dd589f66c9b603a00f58318f690795b9f24a197127d8"), looks := false }, kinds := [], alts := [], laidByText := true, laidKinds := [.data], laidTests := true, laidLooks := .later }
def RemStepUptoCardSaid : Prop := Claim7.holds Tryz.pinned (.plain (OpenSpec.upto remStepSpec)) remStepUptoCard

/-- THE SECOND FORM's CARD OF 'hairsbreadthlaw23.RemSpecial'. -/
def remSpecialUptoCard : Claim7 := { stood := { row := remSpecialUptoRow, standIns := [], harness := (true, "d60ee813e098d550d254dd589f66c9b603a00f58318f690795b9f24a197127d8"), looks := false }, kinds := [], alts := [], laidByText := true, laidKinds := [.data], laidTests := true, laidLooks := .later }
def RemSpecialUptoCardSaid : Prop := Claim7.holds Tryz.pinned (.plain (OpenSpec.upto remSpecialSpec)) remSpecialUptoCard

/-- THE SECOND FORM's CARD OF 'hairsbreadthlaw23.RemKnown'. -/
def remKnownUptoCard : Claim7 := { stood := { row := remKnownUptoRow, standIns := [], harness := (true, "d60ee813e098d550d254dd589f66c9b603a00f58318f690795b9f24a197127d8"), looks := false }, kinds := [], alts := [], laidByText := true, laidKinds := [.data], laidTests := true, laidLooks := .later }
def RemKnownUptoCardSaid : Prop := Claim7.holds Tryz.pinned (.plain (OpenSpec.upto remKnownSpec)) remKnownUptoCard
end Rows
end Go.Proofs.YtjdjonekoodalaaGreatDoor
