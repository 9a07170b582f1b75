/-
  DERIVED. GIVEN WITH THE SEED: THE CARDS: each row of YtnlmceafleeaiaaGreatDoorRows.lean that lists a variable, with what it lists TIED to the program's text (the seventh form; the later family's looks); each row that meets fmt, with fmt's text TOLD by the authors' own Lean function (tested against real Go, not proved from fmt's source: count such statements apart). THE CARD IS WHAT COUNTS. Prove the row's statement (the work); the ties are given (YtnlmceafleeaiaaGreatDoorTie.lean); close each card by the builder's one call (the guide's Derived/Test/ToyasCard.lean, 'card_holds'). Laid BY PROGRAM, IN A SANDBOX (cutbox-door.mjs). By AI agents, Wed Nov 11 2026. No macro, syntax, notation, axiom, sorry.
-/
import Derived.Test.YtnlmceafleeaiaaGreatDoorRows
import GoSem.ClaimSeven
namespace Go.Proofs.YtnlmceafleeaiaaGreatDoor
namespace Rows

/-- THE TIED CARD OF 'hairsbreadthlaw21.DivAll'. -/
def divAllCard : Claim7 := { stood := { row := divAllRow, standIns := [], harness := (true, "be401452d57a42a4e07113ea70b8164e8629eed99db48fac3bfa534faee20a2d"), looks := false }, kinds := [], alts := [], laidByText := true, laidKinds := [.data], laidTests := true, laidLooks := .later }
def DivAllCardSaid : Prop := Claim7.holds Tryz.pinned (.plain (OpenSpec.ofChange divAllSpec)) divAllCard

/-- THE TIED CARD OF 'hairsbreadthlaw21.DivBack'. -/
def divBackCard : Claim7 := { stood := { row := divBackRow, standIns := [], harness := (true, "be401452d57a42a4e07113ea70b8164e8629eed99db48fac3bfa534faee20a2d"), looks := false }, kinds := [], alts := [], laidByText := true, laidKinds := [.data], laidTests := true, laidLooks := .later }
def DivBackCardSaid : Prop := Claim7.holds Tryz.pinned (.plain (OpenSpec.ofChange divBackSpec)) divBackCard

/-- THE TIED CARD OF 'hairsbreadthlaw21.DivOne'. -/
def divOneCard : Claim7 := { stood := { row := divOneRow, standIns := [], harness := (true, "be401452d57a42a4e07113ea70b8164e8629eed99db48fac3bfa534faee20a2d"), looks := false }, kinds := [], alts := [], laidByText := true, laidKinds := [.data], laidTests := true, laidLooks := .later }
def DivOneCardSaid : Prop := Claim7.holds Tryz.pinned (.plain (OpenSpec.ofChange divOneSpec)) divOneCard

/-- THE TIED CARD OF 'hairsbreadthlaw21.DivPowers'. -/
def divPowersCard : Claim7 := { stood := { row := divPowersRow, standIns := [], harness := (true, "be401452d57a42a4e07113ea70b8164e8629eed99db48fac3bfa534faee20a2d"), looks := false }, kinds := [], alts := [], laidByText := true, laidKinds := [.data], laidTests := true, laidLooks := .later }
def DivPowersCardSaid : Prop := Claim7.holds Tryz.pinned (.plain (OpenSpec.ofChange divPowersSpec)) divPowersCard

/-- THE TIED CARD OF 'hairsbreadthlaw21.DivTurn'. -/
def divTurnCard : Claim7 := { stood := { row := divTurnRow, standIns := [], harness := (true, "be401452d57a42a4e07113ea70b8164e8629eed99db48fac3bfa534faee20a2d"), looks := false }, kinds := [], alts := [], laidByText := true, laidKinds := [.data], laidTests := true, laidLooks := .later }
def DivTurnCardSaid : Prop := Claim7.holds Tryz.pinned (.plain (OpenSpec.ofChange divTurnSpec)) divTurnCard

/-- THE TIED CARD OF 'hairsbreadthlaw21.DivSpecial'. -/
def divSpecialCard : Claim7 := { stood := { row := divSpecialRow, standIns := [], harness := (true, "be401452d57a42a4e07113ea70b8164e8629eed99db48fac3bfa534faee20a2d"), looks := false }, kinds := [], alts := [], laidByText := true, laidKinds := [.data], laidTests := true, laidLooks := .later }
def DivSpecialCardSaid : Prop := Claim7.holds Tryz.pinned (.plain (OpenSpec.ofChange divSpecialSpec)) divSpecialCard

/-- THE TIED CARD OF 'hairsbreadthlaw21.DivKnown'. -/
def divKnownCard : Claim7 := { stood := { row := divKnownRow, standIns := [], harness := (true, "be401452d57a42a4e07113ea70b8164e8629eed99db48fac3bfa534faee20a2d"), looks := false }, kinds := [], alts := [], laidByText := true, laidKinds := [.data], laidTests := true, laidLooks := .later }
def DivKnownCardSaid : Prop := Claim7.holds Tryz.pinned (.plain (OpenSpec.ofChange divKnownSpec)) divKnownCard

/-- THE SECOND FORM's CARD OF 'hairsbreadthlaw21.DivAll'. -/
def divAllUptoCard : Claim7 := { stood := { row := divAllUptoRow, standIns := [], harness := (true, "be401452d57a42a4e07113ea70b8164e8629eed99db48fac3bfa534faee20a2d"), looks := false }, kinds := [], alts := [], laidByText := true, laidKinds := [.data], laidTests := true, laidLooks := .later }
def DivAllUptoCardSaid : Prop := Claim7.holds Tryz.pinned (.plain (OpenSpec.upto divAllSpec)) divAllUptoCard

/-- THE SECOND FORM's CARD OF 'hairsbreadthlaw21.DivBack'. -/
def divBackUptoCard : Claim7 := { stood := { row := divBackUptoRow, standIns := [], harness := (true, "be401452d57a42a4e07113ea70b8164e8629eed99db48fac3bfa534faee20a2d"), looks := false }, kinds := [], alts := [], laidByText := true, laidKinds := [.data], laidTests := true, laidLooks := .later }
def DivBackUptoCardSaid : Prop := Claim7.holds Tryz.pinned (.plain (OpenSpec.upto divBackSpec)) divBackUptoCard

/-- THE SECOND FORM's CARD OF 'hairsbreadthlaw21.DivOne'. -/
def divOneUptoCard : Claim7 := { stood := { row := divOneUptoRow, standIns := [], harness := (true, "be401452d57a42a4e07113ea70b8164e8629eed99db48fac3bfa534faee20a2d"), looks := false }, kinds := [], alts := [], laidByText := true, laidKinds := [.data], laidTests := true, laidLooks := .later }
def DivOneUptoCardSaid : Prop := Claim7.holds Tryz.pinned (.plain (OpenSpec.upto divOneSpec)) divOneUptoCard

/-- THE SECOND FORM's CARD OF 'hairsbreadthlaw21.DivPowers'. -/
def divPowersUptoCard : Claim7 := { stood := { row := divPowersUptoRow, standIns := [], harness := (true, "be401452d57a42a4e07113ea70b8164e8629eed99db48fac3bfa534faee20a2d"), looks := false }, kinds := [], alts := [], laidByText := true, laidKinds := [.data], laidTests := true, laidLooks := .later }
def DivPowersUptoCardSaid : Prop := Claim7.holds Tryz.pinned (.plain (OpenSpec.upto divPowersSpec)) divPowersUptoCard

/-- THE SECOND FORM's CARD OF 'hairsbreadthlaw21.DivTurn'. -/
def divTurnUptoCard : Claim7 := { stood := { row := divTurnUptoRow, standIns := [], harness := (true, "be401452d57a42a4e07113ea70b8164e8629eed99db48fac3bfa534faee20a2d"), looks := false }, kinds := [], alts := [], laidByText := true, laidKinds := [.data], laidTests := true, laidLooks := .later }
def DivTurnUptoCardSaid : Prop := Claim7.holds Tryz.pinned (.plain (OpenSpec.upto divTurnSpec)) divTurnUptoCard

/-- THE SECOND FORM's CARD OF 'hairsbreadthlaw21.DivSpecial'. -/
def divSpecialUptoCard : Claim7 := { stood := { row := divSpecialUptoRow, standIns := [], harness := (true, "be401452d57a42a4e07113ea70b8164e8629eed99db48fac3bfa534faee20a2d"), looks := false }, kinds := [], alts := [], laidByText := true, laidKinds := [.data], laidTests := true, laidLooks := .later }
def DivSpecialUptoCardSaid : Prop := Claim7.holds Tryz.pinned (.plain (OpenSpec.upto divSpecialSpec)) divSpecialUptoCard

/-- THE SECOND FORM's CARD OF 'hairsbreadthlaw21.DivKnown'. -/
def divKnownUptoCard : Claim7 := { stood := { row := divKnownUptoRow, standIns := [], harness := (true, "be401452d57a42a4e07113ea70b8164e8629eed99db48fac3bfa534faee20a2d"), looks := false }, kinds := [], alts := [], laidByText := true, laidKinds := [.data], laidTests := true, laidLooks := .later }
def DivKnownUptoCardSaid : Prop := Claim7.holds Tryz.pinned (.plain (OpenSpec.upto divKnownSpec)) divKnownUptoCard
end Rows
end Go.Proofs.YtnlmceafleeaiaaGreatDoor
