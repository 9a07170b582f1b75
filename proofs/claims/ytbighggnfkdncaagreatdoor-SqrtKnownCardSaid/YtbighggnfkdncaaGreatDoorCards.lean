/-
  DERIVED. GIVEN WITH THE SEED: THE CARDS: each row of YtbighggnfkdncaaGreatDoorRows.lean that lists a variable, with what it lists TIED to the program's text (the seventh form; the later family's looks); each row that meets fmt, with fmt's text TOLD by the authors' own Lean function (tested against real Go, not proved from fmt's source: count such statements apart). THE CARD IS WHAT COUNTS. Prove the row's statement (the work); the ties are given (YtbighggnfkdncaaGreatDoorTie.lean); close each card by the builder's one call (the guide's Derived/Test/ToyasCard.lean, 'card_holds'). Laid BY PROGRAM, IN A SANDBOX (cutbox-door.mjs). By AI agents, Wed Nov 11 2026. No macro, syntax, notation, axiom, sorry.
-/
import Derived.Test.YtbighggnfkdncaaGreatDoorRows
import GoSem.ClaimSeven
namespace Go.Proofs.YtbighggnfkdncaaGreatDoor
namespace Rows

/-- THE TIED CARD OF 'hairsbreadthlaw22.SqrtAll'. -/
def sqrtAllCard : Claim7 := { stood := { row := sqrtAllRow, standIns := [], harness := (true, "01173c4867314eefd03fe0d717685d10f993e9661efa2a55aaa5670831a2ec02"), looks := false }, kinds := [], alts := [], laidByText := true, laidKinds := [.data], laidTests := true, laidLooks := .later }
def SqrtAllCardSaid : Prop := Claim7.holds Tryz.pinned (.plain (OpenSpec.ofChange sqrtAllSpec)) sqrtAllCard

/-- THE TIED CARD OF 'hairsbreadthlaw22.SqrtBetween'. -/
def sqrtBetweenCard : Claim7 := { stood := { row := sqrtBetweenRow, standIns := [], harness := (true, "01173c4867314eefd03fe0d717685d10f993e9661efa2a55aaa5670831a2ec02"), looks := false }, kinds := [], alts := [], laidByText := true, laidKinds := [.data], laidTests := true, laidLooks := .later }
def SqrtBetweenCardSaid : Prop := Claim7.holds Tryz.pinned (.plain (OpenSpec.ofChange sqrtBetweenSpec)) sqrtBetweenCard

/-- THE TIED CARD OF 'hairsbreadthlaw22.SqrtSquare'. -/
def sqrtSquareCard : Claim7 := { stood := { row := sqrtSquareRow, standIns := [], harness := (true, "01173c4867314eefd03fe0d717685d10f993e9661efa2a55aaa5670831a2ec02"), looks := false }, kinds := [], alts := [], laidByText := true, laidKinds := [.data], laidTests := true, laidLooks := .later }
def SqrtSquareCardSaid : Prop := Claim7.holds Tryz.pinned (.plain (OpenSpec.ofChange sqrtSquareSpec)) sqrtSquareCard

/-- THE TIED CARD OF 'hairsbreadthlaw22.SqrtOrder'. -/
def sqrtOrderCard : Claim7 := { stood := { row := sqrtOrderRow, standIns := [], harness := (true, "01173c4867314eefd03fe0d717685d10f993e9661efa2a55aaa5670831a2ec02"), looks := false }, kinds := [], alts := [], laidByText := true, laidKinds := [.data], laidTests := true, laidLooks := .later }
def SqrtOrderCardSaid : Prop := Claim7.holds Tryz.pinned (.plain (OpenSpec.ofChange sqrtOrderSpec)) sqrtOrderCard

/-- THE TIED CARD OF 'hairsbreadthlaw22.SqrtFour'. -/
def sqrtFourCard : Claim7 := { stood := { row := sqrtFourRow, standIns := [], harness := (true, "01173c4867314eefd03fe0d717685d10f993e9661efa2a55aaa5670831a2ec02"), looks := false }, kinds := [], alts := [], laidByText := true, laidKinds := [.data], laidTests := true, laidLooks := .later }
def SqrtFourCardSaid : Prop := Claim7.holds Tryz.pinned (.plain (OpenSpec.ofChange sqrtFourSpec)) sqrtFourCard

/-- THE TIED CARD OF 'hairsbreadthlaw22.SqrtNegative'. -/
def sqrtNegativeCard : Claim7 := { stood := { row := sqrtNegativeRow, standIns := [], harness := (true, "01173c4867314eefd03fe0d717685d10f993e9661efa2a55aaa5670831a2ec02"), looks := false }, kinds := [], alts := [], laidByText := true, laidKinds := [.data], laidTests := true, laidLooks := .later }
def SqrtNegativeCardSaid : Prop := Claim7.holds Tryz.pinned (.plain (OpenSpec.ofChange sqrtNegativeSpec)) sqrtNegativeCard

/-- THE TIED CARD OF 'hairsbreadthlaw22.SqrtKnown'. -/
def sqrtKnownCard : Claim7 := { stood := { row := sqrtKnownRow, standIns := [], harness := (true, "01173c4867314eefd03fe0d717685d10f993e9661efa2a55aaa5670831a2ec02"), looks := false }, kinds := [], alts := [], laidByText := true, laidKinds := [.data], laidTests := true, laidLooks := .later }
def SqrtKnownCardSaid : Prop := Claim7.holds Tryz.pinned (.plain (OpenSpec.ofChange sqrtKnownSpec)) sqrtKnownCard

/-- THE SECOND FORM's CARD OF 'hairsbreadthlaw22.SqrtAll'. -/
def sqrtAllUptoCard : Claim7 := { stood := { row := sqrtAllUptoRow, standIns := [], harness := (true, "01173c4867314eefd03fe0d717685d10f993e9661efa2a55aaa5670831a2ec02"), looks := false }, kinds := [], alts := [], laidByText := true, laidKinds := [.data], laidTests := true, laidLooks := .later }
def SqrtAllUptoCardSaid : Prop := Claim7.holds Tryz.pinned (.plain (OpenSpec.upto sqrtAllSpec)) sqrtAllUptoCard

/-- THE SECOND FORM's CARD OF 'hairsbreadthlaw22.SqrtBetween'. -/
def sqrtBetweenUptoCard : Claim7 := { stood := { row := sqrtBetweenUptoRow, standIns := [], harness := (true, "01173c4867314eefd03fe0d717685d10f993e9661efa2a55aaa5670831a2ec02"), looks := false }, kinds := [], alts := [], laidByText := true, laidKinds := [.data], laidTests := true, laidLooks := .later }
def SqrtBetweenUptoCardSaid : Prop := Claim7.holds Tryz.pinned (.plain (OpenSpec.upto sqrtBetweenSpec)) sqrtBetweenUptoCard

/-- THE SECOND FORM's CARD OF 'hairsbreadthlaw22.SqrtSquare'. -/
def sqrtSquareUptoCard : Claim7 := { stood := { row := sqrtSquareUptoRow, standIns := [], harness := (true, "01173c4867314eefd03fe0d717685d10f993e9661efa2a55aaa5670831a2ec02"), looks := false }, kinds := [], alts := [], laidByText := true, laidKinds := [.data], laidTests := true, laidLooks := .later }
def SqrtSquareUptoCardSaid : Prop := Claim7.holds Tryz.pinned (.plain (OpenSpec.upto sqrtSquareSpec)) sqrtSquareUptoCard

/-- THE SECOND FORM's CARD OF 'hairsbreadthlaw22.SqrtOrder'. -/
def sqrtOrderUptoCard : Claim7 := { stood := { row := sqrtOrderUptoRow, standIns := [], harness := (true, "01173c4867314eefd03fe0d717685d10f993e9661efa2a55aaa5670831a2ec02"), looks := false }, kinds := [], alts := [], laidByText := true, laidKinds := [.data], laidTests := true, laidLooks := .later }
def SqrtOrderUptoCardSaid : Prop := Claim7.holds Tryz.pinned (.plain (OpenSpec.upto sqrtOrderSpec)) sqrtOrderUptoCard

/-- THE SECOND FORM's CARD OF 'hairsbreadthlaw22.SqrtFour'. -/
def sqrtFourUptoCard : Claim7 := { stood := { row := sqrtFourUptoRow, standIns := [], harness := (true, "01173c4867314eefd03fe0d717685d10f993e9661efa2a55aaa5670831a2ec02"), looks := false }, kinds := [], alts := [], laidByText := true, laidKinds := [.data], laidTests := true, laidLooks := .later }
def SqrtFourUptoCardSaid : Prop := Claim7.holds Tryz.pinned (.plain (OpenSpec.upto sqrtFourSpec)) sqrtFourUptoCard

/-- THE SECOND FORM's CARD OF 'hairsbreadthlaw22.SqrtNegative'. -/
def sqrtNegativeUptoCard : Claim7 := { stood := { row := sqrtNegativeUptoRow, standIns := [], harness := (true, "01173c4867314eefd03fe0d717685d10f993e9661efa2a55aaa5670831a2ec02"), looks := false }, kinds := [], alts := [], laidByText := true, laidKinds := [.data], laidTests := true, laidLooks := .later }
def SqrtNegativeUptoCardSaid : Prop := Claim7.holds Tryz.pinned (.plain (OpenSpec.upto sqrtNegativeSpec)) sqrtNegativeUptoCard

/-- THE SECOND FORM's CARD OF 'hairsbreadthlaw22.SqrtKnown'. -/
def sqrtKnownUptoCard : Claim7 := { stood := { row := sqrtKnownUptoRow, standIns := [], harness := (true, "01173c4867314eefd03fe0d717685d10f993e9661efa2a55aaa5670831a2ec02"), looks := false }, kinds := [], alts := [], laidByText := true, laidKinds := [.data], laidTests := true, laidLooks := .later }
def SqrtKnownUptoCardSaid : Prop := Claim7.holds Tryz.pinned (.plain (OpenSpec.upto sqrtKnownSpec)) sqrtKnownUptoCard
end Rows
end Go.Proofs.YtbighggnfkdncaaGreatDoor
