/-
  DERIVED. GIVEN WITH THE SEED: THE CARDS: each row of YtjnohbpebdnngaaGreatDoorRows.lean that lists a variable, with what it lists TIED to the program's text (the seventh form; the later family's looks); each row that meets fmt, with fmt's text TOLD by the authors' own Lean function (tested against real Go, not proved from fmt's source: count such statements apart). THE CARD IS WHAT COUNTS. Prove the row's statement (the work); the ties are given (YtjnohbpebdnngaaGreatDoorTie.lean); close each card by the builder's one call (the guide's Derived/Test/ToyasCard.lean, 'card_holds'). Laid BY PROGRAM, IN A SANDBOX (cutbox-door.mjs). By AI agents, Wed Nov 11 2026. No macro, syntax, notation, axiom, sorry.
-/
import Derived.Test.YtjnohbpebdnngaaGreatDoorRows
import GoSem.ClaimSeven
namespace Go.Proofs.YtjnohbpebdnngaaGreatDoor
namespace Rows

/-- THE TIED CARD OF 'hairsbreadthlaw19.MulAll'. -/
def mulAllCard : Claim7 := { stood := { row := mulAllRow, standIns := [], harness := (true, "23dc8d5bb19aac91369ae9281cceba81717d13ddb0452dc34ba0355e3d842186"), looks := false }, kinds := [], alts := [], laidByText := true, laidKinds := [.data], laidTests := true, laidLooks := .later }
def MulAllCardSaid : Prop := Claim7.holds Tryz.pinned (.plain (OpenSpec.ofChange mulAllSpec)) mulAllCard

/-- THE TIED CARD OF 'hairsbreadthlaw19.MulTerms'. -/
def mulTermsCard : Claim7 := { stood := { row := mulTermsRow, standIns := [], harness := (true, "23dc8d5bb19aac91369ae9281cceba81717d13ddb0452dc34ba0355e3d842186"), looks := false }, kinds := [], alts := [], laidByText := true, laidKinds := [.data], laidTests := true, laidLooks := .later }
def MulTermsCardSaid : Prop := Claim7.holds Tryz.pinned (.plain (OpenSpec.ofChange mulTermsSpec)) mulTermsCard

/-- THE TIED CARD OF 'hairsbreadthlaw19.MulWide'. -/
def mulWideCard : Claim7 := { stood := { row := mulWideRow, standIns := [], harness := (true, "23dc8d5bb19aac91369ae9281cceba81717d13ddb0452dc34ba0355e3d842186"), looks := false }, kinds := [], alts := [], laidByText := true, laidKinds := [.data], laidTests := true, laidLooks := .later }
def MulWideCardSaid : Prop := Claim7.holds Tryz.pinned (.plain (OpenSpec.ofChange mulWideSpec)) mulWideCard

/-- THE TIED CARD OF 'hairsbreadthlaw19.MulTurn'. -/
def mulTurnCard : Claim7 := { stood := { row := mulTurnRow, standIns := [], harness := (true, "23dc8d5bb19aac91369ae9281cceba81717d13ddb0452dc34ba0355e3d842186"), looks := false }, kinds := [], alts := [], laidByText := true, laidKinds := [.data], laidTests := true, laidLooks := .later }
def MulTurnCardSaid : Prop := Claim7.holds Tryz.pinned (.plain (OpenSpec.ofChange mulTurnSpec)) mulTurnCard

/-- THE TIED CARD OF 'hairsbreadthlaw19.MulOne'. -/
def mulOneCard : Claim7 := { stood := { row := mulOneRow, standIns := [], harness := (true, "23dc8d5bb19aac91369ae9281cceba81717d13ddb0452dc34ba0355e3d842186"), looks := false }, kinds := [], alts := [], laidByText := true, laidKinds := [.data], laidTests := true, laidLooks := .later }
def MulOneCardSaid : Prop := Claim7.holds Tryz.pinned (.plain (OpenSpec.ofChange mulOneSpec)) mulOneCard

/-- THE TIED CARD OF 'hairsbreadthlaw19.MulOrder'. -/
def mulOrderCard : Claim7 := { stood := { row := mulOrderRow, standIns := [], harness := (true, "23dc8d5bb19aac91369ae9281cceba81717d13ddb0452dc34ba0355e3d842186"), looks := false }, kinds := [], alts := [], laidByText := true, laidKinds := [.data], laidTests := true, laidLooks := .later }
def MulOrderCardSaid : Prop := Claim7.holds Tryz.pinned (.plain (OpenSpec.ofChange mulOrderSpec)) mulOrderCard

/-- THE TIED CARD OF 'hairsbreadthlaw19.MulSpecial'. -/
def mulSpecialCard : Claim7 := { stood := { row := mulSpecialRow, standIns := [], harness := (true, "23dc8d5bb19aac91369ae9281cceba81717d13ddb0452dc34ba0355e3d842186"), looks := false }, kinds := [], alts := [], laidByText := true, laidKinds := [.data], laidTests := true, laidLooks := .later }
def MulSpecialCardSaid : Prop := Claim7.holds Tryz.pinned (.plain (OpenSpec.ofChange mulSpecialSpec)) mulSpecialCard

/-- THE TIED CARD OF 'hairsbreadthlaw19.MulKnown'. -/
def mulKnownCard : Claim7 := { stood := { row := mulKnownRow, standIns := [], harness := (true, "23dc8d5bb19aac91369ae9281cceba81717d13ddb0452dc34ba0355e3d842186"), looks := false }, kinds := [], alts := [], laidByText := true, laidKinds := [.data], laidTests := true, laidLooks := .later }
def MulKnownCardSaid : Prop := Claim7.holds Tryz.pinned (.plain (OpenSpec.ofChange mulKnownSpec)) mulKnownCard

/-- THE SECOND FORM's CARD OF 'hairsbreadthlaw19.MulAll'. -/
def mulAllUptoCard : Claim7 := { stood := { row := mulAllUptoRow, standIns := [], harness := (true, "23dc8d5bb19aac91369ae9281cceba81717d13ddb0452dc34ba0355e3d842186"), looks := false }, kinds := [], alts := [], laidByText := true, laidKinds := [.data], laidTests := true, laidLooks := .later }
def MulAllUptoCardSaid : Prop := Claim7.holds Tryz.pinned (.plain (OpenSpec.upto mulAllSpec)) mulAllUptoCard

/-- THE SECOND FORM's CARD OF 'hairsbreadthlaw19.MulTerms'. -/
def mulTermsUptoCard : Claim7 := { stood := { row := mulTermsUptoRow, standIns := [], harness := (true, "23dc8d5bb19aac91369ae9281cceba81717d13ddb0452dc34ba0355e3d842186"), looks := false }, kinds := [], alts := [], laidByText := true, laidKinds := [.data], laidTests := true, laidLooks := .later }
def MulTermsUptoCardSaid : Prop := Claim7.holds Tryz.pinned (.plain (OpenSpec.upto mulTermsSpec)) mulTermsUptoCard

/-- THE SECOND FORM's CARD OF 'hairsbreadthlaw19.MulWide'. -/
def mulWideUptoCard : Claim7 := { stood := { row := mulWideUptoRow, standIns := [], harness := (true, "23dc8d5bb19aac91369ae9281cceba81717d13ddb0452dc34ba0355e3d842186"), looks := false }, kinds := [], alts := [], laidByText := true, laidKinds := [.data], laidTests := true, laidLooks := .later }
def MulWideUptoCardSaid : Prop := Claim7.holds Tryz.pinned (.plain (OpenSpec.upto mulWideSpec)) mulWideUptoCard

/-- THE SECOND FORM's CARD OF 'hairsbreadthlaw19.MulTurn'. -/
def mulTurnUptoCard : Claim7 := { stood := { row := mulTurnUptoRow, standIns := [], harness := (true, "23dc8d5bb19aac91369ae9281cceba81717d13ddb0452dc34ba0355e3d842186"), looks := false }, kinds := [], alts := [], laidByText := true, laidKinds := [.data], laidTests := true, laidLooks := .later }
def MulTurnUptoCardSaid : Prop := Claim7.holds Tryz.pinned (.plain (OpenSpec.upto mulTurnSpec)) mulTurnUptoCard

/-- THE SECOND FORM's CARD OF 'hairsbreadthlaw19.MulOne'. -/
def mulOneUptoCard : Claim7 := { stood := { row := mulOneUptoRow, standIns := [], harness := (true, "23dc8d5bb19aac91369ae9281cceba81717d13ddb0452dc34ba0355e3d842186"), looks := false }, kinds := [], alts := [], laidByText := true, laidKinds := [.data], laidTests := true, laidLooks := .later }
def MulOneUptoCardSaid : Prop := Claim7.holds Tryz.pinned (.plain (OpenSpec.upto mulOneSpec)) mulOneUptoCard

/-- THE SECOND FORM's CARD OF 'hairsbreadthlaw19.MulOrder'. -/
def mulOrderUptoCard : Claim7 := { stood := { row := mulOrderUptoRow, standIns := [], harness := (true, "23dc8d5bb19aac91369ae9281cceba81717d13ddb0452dc34ba0355e3d842186"), looks := false }, kinds := [], alts := [], laidByText := true, laidKinds := [.data], laidTests := true, laidLooks := .later }
def MulOrderUptoCardSaid : Prop := Claim7.holds Tryz.pinned (.plain (OpenSpec.upto mulOrderSpec)) mulOrderUptoCard

/-- THE SECOND FORM's CARD OF 'hairsbreadthlaw19.MulSpecial'. -/
def mulSpecialUptoCard : Claim7 := { stood := { row := mulSpecialUptoRow, standIns := [], harness := (true, "23dc8d5bb19aac91369ae9281cceba81717d13ddb0452dc34ba0355e3d842186"), looks := false }, kinds := [], alts := [], laidByText := true, laidKinds := [.data], laidTests := true, laidLooks := .later }
def MulSpecialUptoCardSaid : Prop := Claim7.holds Tryz.pinned (.plain (OpenSpec.upto mulSpecialSpec)) mulSpecialUptoCard

/-- THE SECOND FORM's CARD OF 'hairsbreadthlaw19.MulKnown'. -/
def mulKnownUptoCard : Claim7 := { stood := { row := mulKnownUptoRow, standIns := [], harness := (true, "23dc8d5bb19aac91369ae9281cceba81717d13ddb0452dc34ba0355e3d842186"), looks := false }, kinds := [], alts := [], laidByText := true, laidKinds := [.data], laidTests := true, laidLooks := .later }
def MulKnownUptoCardSaid : Prop := Claim7.holds Tryz.pinned (.plain (OpenSpec.upto mulKnownSpec)) mulKnownUptoCard
end Rows
end Go.Proofs.YtjnohbpebdnngaaGreatDoor
