/-
  DERIVED. GIVEN WITH THE SEED: THE CARDS: each row of YtfcffmihhpcjjaaDoorRows.lean that lists a variable, with what it lists TIED to the program's text (the seventh form; the later family's looks); each row that meets fmt, with fmt's text TOLD by the authors' own Lean function (tested against real Go, not proved from fmt's source: count such statements apart). THE CARD IS WHAT COUNTS. Prove the row's statement (the work); the ties are given (YtfcffmihhpcjjaaDoorTie.lean); close each card by the builder's one call (the guide's Derived/Test/ToyasCard.lean, 'card_holds'). Laid BY PROGRAM, IN A SANDBOX (cutbox-door.mjs). By AI agents, Wed Nov 11 2026. No macro, syntax, notation, axiom, sorry.
-/
import Derived.Test.YtfcffmihhpcjjaaDoorRows
import GoSem.ClaimSeven
namespace Go.Proofs.YtfcffmihhpcjjaaDoor
namespace Rows

/-- THE TIED CARD OF 'hairsbreadthlaw10.NanQuiets'. -/
def nanQuietsCard : Claim7 := { stood := { row := nanQuietsRow, standIns := [], harness := (true, "852088fa22407e5dad9470486ce4db058d521da7e0ef9f9e5f3569f8c248191a"), looks := false }, kinds := [], alts := [], laidByText := true, laidKinds := [.data], laidTests := true, laidLooks := .later }
def NanQuietsCardSaid : Prop := Claim7.holds Tryd.pinned (.plain (OpenSpec.ofChange nanQuietsSpec)) nanQuietsCard

/-- THE TIED CARD OF 'hairsbreadthlaw10.NanPicks'. -/
def nanPicksCard : Claim7 := { stood := { row := nanPicksRow, standIns := [], harness := (true, "852088fa22407e5dad9470486ce4db058d521da7e0ef9f9e5f3569f8c248191a"), looks := false }, kinds := [], alts := [], laidByText := true, laidKinds := [.data], laidTests := true, laidLooks := .later }
def NanPicksCardSaid : Prop := Claim7.holds Tryd.pinned (.plain (OpenSpec.ofChange nanPicksSpec)) nanPicksCard

/-- THE TIED CARD OF 'hairsbreadthlaw10.NanAnswers'. -/
def nanAnswersCard : Claim7 := { stood := { row := nanAnswersRow, standIns := [], harness := (true, "852088fa22407e5dad9470486ce4db058d521da7e0ef9f9e5f3569f8c248191a"), looks := false }, kinds := [], alts := [], laidByText := true, laidKinds := [.data], laidTests := true, laidLooks := .later }
def NanAnswersCardSaid : Prop := Claim7.holds Tryd.pinned (.plain (OpenSpec.ofChange nanAnswersSpec)) nanAnswersCard

/-- THE TIED CARD OF 'hairsbreadthlaw10.NanStays'. -/
def nanStaysCard : Claim7 := { stood := { row := nanStaysRow, standIns := [], harness := (true, "852088fa22407e5dad9470486ce4db058d521da7e0ef9f9e5f3569f8c248191a"), looks := false }, kinds := [], alts := [], laidByText := true, laidKinds := [.data], laidTests := true, laidLooks := .later }
def NanStaysCardSaid : Prop := Claim7.holds Tryd.pinned (.plain (OpenSpec.ofChange nanStaysSpec)) nanStaysCard

/-- THE TIED CARD OF 'hairsbreadthlaw10.NanFirst'. -/
def nanFirstCard : Claim7 := { stood := { row := nanFirstRow, standIns := [], harness := (true, "852088fa22407e5dad9470486ce4db058d521da7e0ef9f9e5f3569f8c248191a"), looks := false }, kinds := [], alts := [], laidByText := true, laidKinds := [.data], laidTests := true, laidLooks := .later }
def NanFirstCardSaid : Prop := Claim7.holds Tryd.pinned (.plain (OpenSpec.ofChange nanFirstSpec)) nanFirstCard

/-- THE TIED CARD OF 'hairsbreadthlaw10.NanKnown'. -/
def nanKnownCard : Claim7 := { stood := { row := nanKnownRow, standIns := [], harness := (true, "852088fa22407e5dad9470486ce4db058d521da7e0ef9f9e5f3569f8c248191a"), looks := false }, kinds := [], alts := [], laidByText := true, laidKinds := [.data], laidTests := true, laidLooks := .later }
def NanKnownCardSaid : Prop := Claim7.holds Tryd.pinned (.plain (OpenSpec.ofChange nanKnownSpec)) nanKnownCard

/-- THE SECOND FORM's CARD OF 'hairsbreadthlaw10.NanQuiets'. -/
def nanQuietsUptoCard : Claim7 := { stood := { row := nanQuietsUptoRow, standIns := [], harness := (true, "852088fa22407e5dad9470486ce4db058d521da7e0ef9f9e5f3569f8c248191a"), looks := false }, kinds := [], alts := [], laidByText := true, laidKinds := [.data], laidTests := true, laidLooks := .later }
def NanQuietsUptoCardSaid : Prop := Claim7.holds Tryd.pinned (.plain (OpenSpec.upto nanQuietsSpec)) nanQuietsUptoCard

/-- THE SECOND FORM's CARD OF 'hairsbreadthlaw10.NanPicks'. -/
def nanPicksUptoCard : Claim7 := { stood := { row := nanPicksUptoRow, standIns := [], harness := (true, "852088fa22407e5dad9470486ce4db058d521da7e0ef9f9e5f3569f8c248191a"), looks := false }, kinds := [], alts := [], laidByText := true, laidKinds := [.data], laidTests := true, laidLooks := .later }
def NanPicksUptoCardSaid : Prop := Claim7.holds Tryd.pinned (.plain (OpenSpec.upto nanPicksSpec)) nanPicksUptoCard

/-- THE SECOND FORM's CARD OF 'hairsbreadthlaw10.NanAnswers'. -/
def nanAnswersUptoCard : Claim7 := { stood := { row := nanAnswersUptoRow, standIns := [], harness := (true, "852088fa22407e5dad9470486ce4db058d521da7e0ef9f9e5f3569f8c248191a"), looks := false }, kinds := [], alts := [], laidByText := true, laidKinds := [.data], laidTests := true, laidLooks := .later }
def NanAnswersUptoCardSaid : Prop := Claim7.holds Tryd.pinned (.plain (OpenSpec.upto nanAnswersSpec)) nanAnswersUptoCard

/-- THE SECOND FORM's CARD OF 'hairsbreadthlaw10.NanStays'. -/
def nanStaysUptoCard : Claim7 := { stood := { row := nanStaysUptoRow, standIns := [], harness := (true, "852088fa22407e5dad9470486ce4db058d521da7e0ef9f9e5f3569f8c248191a"), looks := false }, kinds := [], alts := [], laidByText := true, laidKinds := [.data], laidTests := true, laidLooks := .later }
def NanStaysUptoCardSaid : Prop := Claim7.holds Tryd.pinned (.plain (OpenSpec.upto nanStaysSpec)) nanStaysUptoCard

/-- THE SECOND FORM's CARD OF 'hairsbreadthlaw10.NanFirst'. -/
def nanFirstUptoCard : Claim7 := { stood := { row := nanFirstUptoRow, standIns := [], harness := (true, "852088fa22407e5dad9470486ce4db058d521da7e0ef9f9e5f3569f8c248191a"), looks := false }, kinds := [], alts := [], laidByText := true, laidKinds := [.data], laidTests := true, laidLooks := .later }
def NanFirstUptoCardSaid : Prop := Claim7.holds Tryd.pinned (.plain (OpenSpec.upto nanFirstSpec)) nanFirstUptoCard

/-- THE SECOND FORM's CARD OF 'hairsbreadthlaw10.NanKnown'. -/
def nanKnownUptoCard : Claim7 := { stood := { row := nanKnownUptoRow, standIns := [], harness := (true, "852088fa22407e5dad9470486ce4db058d521da7e0ef9f9e5f3569f8c248191a"), looks := false }, kinds := [], alts := [], laidByText := true, laidKinds := [.data], laidTests := true, laidLooks := .later }
def NanKnownUptoCardSaid : Prop := Claim7.holds Tryd.pinned (.plain (OpenSpec.upto nanKnownSpec)) nanKnownUptoCard
end Rows
end Go.Proofs.YtfcffmihhpcjjaaDoor
