/-
  DERIVED. GIVEN WITH THE SEED: THE CARDS: each row of YtdlmnnnnnjgkiaaDoorRows.lean that lists a variable, with what it lists TIED to the program's text (the seventh form; the later family's looks); each row that meets fmt, with fmt's text TOLD by the authors' own Lean function (tested against real Go, not proved from fmt's source: count such statements apart). THE CARD IS WHAT COUNTS. Prove the row's statement (the work); the ties are given (YtdlmnnnnnjgkiaaDoorTie.lean); close each card by the builder's one call (the guide's Derived/Test/ToyasCard.lean, 'card_holds'). Laid BY PROGRAM, IN A SANDBOX (cutbox-door.mjs). By AI agents, Wed Nov 11 2026. No macro, syntax, notation, axiom, sorry.
-/
import Derived.Test.YtdlmnnnnnjgkiaaDoorRows
import GoSem.ClaimSeven
namespace Go.Proofs.YtdlmnnnnnjgkiaaDoor
namespace Rows

/-- THE TIED CARD OF 'hairsbreadthlaw08.ClassOf'. -/
def classOfCard : Claim7 := { stood := { row := classOfRow, standIns := [], harness := (true, "2f974bf50f757adb186fc118994bcc98f2265d6faf17d6a67df951ff852c558b"), looks := false }, kinds := [], alts := [], laidByText := true, laidKinds := [.data], laidTests := true, laidLooks := .later }
def ClassOfCardSaid : Prop := Claim7.holds Tryd.pinned (.plain (OpenSpec.ofChange classOfSpec)) classOfCard

/-- THE TIED CARD OF 'hairsbreadthlaw08.ClassAny'. -/
def classAnyCard : Claim7 := { stood := { row := classAnyRow, standIns := [], harness := (true, "2f974bf50f757adb186fc118994bcc98f2265d6faf17d6a67df951ff852c558b"), looks := false }, kinds := [], alts := [], laidByText := true, laidKinds := [.data], laidTests := true, laidLooks := .later }
def ClassAnyCardSaid : Prop := Claim7.holds Tryd.pinned (.plain (OpenSpec.ofChange classAnySpec)) classAnyCard

/-- THE TIED CARD OF 'hairsbreadthlaw08.ClassOne'. -/
def classOneCard : Claim7 := { stood := { row := classOneRow, standIns := [], harness := (true, "2f974bf50f757adb186fc118994bcc98f2265d6faf17d6a67df951ff852c558b"), looks := false }, kinds := [], alts := [], laidByText := true, laidKinds := [.data], laidTests := true, laidLooks := .later }
def ClassOneCardSaid : Prop := Claim7.holds Tryd.pinned (.plain (OpenSpec.ofChange classOneSpec)) classOneCard

/-- THE TIED CARD OF 'hairsbreadthlaw08.ClassEdges'. -/
def classEdgesCard : Claim7 := { stood := { row := classEdgesRow, standIns := [], harness := (true, "2f974bf50f757adb186fc118994bcc98f2265d6faf17d6a67df951ff852c558b"), looks := false }, kinds := [], alts := [], laidByText := true, laidKinds := [.data], laidTests := true, laidLooks := .later }
def ClassEdgesCardSaid : Prop := Claim7.holds Tryd.pinned (.plain (OpenSpec.ofChange classEdgesSpec)) classEdgesCard

/-- THE TIED CARD OF 'hairsbreadthlaw08.ClassMany'. -/
def classManyCard : Claim7 := { stood := { row := classManyRow, standIns := [], harness := (true, "2f974bf50f757adb186fc118994bcc98f2265d6faf17d6a67df951ff852c558b"), looks := false }, kinds := [], alts := [], laidByText := true, laidKinds := [.data], laidTests := true, laidLooks := .later }
def ClassManyCardSaid : Prop := Claim7.holds Tryd.pinned (.plain (OpenSpec.ofChange classManySpec)) classManyCard

/-- THE TIED CARD OF 'hairsbreadthlaw08.ClassKnown'. -/
def classKnownCard : Claim7 := { stood := { row := classKnownRow, standIns := [], harness := (true, "2f974bf50f757adb186fc118994bcc98f2265d6faf17d6a67df951ff852c558b"), looks := false }, kinds := [], alts := [], laidByText := true, laidKinds := [.data], laidTests := true, laidLooks := .later }
def ClassKnownCardSaid : Prop := Claim7.holds Tryd.pinned (.plain (OpenSpec.ofChange classKnownSpec)) classKnownCard

/-- THE SECOND FORM's CARD OF 'hairsbreadthlaw08.ClassOf'. -/
def classOfUptoCard : Claim7 := { stood := { row := classOfUptoRow, standIns := [], harness := (true, "2f974bf50f757adb186fc118994bcc98f2265d6faf17d6a67df951ff852c558b"), looks := false }, kinds := [], alts := [], laidByText := true, laidKinds := [.data], laidTests := true, laidLooks := .later }
def ClassOfUptoCardSaid : Prop := Claim7.holds Tryd.pinned (.plain (OpenSpec.upto classOfSpec)) classOfUptoCard

/-- THE SECOND FORM's CARD OF 'hairsbreadthlaw08.ClassAny'. -/
def classAnyUptoCard : Claim7 := { stood := { row := classAnyUptoRow, standIns := [], harness := (true, "2f974bf50f757adb186fc118994bcc98f2265d6faf17d6a67df951ff852c558b"), looks := false }, kinds := [], alts := [], laidByText := true, laidKinds := [.data], laidTests := true, laidLooks := .later }
def ClassAnyUptoCardSaid : Prop := Claim7.holds Tryd.pinned (.plain (OpenSpec.upto classAnySpec)) classAnyUptoCard

/-- THE SECOND FORM's CARD OF 'hairsbreadthlaw08.ClassOne'. -/
def classOneUptoCard : Claim7 := { stood := { row := classOneUptoRow, standIns := [], harness := (true, "2f974bf50f757adb186fc118994bcc98f2265d6faf17d6a67df951ff852c558b"), looks := false }, kinds := [], alts := [], laidByText := true, laidKinds := [.data], laidTests := true, laidLooks := .later }
def ClassOneUptoCardSaid : Prop := Claim7.holds Tryd.pinned (.plain (OpenSpec.upto classOneSpec)) classOneUptoCard

/-- THE SECOND FORM's CARD OF 'hairsbreadthlaw08.ClassEdges'. -/
def classEdgesUptoCard : Claim7 := { stood := { row := classEdgesUptoRow, standIns := [], harness := (true, "2f974bf50f757adb186fc118994bcc98f2265d6faf17d6a67df951ff852c558b"), looks := false }, kinds := [], alts := [], laidByText := true, laidKinds := [.data], laidTests := true, laidLooks := .later }
def ClassEdgesUptoCardSaid : Prop := Claim7.holds Tryd.pinned (.plain (OpenSpec.upto classEdgesSpec)) classEdgesUptoCard

/-- THE SECOND FORM's CARD OF 'hairsbreadthlaw08.ClassMany'. -/
def classManyUptoCard : Claim7 := { stood := { row := classManyUptoRow, standIns := [], harness := (true, "2f974bf50f757adb186fc118994bcc98f2265d6faf17d6a67df951ff852c558b"), looks := false }, kinds := [], alts := [], laidByText := true, laidKinds := [.data], laidTests := true, laidLooks := .later }
def ClassManyUptoCardSaid : Prop := Claim7.holds Tryd.pinned (.plain (OpenSpec.upto classManySpec)) classManyUptoCard

/-- THE SECOND FORM's CARD OF 'hairsbreadthlaw08.ClassKnown'. -/
def classKnownUptoCard : Claim7 := { stood := { row := classKnownUptoRow, standIns := [], harness := (true, "2f974bf50f757adb186fc118994bcc98f2265d6faf17d6a67df951ff852c558b"), looks := false }, kinds := [], alts := [], laidByText := true, laidKinds := [.data], laidTests := true, laidLooks := .later }
def ClassKnownUptoCardSaid : Prop := Claim7.holds Tryd.pinned (.plain (OpenSpec.upto classKnownSpec)) classKnownUptoCard
end Rows
end Go.Proofs.YtdlmnnnnnjgkiaaDoor
