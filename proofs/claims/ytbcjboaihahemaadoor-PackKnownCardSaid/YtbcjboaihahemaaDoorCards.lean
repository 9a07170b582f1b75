/-
  DERIVED. GIVEN WITH THE SEED: THE CARDS: each row of YtbcjboaihahemaaDoorRows.lean that lists a variable, with what it lists TIED to the program's text (the seventh form; the later family's looks); each row that meets fmt, with fmt's text TOLD by the authors' own Lean function (tested against real Go, not proved from fmt's source: count such statements apart). THE CARD IS WHAT COUNTS. Prove the row's statement (the work); the ties are given (YtbcjboaihahemaaDoorTie.lean); close each card by the builder's one call (the guide's Derived/Test/ToyasCard.lean, 'card_holds'). Laid BY PROGRAM, IN A SANDBOX (cutbox-door.mjs). By AI agents, Wed Nov 11 2026. No macro, syntax, notation, axiom, sorry.
-/
import Derived.Test.YtbcjboaihahemaaDoorRows
import GoSem.ClaimSeven
namespace Go.Proofs.YtbcjboaihahemaaDoor
namespace Rows

/-- THE TIED CARD OF 'hairsbreadthlaw16.PackNeighbours'. -/
def packNeighboursCard : Claim7 := { stood := { row := packNeighboursRow, standIns := [], harness := (true, "df6f9b6a744047017a0c3a87304d10ef1d812ed50f35c2758440a24b4bb46cbb"), looks := false }, kinds := [], alts := [], laidByText := true, laidKinds := [.data], laidTests := true, laidLooks := .later }
def PackNeighboursCardSaid : Prop := Claim7.holds Tryd.pinned (.plain (OpenSpec.ofChange packNeighboursSpec)) packNeighboursCard

/-- THE TIED CARD OF 'hairsbreadthlaw16.PackJam'. -/
def packJamCard : Claim7 := { stood := { row := packJamRow, standIns := [], harness := (true, "df6f9b6a744047017a0c3a87304d10ef1d812ed50f35c2758440a24b4bb46cbb"), looks := false }, kinds := [], alts := [], laidByText := true, laidKinds := [.data], laidTests := true, laidLooks := .later }
def PackJamCardSaid : Prop := Claim7.holds Tryd.pinned (.plain (OpenSpec.ofChange packJamSpec)) packJamCard

/-- THE TIED CARD OF 'hairsbreadthlaw16.PackMirror'. -/
def packMirrorCard : Claim7 := { stood := { row := packMirrorRow, standIns := [], harness := (true, "df6f9b6a744047017a0c3a87304d10ef1d812ed50f35c2758440a24b4bb46cbb"), looks := false }, kinds := [], alts := [], laidByText := true, laidKinds := [.data], laidTests := true, laidLooks := .later }
def PackMirrorCardSaid : Prop := Claim7.holds Tryd.pinned (.plain (OpenSpec.ofChange packMirrorSpec)) packMirrorCard

/-- THE TIED CARD OF 'hairsbreadthlaw16.PackOrder'. -/
def packOrderCard : Claim7 := { stood := { row := packOrderRow, standIns := [], harness := (true, "df6f9b6a744047017a0c3a87304d10ef1d812ed50f35c2758440a24b4bb46cbb"), looks := false }, kinds := [], alts := [], laidByText := true, laidKinds := [.data], laidTests := true, laidLooks := .later }
def PackOrderCardSaid : Prop := Claim7.holds Tryd.pinned (.plain (OpenSpec.ofChange packOrderSpec)) packOrderCard

/-- THE TIED CARD OF 'hairsbreadthlaw16.PackTiny'. -/
def packTinyCard : Claim7 := { stood := { row := packTinyRow, standIns := [], harness := (true, "df6f9b6a744047017a0c3a87304d10ef1d812ed50f35c2758440a24b4bb46cbb"), looks := false }, kinds := [], alts := [], laidByText := true, laidKinds := [.data], laidTests := true, laidLooks := .later }
def PackTinyCardSaid : Prop := Claim7.holds Tryd.pinned (.plain (OpenSpec.ofChange packTinySpec)) packTinyCard

/-- THE TIED CARD OF 'hairsbreadthlaw16.PackKnown'. -/
def packKnownCard : Claim7 := { stood := { row := packKnownRow, standIns := [], harness := (true, "df6f9b6a744047017a0c3a87304d10ef1d812ed50f35c2758440a24b4bb46cbb"), looks := false }, kinds := [], alts := [], laidByText := true, laidKinds := [.data], laidTests := true, laidLooks := .later }
def PackKnownCardSaid : Prop := Claim7.holds Tryd.pinned (.plain (OpenSpec.ofChange packKnownSpec)) packKnownCard

/-- THE SECOND FORM's CARD OF 'hairsbreadthlaw16.PackNeighbours'. -/
def packNeighboursUptoCard : Claim7 := { stood := { row := packNeighboursUptoRow, standIns := [], harness := (true, "df6f9b6a744047017a0c3a87304d10ef1d812ed50f35c2758440a24b4bb46cbb"), looks := false }, kinds := [], alts := [], laidByText := true, laidKinds := [.data], laidTests := true, laidLooks := .later }
def PackNeighboursUptoCardSaid : Prop := Claim7.holds Tryd.pinned (.plain (OpenSpec.upto packNeighboursSpec)) packNeighboursUptoCard

/-- THE SECOND FORM's CARD OF 'hairsbreadthlaw16.PackJam'. -/
def packJamUptoCard : Claim7 := { stood := { row := packJamUptoRow, standIns := [], harness := (true, "df6f9b6a744047017a0c3a87304d10ef1d812ed50f35c2758440a24b4bb46cbb"), looks := false }, kinds := [], alts := [], laidByText := true, laidKinds := [.data], laidTests := true, laidLooks := .later }
def PackJamUptoCardSaid : Prop := Claim7.holds Tryd.pinned (.plain (OpenSpec.upto packJamSpec)) packJamUptoCard

/-- THE SECOND FORM's CARD OF 'hairsbreadthlaw16.PackMirror'. -/
def packMirrorUptoCard : Claim7 := { stood := { row := packMirrorUptoRow, standIns := [], harness := (true, "df6f9b6a744047017a0c3a87304d10ef1d812ed50f35c2758440a24b4bb46cbb"), looks := false }, kinds := [], alts := [], laidByText := true, laidKinds := [.data], laidTests := true, laidLooks := .later }
def PackMirrorUptoCardSaid : Prop := Claim7.holds Tryd.pinned (.plain (OpenSpec.upto packMirrorSpec)) packMirrorUptoCard

/-- THE SECOND FORM's CARD OF 'hairsbreadthlaw16.PackOrder'. -/
def packOrderUptoCard : Claim7 := { stood := { row := packOrderUptoRow, standIns := [], harness := (true, "df6f9b6a744047017a0c3a87304d10ef1d812ed50f35c2758440a24b4bb46cbb"), looks := false }, kinds := [], alts := [], laidByText := true, laidKinds := [.data], laidTests := true, laidLooks := .later }
def PackOrderUptoCardSaid : Prop := Claim7.holds Tryd.pinned (.plain (OpenSpec.upto packOrderSpec)) packOrderUptoCard

/-- THE SECOND FORM's CARD OF 'hairsbreadthlaw16.PackTiny'. -/
def packTinyUptoCard : Claim7 := { stood := { row := packTinyUptoRow, standIns := [], harness := (true, "df6f9b6a744047017a0c3a87304d10ef1d812ed50f35c2758440a24b4bb46cbb"), looks := false }, kinds := [], alts := [], laidByText := true, laidKinds := [.data], laidTests := true, laidLooks := .later }
def PackTinyUptoCardSaid : Prop := Claim7.holds Tryd.pinned (.plain (OpenSpec.upto packTinySpec)) packTinyUptoCard

/-- THE SECOND FORM's CARD OF 'hairsbreadthlaw16.PackKnown'. -/
def packKnownUptoCard : Claim7 := { stood := { row := packKnownUptoRow, standIns := [], harness := (true, "df6f9b6a744047017a0c3a87304d10ef1d812ed50f35c2758440a24b4bb46cbb"), looks := false }, kinds := [], alts := [], laidByText := true, laidKinds := [.data], laidTests := true, laidLooks := .later }
def PackKnownUptoCardSaid : Prop := Claim7.holds Tryd.pinned (.plain (OpenSpec.upto packKnownSpec)) packKnownUptoCard
end Rows
end Go.Proofs.YtbcjboaihahemaaDoor
