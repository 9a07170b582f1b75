/-
  DERIVED. GIVEN WITH THE SEED: THE CARDS: each row of YtfmccbokipljfaaDoorRows.lean that lists a variable, with what it lists TIED to the program's text (the seventh form; the later family's looks); each row that meets fmt, with fmt's text TOLD by the authors' own Lean function (tested against real Go, not proved from fmt's source: count such statements apart). THE CARD IS WHAT COUNTS. Prove the row's statement (the work); the ties are given (YtfmccbokipljfaaDoorTie.lean); close each card by the builder's one call (the guide's Derived/Test/ToyasCard.lean, 'card_holds'). Laid BY PROGRAM, IN A SANDBOX (cutbox-door.mjs). By AI agents, Wed Nov 11 2026. No macro, syntax, notation, axiom, sorry.
-/
import Derived.Test.YtfmccbokipljfaaDoorRows
import GoSem.ClaimSeven
namespace Go.Proofs.YtfmccbokipljfaaDoor
namespace Rows

/-- THE TIED CARD OF 'hairsbreadthlaw14.OverEnds'. -/
def overEndsCard : Claim7 := { stood := { row := overEndsRow, standIns := [], harness := (true, "657e394b50e2f10ec4920db35e70dca0732609ecd5e727844b0ec6fe1eaa74c8"), looks := false }, kinds := [], alts := [], laidByText := true, laidKinds := [.data], laidTests := true, laidLooks := .later }
def OverEndsCardSaid : Prop := Claim7.holds Tryd.pinned (.plain (OpenSpec.ofChange overEndsSpec)) overEndsCard

/-- THE TIED CARD OF 'hairsbreadthlaw14.OverMirror'. -/
def overMirrorCard : Claim7 := { stood := { row := overMirrorRow, standIns := [], harness := (true, "657e394b50e2f10ec4920db35e70dca0732609ecd5e727844b0ec6fe1eaa74c8"), looks := false }, kinds := [], alts := [], laidByText := true, laidKinds := [.data], laidTests := true, laidLooks := .later }
def OverMirrorCardSaid : Prop := Claim7.holds Tryd.pinned (.plain (OpenSpec.ofChange overMirrorSpec)) overMirrorCard

/-- THE TIED CARD OF 'hairsbreadthlaw14.OverNeighbours'. -/
def overNeighboursCard : Claim7 := { stood := { row := overNeighboursRow, standIns := [], harness := (true, "657e394b50e2f10ec4920db35e70dca0732609ecd5e727844b0ec6fe1eaa74c8"), looks := false }, kinds := [], alts := [], laidByText := true, laidKinds := [.data], laidTests := true, laidLooks := .later }
def OverNeighboursCardSaid : Prop := Claim7.holds Tryd.pinned (.plain (OpenSpec.ofChange overNeighboursSpec)) overNeighboursCard

/-- THE TIED CARD OF 'hairsbreadthlaw14.OverReach'. -/
def overReachCard : Claim7 := { stood := { row := overReachRow, standIns := [], harness := (true, "657e394b50e2f10ec4920db35e70dca0732609ecd5e727844b0ec6fe1eaa74c8"), looks := false }, kinds := [], alts := [], laidByText := true, laidKinds := [.data], laidTests := true, laidLooks := .later }
def OverReachCardSaid : Prop := Claim7.holds Tryd.pinned (.plain (OpenSpec.ofChange overReachSpec)) overReachCard

/-- THE TIED CARD OF 'hairsbreadthlaw14.OverKnown'. -/
def overKnownCard : Claim7 := { stood := { row := overKnownRow, standIns := [], harness := (true, "657e394b50e2f10ec4920db35e70dca0732609ecd5e727844b0ec6fe1eaa74c8"), looks := false }, kinds := [], alts := [], laidByText := true, laidKinds := [.data], laidTests := true, laidLooks := .later }
def OverKnownCardSaid : Prop := Claim7.holds Tryd.pinned (.plain (OpenSpec.ofChange overKnownSpec)) overKnownCard

/-- THE SECOND FORM's CARD OF 'hairsbreadthlaw14.OverEnds'. -/
def overEndsUptoCard : Claim7 := { stood := { row := overEndsUptoRow, standIns := [], harness := (true, "657e394b50e2f10ec4920db35e70dca0732609ecd5e727844b0ec6fe1eaa74c8"), looks := false }, kinds := [], alts := [], laidByText := true, laidKinds := [.data], laidTests := true, laidLooks := .later }
def OverEndsUptoCardSaid : Prop := Claim7.holds Tryd.pinned (.plain (OpenSpec.upto overEndsSpec)) overEndsUptoCard

/-- THE SECOND FORM's CARD OF 'hairsbreadthlaw14.OverMirror'. -/
def overMirrorUptoCard : Claim7 := { stood := { row := overMirrorUptoRow, standIns := [], harness := (true, "657e394b50e2f10ec4920db35e70dca0732609ecd5e727844b0ec6fe1eaa74c8"), looks := false }, kinds := [], alts := [], laidByText := true, laidKinds := [.data], laidTests := true, laidLooks := .later }
def OverMirrorUptoCardSaid : Prop := Claim7.holds Tryd.pinned (.plain (OpenSpec.upto overMirrorSpec)) overMirrorUptoCard

/-- THE SECOND FORM's CARD OF 'hairsbreadthlaw14.OverNeighbours'. -/
def overNeighboursUptoCard : Claim7 := { stood := { row := overNeighboursUptoRow, standIns := [], harness := (true, "657e394b50e2f10ec4920db35e70dca0732609ecd5e727844b0ec6fe1eaa74c8"), looks := false }, kinds := [], alts := [], laidByText := true, laidKinds := [.data], laidTests := true, laidLooks := .later }
def OverNeighboursUptoCardSaid : Prop := Claim7.holds Tryd.pinned (.plain (OpenSpec.upto overNeighboursSpec)) overNeighboursUptoCard

/-- THE SECOND FORM's CARD OF 'hairsbreadthlaw14.OverReach'. -/
def overReachUptoCard : Claim7 := { stood := { row := overReachUptoRow, standIns := [], harness := (true, "657e394b50e2f10ec4920db35e70dca0732609ecd5e727844b0ec6fe1eaa74c8"), looks := false }, kinds := [], alts := [], laidByText := true, laidKinds := [.data], laidTests := true, laidLooks := .later }
def OverReachUptoCardSaid : Prop := Claim7.holds Tryd.pinned (.plain (OpenSpec.upto overReachSpec)) overReachUptoCard

/-- THE SECOND FORM's CARD OF 'hairsbreadthlaw14.OverKnown'. -/
def overKnownUptoCard : Claim7 := { stood := { row := overKnownUptoRow, standIns := [], harness := (true, "657e394b50e2f10ec4920db35e70dca0732609ecd5e727844b0ec6fe1eaa74c8"), looks := false }, kinds := [], alts := [], laidByText := true, laidKinds := [.data], laidTests := true, laidLooks := .later }
def OverKnownUptoCardSaid : Prop := Claim7.holds Tryd.pinned (.plain (OpenSpec.upto overKnownSpec)) overKnownUptoCard
end Rows
end Go.Proofs.YtfmccbokipljfaaDoor
