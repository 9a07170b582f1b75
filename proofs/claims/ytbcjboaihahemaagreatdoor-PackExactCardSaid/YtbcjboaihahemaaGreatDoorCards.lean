/-
  DERIVED. GIVEN WITH THE SEED: THE CARDS: each row of YtbcjboaihahemaaGreatDoorRows.lean that lists a variable, with what it lists TIED to the program's text (the seventh form; the later family's looks); each row that meets fmt, with fmt's text TOLD by the authors' own Lean function (tested against real Go, not proved from fmt's source: count such statements apart). THE CARD IS WHAT COUNTS. Prove the row's statement (the work); the ties are given (YtbcjboaihahemaaGreatDoorTie.lean); close each card by the builder's one call (the guide's Derived/Test/ToyasCard.lean, 'card_holds'). Laid BY PROGRAM, IN A SANDBOX (cutbox-door.mjs). By AI agents, Wed Nov 11 2026. No macro, syntax, notation, axiom, sorry.
-/
import Derived.Test.YtbcjboaihahemaaGreatDoorRows
import GoSem.ClaimSeven
namespace Go.Proofs.YtbcjboaihahemaaGreatDoor
namespace Rows

/-- THE TIED CARD OF 'hairsbreadthlaw16.PackRounds'. -/
def packRoundsCard : Claim7 := { stood := { row := packRoundsRow, standIns := [], harness := (true, "49313033c581c60cd8fb30603d949d18b97622a24651cf2e2426f8185fe4de31"), looks := false }, kinds := [], alts := [], laidByText := true, laidKinds := [.data], laidTests := true, laidLooks := .later }
def PackRoundsCardSaid : Prop := Claim7.holds Tryz.pinned (.plain (OpenSpec.ofChange packRoundsSpec)) packRoundsCard

/-- THE TIED CARD OF 'hairsbreadthlaw16.PackExact'. -/
def packExactCard : Claim7 := { stood := { row := packExactRow, standIns := [], harness := (true, "49313033c581c60cd8fb30603d949d18b97622a24651cf2e2426f8185fe4de31"), looks := false }, kinds := [], alts := [], laidByText := true, laidKinds := [.data], laidTests := true, laidLooks := .later }
def PackExactCardSaid : Prop := Claim7.holds Tryz.pinned (.plain (OpenSpec.ofChange packExactSpec)) packExactCard

/-- THE TIED CARD OF 'hairsbreadthlaw16.PackSame'. -/
def packSameCard : Claim7 := { stood := { row := packSameRow, standIns := [], harness := (true, "49313033c581c60cd8fb30603d949d18b97622a24651cf2e2426f8185fe4de31"), looks := false }, kinds := [], alts := [], laidByText := true, laidKinds := [.data], laidTests := true, laidLooks := .later }
def PackSameCardSaid : Prop := Claim7.holds Tryz.pinned (.plain (OpenSpec.ofChange packSameSpec)) packSameCard

/-- THE SECOND FORM's CARD OF 'hairsbreadthlaw16.PackRounds'. -/
def packRoundsUptoCard : Claim7 := { stood := { row := packRoundsUptoRow, standIns := [], harness := (true, "49313033c581c60cd8fb30603d949d18b97622a24651cf2e2426f8185fe4de31"), looks := false }, kinds := [], alts := [], laidByText := true, laidKinds := [.data], laidTests := true, laidLooks := .later }
def PackRoundsUptoCardSaid : Prop := Claim7.holds Tryz.pinned (.plain (OpenSpec.upto packRoundsSpec)) packRoundsUptoCard

/-- THE SECOND FORM's CARD OF 'hairsbreadthlaw16.PackExact'. -/
def packExactUptoCard : Claim7 := { stood := { row := packExactUptoRow, standIns := [], harness := (true, "49313033c581c60cd8fb30603d949d18b97622a24651cf2e2426f8185fe4de31"), looks := false }, kinds := [], alts := [], laidByText := true, laidKinds := [.data], laidTests := true, laidLooks := .later }
def PackExactUptoCardSaid : Prop := Claim7.holds Tryz.pinned (.plain (OpenSpec.upto packExactSpec)) packExactUptoCard

/-- THE SECOND FORM's CARD OF 'hairsbreadthlaw16.PackSame'. -/
def packSameUptoCard : Claim7 := { stood := { row := packSameUptoRow, standIns := [], harness := (true, "49313033c581c60cd8fb30603d949d18b97622a24651cf2e2426f8185fe4de31"), looks := false }, kinds := [], alts := [], laidByText := true, laidKinds := [.data], laidTests := true, laidLooks := .later }
def PackSameUptoCardSaid : Prop := Claim7.holds Tryz.pinned (.plain (OpenSpec.upto packSameSpec)) packSameUptoCard
end Rows
end Go.Proofs.YtbcjboaihahemaaGreatDoor
