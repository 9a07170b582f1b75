/-
  DERIVED. GIVEN WITH THE SEED: THE CARDS: each row of YtnaamckhignjeaaGreatDoorRows.lean that lists a variable, with what it lists TIED to the program's text (the seventh form; the later family's looks); each row that meets fmt, with fmt's text TOLD by the authors' own Lean function (tested against real Go, not proved from fmt's source: count such statements apart). THE CARD IS WHAT COUNTS. Prove the row's statement (the work); the ties are given (YtnaamckhignjeaaGreatDoorTie.lean); close each card by the builder's one call (the guide's Derived/Test/ToyasCard.lean, 'card_holds'). Laid BY PROGRAM, IN A SANDBOX (cutbox-door.mjs). By AI agents, Wed Nov 11 2026. No macro, syntax, notation, axiom, sorry.
-/
import Derived.Test.YtnaamckhignjeaaGreatDoorRows
import GoSem.ClaimSeven
namespace Go.Proofs.YtnaamckhignjeaaGreatDoor
namespace Rows

/-- THE TIED CARD OF 'hairsbreadthlaw18.AddsubAdds'. -/
def addsubAddsCard : Claim7 := { stood := { row := addsubAddsRow, standIns := [], harness := (true, "705686305302e9f6eb840861b313fb320b416d35cfe4feb7e1407970492b6aa5"), looks := false }, kinds := [], alts := [], laidByText := true, laidKinds := [.data], laidTests := true, laidLooks := .later }
def AddsubAddsCardSaid : Prop := Claim7.holds Tryz.pinned (.plain (OpenSpec.ofChange addsubAddsSpec)) addsubAddsCard

/-- THE TIED CARD OF 'hairsbreadthlaw18.AddsubSubs'. -/
def addsubSubsCard : Claim7 := { stood := { row := addsubSubsRow, standIns := [], harness := (true, "705686305302e9f6eb840861b313fb320b416d35cfe4feb7e1407970492b6aa5"), looks := false }, kinds := [], alts := [], laidByText := true, laidKinds := [.data], laidTests := true, laidLooks := .later }
def AddsubSubsCardSaid : Prop := Claim7.holds Tryz.pinned (.plain (OpenSpec.ofChange addsubSubsSpec)) addsubSubsCard

/-- THE TIED CARD OF 'hairsbreadthlaw18.AddsubExact'. -/
def addsubExactCard : Claim7 := { stood := { row := addsubExactRow, standIns := [], harness := (true, "705686305302e9f6eb840861b313fb320b416d35cfe4feb7e1407970492b6aa5"), looks := false }, kinds := [], alts := [], laidByText := true, laidKinds := [.data], laidTests := true, laidLooks := .later }
def AddsubExactCardSaid : Prop := Claim7.holds Tryz.pinned (.plain (OpenSpec.ofChange addsubExactSpec)) addsubExactCard

/-- THE TIED CARD OF 'hairsbreadthlaw18.AddsubTurn'. -/
def addsubTurnCard : Claim7 := { stood := { row := addsubTurnRow, standIns := [], harness := (true, "705686305302e9f6eb840861b313fb320b416d35cfe4feb7e1407970492b6aa5"), looks := false }, kinds := [], alts := [], laidByText := true, laidKinds := [.data], laidTests := true, laidLooks := .later }
def AddsubTurnCardSaid : Prop := Claim7.holds Tryz.pinned (.plain (OpenSpec.ofChange addsubTurnSpec)) addsubTurnCard

/-- THE TIED CARD OF 'hairsbreadthlaw18.AddsubNought'. -/
def addsubNoughtCard : Claim7 := { stood := { row := addsubNoughtRow, standIns := [], harness := (true, "705686305302e9f6eb840861b313fb320b416d35cfe4feb7e1407970492b6aa5"), looks := false }, kinds := [], alts := [], laidByText := true, laidKinds := [.data], laidTests := true, laidLooks := .later }
def AddsubNoughtCardSaid : Prop := Claim7.holds Tryz.pinned (.plain (OpenSpec.ofChange addsubNoughtSpec)) addsubNoughtCard

/-- THE TIED CARD OF 'hairsbreadthlaw18.AddsubNear'. -/
def addsubNearCard : Claim7 := { stood := { row := addsubNearRow, standIns := [], harness := (true, "705686305302e9f6eb840861b313fb320b416d35cfe4feb7e1407970492b6aa5"), looks := false }, kinds := [], alts := [], laidByText := true, laidKinds := [.data], laidTests := true, laidLooks := .later }
def AddsubNearCardSaid : Prop := Claim7.holds Tryz.pinned (.plain (OpenSpec.ofChange addsubNearSpec)) addsubNearCard

/-- THE TIED CARD OF 'hairsbreadthlaw18.AddsubOrder'. -/
def addsubOrderCard : Claim7 := { stood := { row := addsubOrderRow, standIns := [], harness := (true, "705686305302e9f6eb840861b313fb320b416d35cfe4feb7e1407970492b6aa5"), looks := false }, kinds := [], alts := [], laidByText := true, laidKinds := [.data], laidTests := true, laidLooks := .later }
def AddsubOrderCardSaid : Prop := Claim7.holds Tryz.pinned (.plain (OpenSpec.ofChange addsubOrderSpec)) addsubOrderCard

/-- THE TIED CARD OF 'hairsbreadthlaw18.AddsubKnown'. -/
def addsubKnownCard : Claim7 := { stood := { row := addsubKnownRow, standIns := [], harness := (true, "705686305302e9f6eb840861b313fb320b416d35cfe4feb7e1407970492b6aa5"), looks := false }, kinds := [], alts := [], laidByText := true, laidKinds := [.data], laidTests := true, laidLooks := .later }
def AddsubKnownCardSaid : Prop := Claim7.holds Tryz.pinned (.plain (OpenSpec.ofChange addsubKnownSpec)) addsubKnownCard

/-- THE SECOND FORM's CARD OF 'hairsbreadthlaw18.AddsubAdds'. -/
def addsubAddsUptoCard : Claim7 := { stood := { row := addsubAddsUptoRow, standIns := [], harness := (true, "705686305302e9f6eb840861b313fb320b416d35cfe4feb7e1407970492b6aa5"), looks := false }, kinds := [], alts := [], laidByText := true, laidKinds := [.data], laidTests := true, laidLooks := .later }
def AddsubAddsUptoCardSaid : Prop := Claim7.holds Tryz.pinned (.plain (OpenSpec.upto addsubAddsSpec)) addsubAddsUptoCard

/-- THE SECOND FORM's CARD OF 'hairsbreadthlaw18.AddsubSubs'. -/
def addsubSubsUptoCard : Claim7 := { stood := { row := addsubSubsUptoRow, standIns := [], harness := (true, "705686305302e9f6eb840861b313fb320b416d35cfe4feb7e1407970492b6aa5"), looks := false }, kinds := [], alts := [], laidByText := true, laidKinds := [.data], laidTests := true, laidLooks := .later }
def AddsubSubsUptoCardSaid : Prop := Claim7.holds Tryz.pinned (.plain (OpenSpec.upto addsubSubsSpec)) addsubSubsUptoCard

/-- THE SECOND FORM's CARD OF 'hairsbreadthlaw18.AddsubExact'. -/
def addsubExactUptoCard : Claim7 := { stood := { row := addsubExactUptoRow, standIns := [], harness := (true, "705686305302e9f6eb840861b313fb320b416d35cfe4feb7e1407970492b6aa5"), looks := false }, kinds := [], alts := [], laidByText := true, laidKinds := [.data], laidTests := true, laidLooks := .later }
def AddsubExactUptoCardSaid : Prop := Claim7.holds Tryz.pinned (.plain (OpenSpec.upto addsubExactSpec)) addsubExactUptoCard

/-- THE SECOND FORM's CARD OF 'hairsbreadthlaw18.AddsubTurn'. -/
def addsubTurnUptoCard : Claim7 := { stood := { row := addsubTurnUptoRow, standIns := [], harness := (true, "705686305302e9f6eb840861b313fb320b416d35cfe4feb7e1407970492b6aa5"), looks := false }, kinds := [], alts := [], laidByText := true, laidKinds := [.data], laidTests := true, laidLooks := .later }
def AddsubTurnUptoCardSaid : Prop := Claim7.holds Tryz.pinned (.plain (OpenSpec.upto addsubTurnSpec)) addsubTurnUptoCard

/-- THE SECOND FORM's CARD OF 'hairsbreadthlaw18.AddsubNought'. -/
def addsubNoughtUptoCard : Claim7 := { stood := { row := addsubNoughtUptoRow, standIns := [], harness := (true, "705686305302e9f6eb840861b313fb320b416d35cfe4feb7e1407970492b6aa5"), looks := false }, kinds := [], alts := [], laidByText := true, laidKinds := [.data], laidTests := true, laidLooks := .later }
def AddsubNoughtUptoCardSaid : Prop := Claim7.holds Tryz.pinned (.plain (OpenSpec.upto addsubNoughtSpec)) addsubNoughtUptoCard

/-- THE SECOND FORM's CARD OF 'hairsbreadthlaw18.AddsubNear'. -/
def addsubNearUptoCard : Claim7 := { stood := { row := addsubNearUptoRow, standIns := [], harness := (true, "705686305302e9f6eb840861b313fb320b416d35cfe4feb7e1407970492b6aa5"), looks := false }, kinds := [], alts := [], laidByText := true, laidKinds := [.data], laidTests := true, laidLooks := .later }
def AddsubNearUptoCardSaid : Prop := Claim7.holds Tryz.pinned (.plain (OpenSpec.upto addsubNearSpec)) addsubNearUptoCard

/-- THE SECOND FORM's CARD OF 'hairsbreadthlaw18.AddsubOrder'. -/
def addsubOrderUptoCard : Claim7 := { stood := { row := addsubOrderUptoRow, standIns := [], harness := (true, "705686305302e9f6eb840861b313fb320b416d35cfe4feb7e1407970492b6aa5"), looks := false }, kinds := [], alts := [], laidByText := true, laidKinds := [.data], laidTests := true, laidLooks := .later }
def AddsubOrderUptoCardSaid : Prop := Claim7.holds Tryz.pinned (.plain (OpenSpec.upto addsubOrderSpec)) addsubOrderUptoCard

/-- THE SECOND FORM's CARD OF 'hairsbreadthlaw18.AddsubKnown'. -/
def addsubKnownUptoCard : Claim7 := { stood := { row := addsubKnownUptoRow, standIns := [], harness := (true, "705686305302e9f6eb840861b313fb320b416d35cfe4feb7e1407970492b6aa5"), looks := false }, kinds := [], alts := [], laidByText := true, laidKinds := [.data], laidTests := true, laidLooks := .later }
def AddsubKnownUptoCardSaid : Prop := Claim7.holds Tryz.pinned (.plain (OpenSpec.upto addsubKnownSpec)) addsubKnownUptoCard
end Rows
end Go.Proofs.YtnaamckhignjeaaGreatDoor
