/-
  DERIVED. GIVEN WITH THE SEED: THE CARDS: each row of YtdcdbcccchadfaaGreatDoorRows.lean that lists a variable, with what it lists TIED to the program's text (the seventh form; the later family's looks); each row that meets fmt, with fmt's text TOLD by the authors' own Lean function (tested against real Go, not proved from fmt's source: count such statements apart). THE CARD IS WHAT COUNTS. Prove the row's statement (the work); the ties are given (YtdcdbcccchadfaaGreatDoorTie.lean); close each card by the builder's one call (the guide's Derived/Test/ToyasCard.lean, 'card_holds'). Laid BY PROGRAM, IN A SANDBOX (cutbox-door.mjs). By AI agents, Wed Nov 11 2026. No macro, syntax, notation, axiom, sorry.
-/
import Derived.Test.YtdcdbcccchadfaaGreatDoorRows
import GoSem.ClaimSeven
namespace Go.Proofs.YtdcdbcccchadfaaGreatDoor
namespace Rows

/-- THE TIED CARD OF 'hairsbreadthlaw20.FmaAll'. -/
def fmaAllCard : Claim7 := { stood := { row := fmaAllRow, standIns := [], harness := (true, "95c68d798588dab6481d00130f5ecc4ca07f8fca1a3c126c8286d7f5389dd0cb"), looks := false }, kinds := [], alts := [], laidByText := true, laidKinds := [.data], laidTests := true, laidLooks := .later }
def FmaAllCardSaid : Prop := Claim7.holds Tryz.pinned (.plain (OpenSpec.ofChange fmaAllSpec)) fmaAllCard

/-- THE TIED CARD OF 'hairsbreadthlaw20.FmaRest'. -/
def fmaRestCard : Claim7 := { stood := { row := fmaRestRow, standIns := [], harness := (true, "95c68d798588dab6481d00130f5ecc4ca07f8fca1a3c126c8286d7f5389dd0cb"), looks := false }, kinds := [], alts := [], laidByText := true, laidKinds := [.data], laidTests := true, laidLooks := .later }
def FmaRestCardSaid : Prop := Claim7.holds Tryz.pinned (.plain (OpenSpec.ofChange fmaRestSpec)) fmaRestCard

/-- THE TIED CARD OF 'hairsbreadthlaw20.FmaSum'. -/
def fmaSumCard : Claim7 := { stood := { row := fmaSumRow, standIns := [], harness := (true, "95c68d798588dab6481d00130f5ecc4ca07f8fca1a3c126c8286d7f5389dd0cb"), looks := false }, kinds := [], alts := [], laidByText := true, laidKinds := [.data], laidTests := true, laidLooks := .later }
def FmaSumCardSaid : Prop := Claim7.holds Tryz.pinned (.plain (OpenSpec.ofChange fmaSumSpec)) fmaSumCard

/-- THE TIED CARD OF 'hairsbreadthlaw20.FmaProduct'. -/
def fmaProductCard : Claim7 := { stood := { row := fmaProductRow, standIns := [], harness := (true, "95c68d798588dab6481d00130f5ecc4ca07f8fca1a3c126c8286d7f5389dd0cb"), looks := false }, kinds := [], alts := [], laidByText := true, laidKinds := [.data], laidTests := true, laidLooks := .later }
def FmaProductCardSaid : Prop := Claim7.holds Tryz.pinned (.plain (OpenSpec.ofChange fmaProductSpec)) fmaProductCard

/-- THE TIED CARD OF 'hairsbreadthlaw20.FmaTurn'. -/
def fmaTurnCard : Claim7 := { stood := { row := fmaTurnRow, standIns := [], harness := (true, "95c68d798588dab6481d00130f5ecc4ca07f8fca1a3c126c8286d7f5389dd0cb"), looks := false }, kinds := [], alts := [], laidByText := true, laidKinds := [.data], laidTests := true, laidLooks := .later }
def FmaTurnCardSaid : Prop := Claim7.holds Tryz.pinned (.plain (OpenSpec.ofChange fmaTurnSpec)) fmaTurnCard

/-- THE TIED CARD OF 'hairsbreadthlaw20.FmaNan'. -/
def fmaNanCard : Claim7 := { stood := { row := fmaNanRow, standIns := [], harness := (true, "95c68d798588dab6481d00130f5ecc4ca07f8fca1a3c126c8286d7f5389dd0cb"), looks := false }, kinds := [], alts := [], laidByText := true, laidKinds := [.data], laidTests := true, laidLooks := .later }
def FmaNanCardSaid : Prop := Claim7.holds Tryz.pinned (.plain (OpenSpec.ofChange fmaNanSpec)) fmaNanCard

/-- THE TIED CARD OF 'hairsbreadthlaw20.FmaKnown'. -/
def fmaKnownCard : Claim7 := { stood := { row := fmaKnownRow, standIns := [], harness := (true, "95c68d798588dab6481d00130f5ecc4ca07f8fca1a3c126c8286d7f5389dd0cb"), looks := false }, kinds := [], alts := [], laidByText := true, laidKinds := [.data], laidTests := true, laidLooks := .later }
def FmaKnownCardSaid : Prop := Claim7.holds Tryz.pinned (.plain (OpenSpec.ofChange fmaKnownSpec)) fmaKnownCard

/-- THE SECOND FORM's CARD OF 'hairsbreadthlaw20.FmaAll'. -/
def fmaAllUptoCard : Claim7 := { stood := { row := fmaAllUptoRow, standIns := [], harness := (true, "95c68d798588dab6481d00130f5ecc4ca07f8fca1a3c126c8286d7f5389dd0cb"), looks := false }, kinds := [], alts := [], laidByText := true, laidKinds := [.data], laidTests := true, laidLooks := .later }
def FmaAllUptoCardSaid : Prop := Claim7.holds Tryz.pinned (.plain (OpenSpec.upto fmaAllSpec)) fmaAllUptoCard

/-- THE SECOND FORM's CARD OF 'hairsbreadthlaw20.FmaRest'. -/
def fmaRestUptoCard : Claim7 := { stood := { row := fmaRestUptoRow, standIns := [], harness := (true, "95c68d798588dab6481d00130f5ecc4ca07f8fca1a3c126c8286d7f5389dd0cb"), looks := false }, kinds := [], alts := [], laidByText := true, laidKinds := [.data], laidTests := true, laidLooks := .later }
def FmaRestUptoCardSaid : Prop := Claim7.holds Tryz.pinned (.plain (OpenSpec.upto fmaRestSpec)) fmaRestUptoCard

/-- THE SECOND FORM's CARD OF 'hairsbreadthlaw20.FmaSum'. -/
def fmaSumUptoCard : Claim7 := { stood := { row := fmaSumUptoRow, standIns := [], harness := (true, "95c68d798588dab6481d00130f5ecc4ca07f8fca1a3c126c8286d7f5389dd0cb"), looks := false }, kinds := [], alts := [], laidByText := true, laidKinds := [.data], laidTests := true, laidLooks := .later }
def FmaSumUptoCardSaid : Prop := Claim7.holds Tryz.pinned (.plain (OpenSpec.upto fmaSumSpec)) fmaSumUptoCard

/-- THE SECOND FORM's CARD OF 'hairsbreadthlaw20.FmaProduct'. -/
def fmaProductUptoCard : Claim7 := { stood := { row := fmaProductUptoRow, standIns := [], harness := (true, "95c68d798588dab6481d00130f5ecc4ca07f8fca1a3c126c8286d7f5389dd0cb"), looks := false }, kinds := [], alts := [], laidByText := true, laidKinds := [.data], laidTests := true, laidLooks := .later }
def FmaProductUptoCardSaid : Prop := Claim7.holds Tryz.pinned (.plain (OpenSpec.upto fmaProductSpec)) fmaProductUptoCard

/-- THE SECOND FORM's CARD OF 'hairsbreadthlaw20.FmaTurn'. -/
def fmaTurnUptoCard : Claim7 := { stood := { row := fmaTurnUptoRow, standIns := [], harness := (true, "95c68d798588dab6481d00130f5ecc4ca07f8fca1a3c126c8286d7f5389dd0cb"), looks := false }, kinds := [], alts := [], laidByText := true, laidKinds := [.data], laidTests := true, laidLooks := .later }
def FmaTurnUptoCardSaid : Prop := Claim7.holds Tryz.pinned (.plain (OpenSpec.upto fmaTurnSpec)) fmaTurnUptoCard

/-- THE SECOND FORM's CARD OF 'hairsbreadthlaw20.FmaNan'. -/
def fmaNanUptoCard : Claim7 := { stood := { row := fmaNanUptoRow, standIns := [], harness := (true, "95c68d798588dab6481d00130f5ecc4ca07f8fca1a3c126c8286d7f5389dd0cb"), looks := false }, kinds := [], alts := [], laidByText := true, laidKinds := [.data], laidTests := true, laidLooks := .later }
def FmaNanUptoCardSaid : Prop := Claim7.holds Tryz.pinned (.plain (OpenSpec.upto fmaNanSpec)) fmaNanUptoCard

/-- THE SECOND FORM's CARD OF 'hairsbreadthlaw20.FmaKnown'. -/
def fmaKnownUptoCard : Claim7 := { stood := { row := fmaKnownUptoRow, standIns := [], harness := (true, "95c68d798588dab6481d00130f5ecc4ca07f8fca1a3c126c8286d7f5389dd0cb"), looks := false }, kinds := [], alts := [], laidByText := true, laidKinds := [.data], laidTests := true, laidLooks := .later }
def FmaKnownUptoCardSaid : Prop := Claim7.holds Tryz.pinned (.plain (OpenSpec.upto fmaKnownSpec)) fmaKnownUptoCard
end Rows
end Go.Proofs.YtdcdbcccchadfaaGreatDoor
