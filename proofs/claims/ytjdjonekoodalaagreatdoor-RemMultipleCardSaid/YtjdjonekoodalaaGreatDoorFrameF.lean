import Derived.LaidMore
import Derived.Lib.SmallJoins
import Derived.SevenTiedAt
import Derived.Test.YtjdjonekoodalaaGreatDoorLaid
import Derived.Test.YtjdjonekoodalaaGreatDoorGfA
import Derived.Test.YtjdjonekoodalaaGreatDoorTie
set_option linter.unusedVariables false
set_option maxRecDepth 100000
namespace Go.Proofs.YtjdjonekoodalaaGreatDoor
open Go.ChangeShapes Go.WideShapes Go.ChangeAt Go.RowKit Go.Joins
def tabF : List (String × DataW Unit) := [("hairsbreadth/format.table", Rows.laid_hairsbreadth_format_table)]
theorem doorF_met (os : Os) (args : Array Value) : laidMetH Tryz.prog tabF ((World.doorLaid Tryz.prog 18 os).forCall (fun _ _ => 0) ⟨#[], args, []⟩).memory :=
  laidMetH_of_parts3 (fuel := 8) (laidMet_of_run' 8 (by kernel_rfl) (by kernel_rfl)) (by kernel_rfl) (by kernel_rfl)
theorem gTabF : Tryz.prog.globalNamed "hairsbreadth/format.table" = some 0 := by kernel_rfl
theorem tTabF : (Tryz.prog.globals[0]?).map (·.type) = some 155 := by kernel_rfl
def rowsF : List (List Int) := [[16, 11, 15], [32, 24, 127], [64, 53, 1023], [128, 113, 16383]]
theorem ftab_of {W : World} (h : laidMetH Tryz.prog tabF W) : FTab W := by
  rw [MakeChecks.laidMetH_plain _ _ _ (by kernel_rfl)] at h
  obtain ⟨ps, ⟨g0, t0, cs0, f0, p0, q0, hg0, ht0, hv0, hd0, _⟩, _, _⟩ := h
  obtain rfl := Option.some.inj (gTabF.symm.trans hg0)
  obtain rfl := Option.some.inj (tTabF.symm.trans ht0)
  have hd : DataW.trod (fun _ => ()) Tryz.prog W 0 (fun _ => true) false f0 155 cs0.toList = some (.agg (rowsF.map fun r => .agg (r.mapIdx fun _ x => .lit (.int .i64 x))), p0) := hd0
  have key := rows_cells (m := 3) (kd := fun _ => .i64) Tryz.underlying155 Tryz.underlying95 (by kernel_rfl) (by decide) (fun j hj => by
    obtain rfl | rfl | rfl : j = 0 ∨ j = 1 ∨ j = 2 := by omega
    all_goals exact ⟨_, rfl, rfl, Tryz.underlying3, by kernel_rfl⟩) hd
  intro k hk
  rw [World.var?_cell hg0 hv0 k, ← Array.getElem?_toList]
  obtain rfl | rfl | rfl | rfl | rfl | rfl | rfl | rfl | rfl | rfl | rfl | rfl : k = 0 ∨ k = 1 ∨ k = 2 ∨ k = 3 ∨ k = 4 ∨ k = 5 ∨ k = 6 ∨ k = 7 ∨ k = 8 ∨ k = 9 ∨ k = 10 ∨ k = 11 := by omega
  · exact key 0 0 _ _ rfl rfl
  · exact key 0 1 _ _ rfl rfl
  · exact key 0 2 _ _ rfl rfl
  · exact key 1 0 _ _ rfl rfl
  · exact key 1 1 _ _ rfl rfl
  · exact key 1 2 _ _ rfl rfl
  · exact key 2 0 _ _ rfl rfl
  · exact key 2 1 _ _ rfl rfl
  · exact key 2 2 _ _ rfl rfl
  · exact key 3 0 _ _ rfl rfl
  · exact key 3 1 _ _ rfl rfl
  · exact key 3 2 _ _ rfl rfl
end Go.Proofs.YtjdjonekoodalaaGreatDoor
