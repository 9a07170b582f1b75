/-
  What a row that lists the table of math/bits.TrailingZeros64 gives the walks, and a heap that meets it.
-/
import Derived.Test.YtkhcbioohoeegaaDoorFrameK
import Derived.Test.YtkhcbioohoeegaaDoorCountB
import Derived.Test.YtkhcbioohoeegaaDoorTie
import Derived.LaidMore
import Derived.SevenTiedAt
import Derived.LaidByTextLater
set_option linter.unusedVariables false
set_option maxRecDepth 100000
namespace Go.Proofs.YtkhcbioohoeegaaDoor
open Go.ChangeShapes Go.WideShapes Go.ChangeAt Go.RowKit Go.Joins

def tabL : List (String × DataW Unit) := [("math/bits.deBruijn64tab", Rows.laid_math_bits_deBruijn64tab)]
theorem door_met (os : Os) (args : Array Value) : laidMetH Tryd.prog tabL ((World.doorLaid Tryd.prog 14 os).forCall (fun _ _ => 0) ⟨#[], args, []⟩).memory :=
  laidMetH_of_parts3 (fuel := 8) (laidMet_of_run' 8 (by kernel_rfl) (by kernel_rfl)) (by kernel_rfl) (by kernel_rfl)
theorem gTab : Tryd.prog.globalNamed "math/bits.deBruijn64tab" = some 0 := by kernel_rfl
theorem tTab : (Tryd.prog.globals[0]?).map (·.type) = some 72 := by kernel_rfl
theorem tab_of {W : World} (h : laidMetH Tryd.prog tabL W) : Tab W := by
  rw [MakeChecks.laidMetH_plain _ _ _ (by kernel_rfl)] at h
  obtain ⟨ps, ⟨g0, t0, cs0, f0, p0, q0, hg0, ht0, hv0, hd0, _⟩, _, _⟩ := h
  obtain rfl := Option.some.inj (gTab.symm.trans hg0)
  obtain rfl := Option.some.inj (tTab.symm.trans ht0)
  obtain ⟨xs, m1, rfl, hx1, hlen, hn, hel⟩ := DataW.trod_array Tryd.underlying72 hd0
  have c5 : Tryd.prog.cellsOf 5 = 1 := by kernel_rfl
  have hm : xs.map (·.1) = (Lib.deBruijn64tab.map fun k => (.lit (.int .u8 (k : Nat)) : DataW Unit)) := by
    simp only [Prod.mk.injEq] at hx1
    have h1 := hx1.1
    unfold Rows.laid_math_bits_deBruijn64tab at h1
    injection h1 with h2
    exact h2.symm
  intro j hj
  rw [World.var?_cell hg0 hv0 j]
  have hel' := hel j hj
  rw [c5, Nat.mul_one] at hel'
  have hjx : j < xs.length := by omega
  rw [List.getElem?_eq_getElem hjx] at hel'
  obtain ⟨k, e1, e2, _⟩ := DataW.trod_int Tryd.underlying5 hel'
  have h3 : (xs.map (·.1))[j]? = some (.lit (.int .u8 k)) := by
    rw [List.getElem?_map, List.getElem?_eq_getElem hjx, e2]; rfl
  rw [hm, List.getElem?_map] at h3
  have hl : j < Lib.deBruijn64tab.length := by show j < 64; omega
  rw [List.getElem?_eq_getElem hl] at h3
  simp only [Option.map_some, Option.some.injEq, DataW.lit.injEq, Lit.int.injEq, true_and] at h3
  have h4 : cs0.toList[j]? = some (.int .u8 k) := by
    have h5 : (cs0.toList.drop j).head? = some (.int .u8 k) := by
      rcases hdl : cs0.toList.drop j with _ | ⟨y, ys⟩
      · rw [hdl] at e1; simp at e1
      · rw [hdl] at e1; simp at e1; rw [e1]; rfl
    rwa [List.head?_drop] at h5
  rw [Array.getElem?_toList] at h4
  rw [h4, ← h3]
  simp [List.getD, List.getElem?_eq_getElem hl]
end Go.Proofs.YtkhcbioohoeegaaDoor
