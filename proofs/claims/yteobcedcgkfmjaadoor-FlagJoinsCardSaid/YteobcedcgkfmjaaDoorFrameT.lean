/-
  What a row that lists the flags' names gives the walks, and a heap that meets it.
-/
import Derived.Test.YteobcedcgkfmjaaDoorLaid
import Derived.Test.YteobcedcgkfmjaaDoorFlagC
import Derived.Test.YteobcedcgkfmjaaDoorTie
import Derived.LaidMore
import Derived.SevenTiedAt
import Derived.LaidByTextLater
set_option linter.unusedVariables false
set_option maxRecDepth 100000
namespace Go.Proofs.YteobcedcgkfmjaaDoor
open Go.ChangeShapes Go.WideShapes Go.ChangeAt Go.RowKit Go.Joins

/-- An array of texts, cell by cell. -/
theorem texts_cells {H : Type} {enc : TypeId × Value → H} {P : Program} {w : World} {base : Nat} {spare : Nat → Bool} {held : Bool} {fuel : Nat} {T S : TypeId} {n : Nat} {cs : List Value} {pl : List MemPlace} {rows : List ByteArray}
    (hT : P.underlying T = some (.array n S)) (hS : P.underlying S = some .string) (hm : P.cellsOf S = 1)
    (h : DataW.trod enc P w base spare held fuel T cs = some (.agg (rows.map fun r => .lit (.string r.data.toList)), pl)) :
    ∀ (i : Nat) (r : ByteArray), rows[i]? = some r → cs[i]? = some (.string r) := by
  intro i r hi
  obtain ⟨xs, k, rfl, hx, _, hlen, hel⟩ := DataW.trod_array hT h
  simp only [Prod.mk.injEq, DataW.agg.injEq] at hx
  have hxl : xs.length = rows.length := by have := congrArg List.length hx.1; simpa using this.symm
  have hin : i < n := by have := (List.getElem?_eq_some_iff.1 hi).1; omega
  have e := hel i hin
  rw [hm] at e
  have hmi : (xs.map (·.1))[i]? = some (.lit (.string r.data.toList)) := by
    rw [← hx.1, List.getElem?_map, hi]; rfl
  rw [List.getElem?_map] at hmi
  obtain ⟨y, hy1, hy2⟩ := Option.map_eq_some_iff.1 hmi
  rw [hy1] at e
  obtain ⟨s, e1, e2, _⟩ := DataW.trod_string hS e
  rw [e2] at hy2
  simp only [DataW.lit.injEq, Lit.string.injEq] at hy2
  have hsr : s = r := by
    cases s; cases r
    simp only [ByteArray.mk.injEq]
    exact Array.toList_inj.1 hy2
  rw [hsr] at e1
  rw [Nat.mul_one] at e1
  exact head_drop e1

def tabT : List (String × DataW Unit) := [("hairsbreadth/flag.names", Rows.laid_hairsbreadth_flag_names)]
theorem doorT_met (os : Os) (args : Array Value) : laidMetH Tryd.prog tabT ((World.doorLaid Tryd.prog 14 os).forCall (fun _ _ => 0) ⟨#[], args, []⟩).memory :=
  laidMetH_of_parts3 (fuel := 8) (laidMet_of_run' 8 (by kernel_rfl) (by kernel_rfl)) (by kernel_rfl) (by kernel_rfl)
theorem gTabT : Tryd.prog.globalNamed "hairsbreadth/flag.names" = some 0 := by kernel_rfl
theorem tTabT : (Tryd.prog.globals[0]?).map (·.type) = some 40 := by kernel_rfl
def rowsT : List ByteArray := [nmB 0, nmB 1, nmB 2, nmB 3, nmB 4]
theorem ntab_of {W : World} (h : laidMetH Tryd.prog tabT W) : NTab W := by
  rw [MakeChecks.laidMetH_plain _ _ _ (by kernel_rfl)] at h
  obtain ⟨ps, ⟨g0, t0, cs0, f0, p0, q0, hg0, ht0, hv0, hd0, _⟩, _, _⟩ := h
  obtain rfl := Option.some.inj (gTabT.symm.trans hg0)
  obtain rfl := Option.some.inj (tTabT.symm.trans ht0)
  have hd : DataW.trod (fun _ => ()) Tryd.prog W 0 (fun _ => true) false f0 40 cs0.toList = some (.agg (rowsT.map fun r => .lit (.string r.data.toList)), p0) := hd0
  have key := texts_cells Tryd.underlying40 Tryd.underlying9 (by kernel_rfl) hd
  intro k
  rw [World.var?_cell hg0 hv0 k.val, ← Array.getElem?_toList]
  match k with
  | 0 => exact key 0 _ rfl
  | 1 => exact key 1 _ rfl
  | 2 => exact key 2 _ rfl
  | 3 => exact key 3 _ rfl
  | 4 => exact key 4 _ rfl

end Go.Proofs.YteobcedcgkfmjaaDoor
