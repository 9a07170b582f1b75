/-
  A number beside a store into a variable whose first cell is no digit of a number.
-/
import Derived.Test.YtfcffmihhpcjjaaDoorGnA
import Derived.Test.YtfcffmihhpcjjaaDoorGaB
set_option linter.unusedVariables false
set_option maxRecDepth 100000
namespace Go.Proofs.YtfcffmihhpcjjaaDoor
open Go.RowKit

theorem IsNum.setHB {W : World} {v : Value} {n : Int} (x : IsNum W v n) {p : Nat} {T : TypeId} {vs : Array Value} (h : HB W p T vs) (h0 : ∀ d, vs[0]? ≠ some (.int .u32 d)) (k : Nat) (u : Value) : IsNum (W.setCell ⟨p, k, none⟩ u) v n := by
  obtain ⟨ao, k', cap, ds, e, ⟨h1, h2, h3, h4, h5⟩, hn, hm⟩ := x
  refine ⟨ao, k', cap, ds, e, ⟨h1, h2, h3, h4, fun hp => ?_⟩, hn, hm⟩
  obtain ⟨g, e2, hg, hc⟩ := h5 hp
  have hne : p ≠ g := by
    rintro rfl
    have a := hc 0 hp
    rw [h.cell 0] at a
    exact h0 _ a
  exact ⟨g, e2, Nat.lt_of_lt_of_le hg (KeepsOthers.setCell _ _ _).1, fun j hj => (World.cell?_setCell_far _ _ _ _ hne).trans (hc j hj)⟩

end Go.Proofs.YtfcffmihhpcjjaaDoor
