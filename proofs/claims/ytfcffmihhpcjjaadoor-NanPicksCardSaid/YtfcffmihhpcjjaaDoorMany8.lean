/-
  ClassMany: the walk.
-/
import Derived.Test.YtfcffmihhpcjjaaDoorBsA
import Derived.Test.YtfcffmihhpcjjaaDoorGaA
set_option linter.unusedVariables false
set_option linter.unusedSimpArgs false
set_option maxRecDepth 100000
namespace Go.Proofs.YtfcffmihhpcjjaaDoor
open Go.RowKit

theorem OwnB.bs {w : World} {base : Nat} {v : Value} {os : List Int} (h : OwnB w base v os) (hl : os.length ≤ 1000000) : ∃ ao n cap, v = .slice ao n cap ∧ Bs w ao n cap os := by
  rcases id h.2 with ⟨hv, h0⟩ | ⟨g, cap, cur, hv, _, hg, hnc, _⟩
  · exact ⟨none, 0, 0, hv, h0.symm, by omega, ⟨by omega, fun _ => ⟨rfl, rfl⟩⟩, fun k hk => by omega⟩
  · refine ⟨_, os.length, cap, hv, rfl, hnc, ⟨by omega, fun e => by cases e⟩, fun k hk => ⟨_, rfl, ?_⟩⟩
    subst hv
    obtain ⟨g0, g1⟩ := cellsOfB_at os k hk
    have c0 := World.ownsRow.cellAt h (k * 2) (by omega)
    have c1 := World.ownsRow.cellAt h (k * 2 + 1) (by omega)
    rw [show (⟨g, 0, none⟩ : Addr).add (k * 2) = ⟨g, k * 2, none⟩ by unfold Addr.add; by_cases h : k * 2 = 0 <;> simp [h]]
    exact ⟨c0.trans g0, c1.trans g1⟩

end Go.Proofs.YtfcffmihhpcjjaaDoor
