/-
  The table of formats, as it lies.
-/
import Derived.Test.YtfcffmihhpcjjaaDoorForm7M
import Derived.Test.YtfcffmihhpcjjaaDoorGaB
set_option linter.unusedVariables false
set_option maxRecDepth 100000
namespace Go.Proofs.YtfcffmihhpcjjaaDoor
open Go.RowKit

def FTab (w : World) : Prop := ∀ k, k < 12 → w.cell? ⟨0, k, none⟩ = some (.int .i64 ([16, 11, 15, 32, 24, 127, 64, 53, 1023, 128, 113, 16383].getD k 0))
theorem FTab.later {w w' : World} (h : FTab w) (hb : Below w.heap.size w w') : FTab w' := fun j hj => cell_later hb (h j hj)

end Go.Proofs.YtfcffmihhpcjjaaDoor
