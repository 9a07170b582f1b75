/-
  What the document asks of class.Any; ClassAny over slices.
-/
import Derived.Test.YtelfjbdpmiopdaaDoorAny8
set_option linter.unusedVariables false
set_option linter.unusedSimpArgs false
set_option maxRecDepth 100000
namespace Go.Proofs.YtelfjbdpmiopdaaDoor
open Go.RowKit

/-- What the document asks of class.Any, at the functions that the statements hand it. -/
structure AnyOK : Prop where

end Go.Proofs.YtelfjbdpmiopdaaDoor
