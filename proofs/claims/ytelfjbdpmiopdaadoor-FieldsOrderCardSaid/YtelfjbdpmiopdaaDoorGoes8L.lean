/-
  The example of stage 8.
-/
import Derived.Test.YtelfjbdpmiopdaaDoorGoes8
import Derived.Test.YtelfjbdpmiopdaaDoorCls8P
set_option linter.unusedVariables false
set_option linter.unusedSimpArgs false
set_option maxRecDepth 100000
namespace Go.Proofs.YtelfjbdpmiopdaaDoor
open Go.RowKit
attribute [local go_sem ↓] Go.wp_at_zero Go.wp_at_succ

end Go.Proofs.YtelfjbdpmiopdaaDoor
