/-
  The example of stage 8.
-/
import Derived.Test.YtfcffmihhpcjjaaDoorGoes8
import Derived.Test.YtfcffmihhpcjjaaDoorCls8P
set_option linter.unusedVariables false
set_option linter.unusedSimpArgs false
set_option maxRecDepth 100000
namespace Go.Proofs.YtfcffmihhpcjjaaDoor
open Go.RowKit
attribute [local go_sem ↓] Go.wp_at_zero Go.wp_at_succ

end Go.Proofs.YtfcffmihhpcjjaaDoor
