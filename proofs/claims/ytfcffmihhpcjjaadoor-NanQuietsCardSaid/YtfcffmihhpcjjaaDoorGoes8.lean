/-
  The walk of the example that every statement of stage 8 asks.
-/
import Derived.Test.YtfcffmihhpcjjaaDoorForm7T
import Derived.Test.YtfcffmihhpcjjaaDoorGaA
import Derived.Test.YtfcffmihhpcjjaaDoorRef8
set_option linter.unusedVariables false
set_option linter.unusedSimpArgs false
set_option maxRecDepth 100000
namespace Go.Proofs.YtfcffmihhpcjjaaDoor
open Go.RowKit
attribute [local go_sem ↓] Go.wp_at_zero Go.wp_at_succ

end Go.Proofs.YtfcffmihhpcjjaaDoor
