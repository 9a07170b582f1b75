/-
  Numbers taken apart: the document's answers of layer 9, over numbers.
-/
import Derived.Test.YtfcffmihhpcjjaaDoorMath9
import Derived.Test.YtfcffmihhpcjjaaDoorNumS
import Derived.Test.YtfcffmihhpcjjaaDoorLater4
set_option linter.unusedVariables false
set_option linter.unusedSimpArgs false
set_option maxRecDepth 100000
namespace Go.Proofs.YtfcffmihhpcjjaaDoor
open Go.RowKit
attribute [local go_sem ↓] Go.wp_at_zero Go.wp_at_succ

end Go.Proofs.YtfcffmihhpcjjaaDoor
