/-
  The example of stage 7.
-/
import Derived.Test.YtdlmnnnnnjgkiaaDoorGoes7
import Derived.Test.YtdlmnnnnnjgkiaaDoorForm7P
set_option linter.unusedVariables false
set_option linter.unusedSimpArgs false
set_option maxRecDepth 100000
namespace Go.Proofs.YtdlmnnnnnjgkiaaDoor
open Go.RowKit
attribute [local go_sem ↓] Go.wp_at_zero Go.wp_at_succ

theorem ex7 {P Q : Ending → World → Prop} {f : FuncId} {a : Array Value} {w : World} (h : Calls Tryd.prog f a w P) (e : P = Q) : Calls Tryd.prog f a w Q := e ▸ h
end Go.Proofs.YtdlmnnnnnjgkiaaDoor
