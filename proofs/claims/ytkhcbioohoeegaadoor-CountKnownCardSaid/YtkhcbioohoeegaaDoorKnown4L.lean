/-
  CountKnown.
-/
import Derived.Test.YtkhcbioohoeegaaDoorKnown4
import Derived.Test.YtkhcbioohoeegaaDoorCounts4
set_option linter.unusedVariables false
set_option linter.unusedSimpArgs false
set_option maxRecDepth 100000
namespace Go.Proofs.YtkhcbioohoeegaaDoor
open Go.RowKit
attribute [local go_sem ↓] Go.wp_at_zero Go.wp_at_succ

theorem known4_law (C : CountOK) (w : World) (tb : Tab w) :
    Calls Tryd.prog 9 #[] w fun e w' => e = .returned (.bool true) ∧ Below w.heap.size w w' := known4_walk (Lib.hid C) (Lib.hid (counts4_any C)) w tb


end Go.Proofs.YtkhcbioohoeegaaDoor
