/-
  RootKnown.
-/
import Derived.Test.YtbibinmjipcdjaaKnown6
import Derived.Test.YtbibinmjipcdjaaGoes6
set_option linter.unusedVariables false
set_option linter.unusedSimpArgs false
set_option maxRecDepth 100000
namespace Go.Proofs.Ytbibinmjipcdjaa
open Go.RowKit
attribute [local go_sem ↓] Go.wp_at_zero Go.wp_at_succ

theorem known6_law (C : RootOK) (w : World) :
    Calls Try.prog 8 #[] w fun e w' => e = .returned (.bool true) ∧ Below w.heap.size w w' := known6_walk (Lib.hid C) (Lib.hid (goes6_any C)) w


end Go.Proofs.Ytbibinmjipcdjaa
