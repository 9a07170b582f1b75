/-
  CountTwo over digits.
-/
import Derived.Test.YtkhcbioohoeegaaDoorTwo4
import Derived.Test.YtkhcbioohoeegaaDoorCounts4
set_option linter.unusedVariables false
set_option linter.unusedSimpArgs false
set_option maxRecDepth 100000
namespace Go.Proofs.YtkhcbioohoeegaaDoor
open Go.RowKit
attribute [local go_sem ↓] Go.wp_at_zero Go.wp_at_succ



theorem two4_law (C : CountOK) (ah al : Int) (uah : U64 ah) (ual : U64 al) (w : World) (tb : Tab w) :
    Calls Tryd.prog 3 #[.agg #[.int .u64 ah, .int .u64 al]] w fun e w' => e = .returned (.bool true) ∧ Below w.heap.size w w' := by
  have h := two4_walk (val ah al) (Lib.hid C) (Lib.hid (counts4_any C)) w tb
  rw [(hl_val uah ual).1, (hl_val uah ual).2] at h
  exact h


end Go.Proofs.YtkhcbioohoeegaaDoor
