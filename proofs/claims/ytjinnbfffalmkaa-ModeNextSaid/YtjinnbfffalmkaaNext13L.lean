/-
  ModeNext.
-/
import Derived.Test.YtjinnbfffalmkaaNext13
import Derived.Test.YtjinnbfffalmkaaRef13
import Derived.Test.YtjinnbfffalmkaaGoes13L
set_option linter.unusedVariables false
set_option linter.unusedSimpArgs false
set_option maxRecDepth 100000
namespace Go.Proofs.Ytjinnbfffalmkaa
open Go.RowKit
attribute [local go_sem ↓] Go.wp_at_zero Go.wp_at_succ

theorem next13_law (M : ModeOK) (m : Int) (ng od : Bool) (r : Int) (um : 0 ≤ m ∧ m ≤ 255) (ur : 0 ≤ r ∧ r ≤ 255) (w : World) : Calls Try.prog 3 #[.int .u8 m, .bool ng, .bool od, .int .u8 r] w fun e w' => e = .returned (.bool true) ∧ Below w.heap.size w w' :=
  next13_core m r ng od _ _ _ (Lib.hid (M.next m ng od r um.1 um.2 ur.1 ur.2)) (Lib.hid (ref13_next m ng od r)) (Lib.hid (M.known m um.1 um.2)) (Lib.hid (M.inf m ng um.1 um.2)) (Lib.hid (ref13_inf m ng)) (Lib.hid (goes13_any M)) (IntWalk.i64_in _ (by omega)) rfl w


end Go.Proofs.Ytjinnbfffalmkaa
