/-
  The example of stage 13.
-/
import Derived.Test.YtjinnbfffalmkaaGoes13
set_option linter.unusedVariables false
set_option linter.unusedSimpArgs false
set_option maxRecDepth 100000
namespace Go.Proofs.Ytjinnbfffalmkaa
open Go.RowKit
attribute [local go_sem ↓] Go.wp_at_zero Go.wp_at_succ

theorem goes13_any (M : ModeOK) (w : World) : Calls Try.prog 13 #[] w fun e w' => e = .returned (.bool true) ∧ Below w.heap.size w w' := by
  refine goes13_core (Lib.hid fun w => ?h0) (Lib.hid fun w => ?h1) (Lib.hid fun w => ?h2) (Lib.hid fun w => ?h3) (Lib.hid fun w => ?h4) (Lib.hid fun w => ?h5) w
  case h0 =>
    have h := M.next 0 false true 2 (by decide) (by decide) (by decide) (by decide) w
    rw [show nextM 0 false true 2 = true from by decide] at h
    exact h
  case h1 =>
    have h := M.next 0 false false 2 (by decide) (by decide) (by decide) (by decide) w
    rw [show nextM 0 false false 2 = false from by decide] at h
    exact h
  case h2 =>
    have h := M.next 2 true false 3 (by decide) (by decide) (by decide) (by decide) w
    rw [show nextM 2 true false 3 = false from by decide] at h
    exact h
  case h3 =>
    have h := M.next 3 true false 1 (by decide) (by decide) (by decide) (by decide) w
    rw [show nextM 3 true false 1 = true from by decide] at h
    exact h
  case h4 =>
    have h := M.inf 4 true (by decide) (by decide) w
    rw [show infM 4 true = false from by decide] at h
    exact h
  case h5 =>
    have h := M.of true true w
    rw [show ofM true true = 3 from by decide] at h
    exact h


end Go.Proofs.Ytjinnbfffalmkaa
