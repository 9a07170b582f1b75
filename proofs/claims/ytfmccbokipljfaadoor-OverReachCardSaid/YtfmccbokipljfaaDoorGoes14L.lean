/-
  The example of stage 14.
-/
import Derived.Test.YtfmccbokipljfaaDoorGoes14
set_option linter.unusedVariables false
set_option linter.unusedSimpArgs false
set_option maxRecDepth 100000
namespace Go.Proofs.YtfmccbokipljfaaDoor
open Go.RowKit
attribute [local go_sem ↓] Go.wp_at_zero Go.wp_at_succ

theorem goes14_any (O : OverOK) (w : World) (ft : FTab w) : Calls Tryd.prog 17 #[] w fun e w' => e = .returned (.bool true) ∧ Below w.heap.size w w' := by
  refine goes14_core (Lib.hid fun w ft => ?h0) (Lib.hid fun w ft => ?h1) (Lib.hid fun w ft => ?h2) (Lib.hid fun w ft => ?h3) (Lib.hid fun w ft => ?h4) (Lib.hid fun w ft => ?h5) w ft
  case h0 =>
    have h := O.over 0 0 false (by decide) (by decide) (by decide) (by decide) w ft
    rw [show overB 0 0 false = 31744 from by decide +kernel, show overFl 0 0 = 20 from by decide +kernel] at h
    exact h
  case h1 =>
    have h := O.over 0 4 true (by decide) (by decide) (by decide) (by decide) w ft
    rw [show overB 0 4 true = 64511 from by decide +kernel, show overFl 0 4 = 20 from by decide +kernel] at h
    exact h
  case h2 =>
    have h := O.least 1 true (by decide) (by decide) w ft
    rw [show makeF 1 true 0 1 = 2147483649 from by decide +kernel] at h
    exact h
  case h3 =>
    have h := O.normal 0 false (by decide) (by decide) w ft
    rw [show makeF 0 false 1 0 = 1024 from by decide +kernel] at h
    exact h
  case h4 =>
    have h := O.beyond 0 16 (by decide) (by decide) (by decide) (by decide) w ft
    rw [show (decide ((0 : Int) < 4) && decide ((fE 0 : Int) < 16)) = true from by decide +kernel] at h
    exact h
  case h5 =>
    have h := O.tiny 0 (-15) (by decide) (by decide) (by decide) (by decide) w ft
    rw [show (decide ((0 : Int) < 4) && decide (((-15) : Int) < 1 - fE 0)) = true from by decide +kernel] at h
    exact h


end Go.Proofs.YtfmccbokipljfaaDoor
