/-
  OverKnown.
-/
import Derived.Test.YtfmccbokipljfaaDoorKnown14
import Derived.Test.YtfmccbokipljfaaDoorGoes14L
set_option linter.unusedVariables false
set_option linter.unusedSimpArgs false
set_option maxRecDepth 100000
namespace Go.Proofs.YtfmccbokipljfaaDoor
open Go.RowKit
attribute [local go_sem ↓] Go.wp_at_zero Go.wp_at_succ

theorem known14_law (O : OverOK) (w : World) (ft : FTab w) : Calls Tryd.prog 7 #[] w fun e w' => e = .returned (.bool true) ∧ Below w.heap.size w w' := by
  refine known14_core (Lib.hid fun w ft => ?h0) (Lib.hid fun w ft => ?h1) (Lib.hid fun w ft => ?h2) (Lib.hid fun w ft => ?h3) (Lib.hid fun w ft => ?h4) (Lib.hid fun w ft => ?h5) (Lib.hid fun w ft => ?h6) (Lib.hid fun w ft => ?h7) (Lib.hid fun w ft => ?h8) (Lib.hid fun w ft => ?h9) (Lib.hid (goes14_any O)) w ft
  case h0 =>
    have h := O.over 4 0 false (by decide) (by decide) (by decide) (by decide) w ft
    rw [show overB 4 0 false = 0 from by decide +kernel, show overFl 4 0 = 0 from by decide +kernel] at h
    exact h
  case h1 =>
    have h := O.over 0 5 false (by decide) (by decide) (by decide) (by decide) w ft
    rw [show overB 0 5 false = 0 from by decide +kernel, show overFl 0 5 = 0 from by decide +kernel] at h
    exact h
  case h2 =>
    have h := O.over 3 2 false (by decide) (by decide) (by decide) (by decide) w ft
    rw [show overB 3 2 false = 170135991163610696904058773219554885632 from by decide +kernel, show overFl 3 2 = 20 from by decide +kernel] at h
    exact h
  case h3 =>
    have h := O.over 3 2 true (by decide) (by decide) (by decide) (by decide) w ft
    rw [show overB 3 2 true = 340277174624079928635746076935438991359 from by decide +kernel, show overFl 3 2 = 20 from by decide +kernel] at h
    exact h
  case h4 =>
    have h := O.least 3 false (by decide) (by decide) w ft
    rw [show makeF 3 false 0 1 = 1 from by decide +kernel] at h
    exact h
  case h5 =>
    have h := O.normal 2 true (by decide) (by decide) w ft
    rw [show makeF 2 true 1 0 = 9227875636482146304 from by decide +kernel] at h
    exact h
  case h6 =>
    have h := O.beyond 0 15 (by decide) (by decide) (by decide) (by decide) w ft
    rw [show (decide ((0 : Int) < 4) && decide ((fE 0 : Int) < 15)) = false from by decide +kernel] at h
    exact h
  case h7 =>
    have h := O.tiny 0 (-14) (by decide) (by decide) (by decide) (by decide) w ft
    rw [show (decide ((0 : Int) < 4) && decide (((-14) : Int) < 1 - fE 0)) = false from by decide +kernel] at h
    exact h
  case h8 =>
    have h := O.beyond 4 1099511627776 (by decide) (by decide) (by decide) (by decide) w ft
    rw [show (decide ((4 : Int) < 4) && decide ((fE 4 : Int) < 1099511627776)) = false from by decide +kernel] at h
    exact h
  case h9 =>
    have h := O.tiny 3 (-16383) (by decide) (by decide) (by decide) (by decide) w ft
    rw [show (decide ((3 : Int) < 4) && decide (((-16383) : Int) < 1 - fE 3)) = true from by decide +kernel] at h
    exact h


end Go.Proofs.YtfmccbokipljfaaDoor
