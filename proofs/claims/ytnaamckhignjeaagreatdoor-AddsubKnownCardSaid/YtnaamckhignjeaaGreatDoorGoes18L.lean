/-
  The example of stage 18.
-/
import Derived.Test.YtnaamckhignjeaaGreatDoorGoes18
set_option linter.unusedVariables false
set_option linter.unusedSimpArgs false
set_option maxRecDepth 100000
namespace Go.Proofs.YtnaamckhignjeaaGreatDoor
open Go.RowKit
attribute [local go_sem ↓] Go.wp_at_zero Go.wp_at_succ

theorem goes18_any (A : AddOK) (w : World) (ft : FTab w) : Calls Tryz.prog 13 #[] w fun e w' => e = .returned (.bool true) ∧ Below w.heap.size w w' := by
  refine goes18_core (Lib.hid fun w ft => ?h2) (Lib.hid fun w ft => ?h6) (Lib.hid fun w ft => ?h10) (Lib.hid fun w ft => ?h14) (Lib.hid fun w ft => ?h18) w ft
  case h2 =>
    have h := A.add 0 0 false 15360 15360 (by decide) (by decide) (by decide) (by decide) (by decide) (by decide +kernel) (by decide) (by decide +kernel) w ft
    simp only [show adB 0 0 15360 15360 (negF 0 15360) = 16384 from by decide +kernel, show adFl 0 0 false 15360 15360 (negF 0 15360) = 0 from by decide +kernel, show hiOf 15360 = 0 from by decide +kernel, show hiOf 16384 = 0 from by decide +kernel, show loOf 15360 = 15360 from by decide +kernel, show loOf 16384 = 16384 from by decide +kernel] at h
    exact h
  case h6 =>
    have h := A.sub 0 3 false 15360 15360 (by decide) (by decide) (by decide) (by decide) (by decide) (by decide +kernel) (by decide) (by decide +kernel) w ft
    simp only [show adB 0 3 15360 15360 (!negF 0 15360) = 32768 from by decide +kernel, show adFl 0 3 false 15360 15360 (!negF 0 15360) = 0 from by decide +kernel, show hiOf 15360 = 0 from by decide +kernel, show hiOf 32768 = 0 from by decide +kernel, show loOf 15360 = 15360 from by decide +kernel, show loOf 32768 = 32768 from by decide +kernel] at h
    exact h
  case h10 =>
    have h := A.add 0 0 false 31744 64512 (by decide) (by decide) (by decide) (by decide) (by decide) (by decide +kernel) (by decide) (by decide +kernel) w ft
    simp only [show adB 0 0 31744 64512 (negF 0 64512) = 32256 from by decide +kernel, show adFl 0 0 false 31744 64512 (negF 0 64512) = 1 from by decide +kernel, show hiOf 31744 = 0 from by decide +kernel, show hiOf 64512 = 0 from by decide +kernel, show hiOf 32256 = 0 from by decide +kernel, show loOf 31744 = 31744 from by decide +kernel, show loOf 64512 = 64512 from by decide +kernel, show loOf 32256 = 32256 from by decide +kernel] at h
    exact h
  case h14 =>
    have h := A.add 0 0 false 31743 31743 (by decide) (by decide) (by decide) (by decide) (by decide) (by decide +kernel) (by decide) (by decide +kernel) w ft
    simp only [show adB 0 0 31743 31743 (negF 0 31743) = 31744 from by decide +kernel, show adFl 0 0 false 31743 31743 (negF 0 31743) = 20 from by decide +kernel, show hiOf 31743 = 0 from by decide +kernel, show hiOf 31744 = 0 from by decide +kernel, show loOf 31743 = 31743 from by decide +kernel, show loOf 31744 = 31744 from by decide +kernel] at h
    exact h
  case h18 =>
    have h := A.add 0 0 false 15360 1 (by decide) (by decide) (by decide) (by decide) (by decide) (by decide +kernel) (by decide) (by decide +kernel) w ft
    simp only [show adB 0 0 15360 1 (negF 0 1) = 15360 from by decide +kernel, show adFl 0 0 false 15360 1 (negF 0 1) = 16 from by decide +kernel, show hiOf 15360 = 0 from by decide +kernel, show hiOf 1 = 0 from by decide +kernel, show loOf 15360 = 15360 from by decide +kernel, show loOf 1 = 1 from by decide +kernel] at h
    exact h


end Go.Proofs.YtnaamckhignjeaaGreatDoor
