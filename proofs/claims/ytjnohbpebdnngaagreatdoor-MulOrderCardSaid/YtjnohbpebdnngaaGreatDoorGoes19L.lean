/-
  The example of stage 19.
-/
import Derived.Test.YtjnohbpebdnngaaGreatDoorMul19M
import Derived.Test.YtjnohbpebdnngaaGreatDoorGoes19
set_option linter.unusedVariables false
set_option linter.unusedSimpArgs false
set_option maxRecDepth 100000
namespace Go.Proofs.YtjnohbpebdnngaaGreatDoor
open Go.RowKit
attribute [local go_sem ↓] Go.wp_at_zero Go.wp_at_succ

theorem goes19_any (A : MulOK) (w : World) (ft : FTab w) : Calls Tryz.prog 13 #[] w fun e w' => e = .returned (.bool true) ∧ Below w.heap.size w w' := by
  refine goes19_core (Lib.hid fun w ft => ?h2) (Lib.hid fun w ft => ?h6) (Lib.hid fun w ft => ?h10) (Lib.hid fun w ft => ?h14) w ft
  case h2 =>
    have h := A.mul 0 0 false 16384 16896 (by decide) (by decide) (by decide) (by decide) (by decide) (by decide +kernel) (by decide) (by decide +kernel) w ft
    simp only [show mlB 0 0 16384 16896 = 17920 from by decide +kernel, show mlFl 0 0 false 16384 16896 = 0 from by decide +kernel, show hiOf 16384 = 0 from by decide +kernel, show hiOf 16896 = 0 from by decide +kernel, show hiOf 17920 = 0 from by decide +kernel, show loOf 16384 = 16384 from by decide +kernel, show loOf 16896 = 16896 from by decide +kernel, show loOf 17920 = 17920 from by decide +kernel] at h
    exact h
  case h6 =>
    have h := A.mul 0 0 false 49152 16896 (by decide) (by decide) (by decide) (by decide) (by decide) (by decide +kernel) (by decide) (by decide +kernel) w ft
    simp only [show mlB 0 0 49152 16896 = 50688 from by decide +kernel, show mlFl 0 0 false 49152 16896 = 0 from by decide +kernel, show hiOf 49152 = 0 from by decide +kernel, show hiOf 16896 = 0 from by decide +kernel, show hiOf 50688 = 0 from by decide +kernel, show loOf 49152 = 49152 from by decide +kernel, show loOf 16896 = 16896 from by decide +kernel, show loOf 50688 = 50688 from by decide +kernel] at h
    exact h
  case h10 =>
    have h := A.mul 0 0 false 0 31744 (by decide) (by decide) (by decide) (by decide) (by decide) (by decide +kernel) (by decide) (by decide +kernel) w ft
    simp only [show mlB 0 0 0 31744 = 32256 from by decide +kernel, show mlFl 0 0 false 0 31744 = 1 from by decide +kernel, show hiOf 0 = 0 from by decide +kernel, show hiOf 31744 = 0 from by decide +kernel, show hiOf 32256 = 0 from by decide +kernel, show loOf 0 = 0 from by decide +kernel, show loOf 31744 = 31744 from by decide +kernel, show loOf 32256 = 32256 from by decide +kernel] at h
    exact h
  case h14 =>
    have h := A.mul 0 0 false 1 14336 (by decide) (by decide) (by decide) (by decide) (by decide) (by decide +kernel) (by decide) (by decide +kernel) w ft
    simp only [show mlB 0 0 1 14336 = 0 from by decide +kernel, show mlFl 0 0 false 1 14336 = 24 from by decide +kernel, show hiOf 1 = 0 from by decide +kernel, show hiOf 14336 = 0 from by decide +kernel, show hiOf 0 = 0 from by decide +kernel, show loOf 1 = 1 from by decide +kernel, show loOf 14336 = 14336 from by decide +kernel, show loOf 0 = 0 from by decide +kernel] at h
    exact h


end Go.Proofs.YtjnohbpebdnngaaGreatDoor
