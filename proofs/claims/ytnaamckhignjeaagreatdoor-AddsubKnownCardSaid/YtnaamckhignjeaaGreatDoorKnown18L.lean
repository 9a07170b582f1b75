/-
  AddsubKnown.
-/
import Derived.Test.YtnaamckhignjeaaGreatDoorKnown18
import Derived.Test.YtnaamckhignjeaaGreatDoorGoes18L
set_option linter.unusedVariables false
set_option linter.unusedSimpArgs false
set_option maxRecDepth 100000
namespace Go.Proofs.YtnaamckhignjeaaGreatDoor
open Go.RowKit
attribute [local go_sem ↓] Go.wp_at_zero Go.wp_at_succ

theorem known18_law (A : AddOK) (w : World) (ft : FTab w) : Calls Tryz.prog 10 #[] w fun e w' => e = .returned (.bool true) ∧ Below w.heap.size w w' := by
  refine known18_core (Lib.hid fun w ft => ?h2) (Lib.hid fun w ft => ?h5) (Lib.hid fun w ft => ?h8) (Lib.hid fun w ft => ?h11) (Lib.hid fun w ft => ?h14) (Lib.hid fun w ft => ?h17) (Lib.hid fun w ft => ?h20) (Lib.hid fun w ft => ?h23) (Lib.hid fun w ft => ?h26) (Lib.hid fun w ft => ?h29) (Lib.hid fun w ft => ?h32) (Lib.hid fun w ft => ?h35) (Lib.hid fun w ft => ?h38) (Lib.hid fun w ft => ?h41) (Lib.hid fun w ft => ?h44) (Lib.hid fun w ft => ?h46) (Lib.hid fun w ft => ?h49) (Lib.hid fun w => ?h50) (Lib.hid fun w => ?h51) (Lib.hid fun w ft => ?h52) w ft
  case h2 =>
    have h := A.sub 0 0 false 15360 15360 (by decide) (by decide) (by decide) (by decide) (by decide) (by decide +kernel) (by decide) (by decide +kernel) w ft
    simp only [show adB 0 0 15360 15360 (!negF 0 15360) = 0 from by decide +kernel, show adFl 0 0 false 15360 15360 (!negF 0 15360) = 0 from by decide +kernel, show hiOf 15360 = 0 from by decide +kernel, show hiOf 0 = 0 from by decide +kernel, show loOf 15360 = 15360 from by decide +kernel, show loOf 0 = 0 from by decide +kernel] at h
    exact h
  case h5 =>
    have h := A.add 0 2 false 15360 1 (by decide) (by decide) (by decide) (by decide) (by decide) (by decide +kernel) (by decide) (by decide +kernel) w ft
    simp only [show adB 0 2 15360 1 (negF 0 1) = 15361 from by decide +kernel, show adFl 0 2 false 15360 1 (negF 0 1) = 16 from by decide +kernel, show hiOf 15360 = 0 from by decide +kernel, show hiOf 1 = 0 from by decide +kernel, show hiOf 15361 = 0 from by decide +kernel, show loOf 15360 = 15360 from by decide +kernel, show loOf 1 = 1 from by decide +kernel, show loOf 15361 = 15361 from by decide +kernel] at h
    exact h
  case h8 =>
    have h := A.add 0 0 false 32768 32768 (by decide) (by decide) (by decide) (by decide) (by decide) (by decide +kernel) (by decide) (by decide +kernel) w ft
    simp only [show adB 0 0 32768 32768 (negF 0 32768) = 32768 from by decide +kernel, show adFl 0 0 false 32768 32768 (negF 0 32768) = 0 from by decide +kernel, show hiOf 32768 = 0 from by decide +kernel, show loOf 32768 = 32768 from by decide +kernel] at h
    exact h
  case h11 =>
    have h := A.add 0 0 false 32768 0 (by decide) (by decide) (by decide) (by decide) (by decide) (by decide +kernel) (by decide) (by decide +kernel) w ft
    simp only [show adB 0 0 32768 0 (negF 0 0) = 0 from by decide +kernel, show adFl 0 0 false 32768 0 (negF 0 0) = 0 from by decide +kernel, show hiOf 32768 = 0 from by decide +kernel, show hiOf 0 = 0 from by decide +kernel, show loOf 32768 = 32768 from by decide +kernel, show loOf 0 = 0 from by decide +kernel] at h
    exact h
  case h14 =>
    have h := A.sub 0 0 false 32768 0 (by decide) (by decide) (by decide) (by decide) (by decide) (by decide +kernel) (by decide) (by decide +kernel) w ft
    simp only [show adB 0 0 32768 0 (!negF 0 0) = 32768 from by decide +kernel, show adFl 0 0 false 32768 0 (!negF 0 0) = 0 from by decide +kernel, show hiOf 32768 = 0 from by decide +kernel, show hiOf 0 = 0 from by decide +kernel, show loOf 32768 = 32768 from by decide +kernel, show loOf 0 = 0 from by decide +kernel] at h
    exact h
  case h17 =>
    have h := A.add 0 0 false 31744 15360 (by decide) (by decide) (by decide) (by decide) (by decide) (by decide +kernel) (by decide) (by decide +kernel) w ft
    simp only [show adB 0 0 31744 15360 (negF 0 15360) = 31744 from by decide +kernel, show adFl 0 0 false 31744 15360 (negF 0 15360) = 0 from by decide +kernel, show hiOf 31744 = 0 from by decide +kernel, show hiOf 15360 = 0 from by decide +kernel, show loOf 31744 = 31744 from by decide +kernel, show loOf 15360 = 15360 from by decide +kernel] at h
    exact h
  case h20 =>
    have h := A.sub 0 0 false 15360 31744 (by decide) (by decide) (by decide) (by decide) (by decide) (by decide +kernel) (by decide) (by decide +kernel) w ft
    simp only [show adB 0 0 15360 31744 (!negF 0 31744) = 64512 from by decide +kernel, show adFl 0 0 false 15360 31744 (!negF 0 31744) = 0 from by decide +kernel, show hiOf 15360 = 0 from by decide +kernel, show hiOf 31744 = 0 from by decide +kernel, show hiOf 64512 = 0 from by decide +kernel, show loOf 15360 = 15360 from by decide +kernel, show loOf 31744 = 31744 from by decide +kernel, show loOf 64512 = 64512 from by decide +kernel] at h
    exact h
  case h23 =>
    have h := A.sub 0 0 false 31744 31744 (by decide) (by decide) (by decide) (by decide) (by decide) (by decide +kernel) (by decide) (by decide +kernel) w ft
    simp only [show adB 0 0 31744 31744 (!negF 0 31744) = 32256 from by decide +kernel, show adFl 0 0 false 31744 31744 (!negF 0 31744) = 1 from by decide +kernel, show hiOf 31744 = 0 from by decide +kernel, show hiOf 32256 = 0 from by decide +kernel, show loOf 31744 = 31744 from by decide +kernel, show loOf 32256 = 32256 from by decide +kernel] at h
    exact h
  case h26 =>
    have h := A.sub 0 0 false 15360 31745 (by decide) (by decide) (by decide) (by decide) (by decide) (by decide +kernel) (by decide) (by decide +kernel) w ft
    simp only [show adB 0 0 15360 31745 (!negF 0 31745) = 32257 from by decide +kernel, show adFl 0 0 false 15360 31745 (!negF 0 31745) = 1 from by decide +kernel, show hiOf 15360 = 0 from by decide +kernel, show hiOf 31745 = 0 from by decide +kernel, show hiOf 32257 = 0 from by decide +kernel, show loOf 15360 = 15360 from by decide +kernel, show loOf 31745 = 31745 from by decide +kernel, show loOf 32257 = 32257 from by decide +kernel] at h
    exact h
  case h29 =>
    have h := A.sub 0 0 false 65029 32257 (by decide) (by decide) (by decide) (by decide) (by decide) (by decide +kernel) (by decide) (by decide +kernel) w ft
    simp only [show adB 0 0 65029 32257 (!negF 0 32257) = 65029 from by decide +kernel, show adFl 0 0 false 65029 32257 (!negF 0 32257) = 0 from by decide +kernel, show hiOf 65029 = 0 from by decide +kernel, show hiOf 32257 = 0 from by decide +kernel, show loOf 65029 = 65029 from by decide +kernel, show loOf 32257 = 32257 from by decide +kernel] at h
    exact h
  case h32 =>
    have h := A.add 0 0 false 1 33792 (by decide) (by decide) (by decide) (by decide) (by decide) (by decide +kernel) (by decide) (by decide +kernel) w ft
    simp only [show adB 0 0 1 33792 (negF 0 33792) = 33791 from by decide +kernel, show adFl 0 0 false 1 33792 (negF 0 33792) = 0 from by decide +kernel, show hiOf 1 = 0 from by decide +kernel, show hiOf 33792 = 0 from by decide +kernel, show hiOf 33791 = 0 from by decide +kernel, show loOf 1 = 1 from by decide +kernel, show loOf 33792 = 33792 from by decide +kernel, show loOf 33791 = 33791 from by decide +kernel] at h
    exact h
  case h35 =>
    have h := A.add 0 5 false 15360 15360 (by decide) (by decide) (by decide) (by decide) (by decide) (by decide +kernel) (by decide) (by decide +kernel) w ft
    simp only [show adB 0 5 15360 15360 (negF 0 15360) = 0 from by decide +kernel, show adFl 0 5 false 15360 15360 (negF 0 15360) = 0 from by decide +kernel, show hiOf 15360 = 0 from by decide +kernel, show hiOf 0 = 0 from by decide +kernel, show loOf 15360 = 15360 from by decide +kernel, show loOf 0 = 0 from by decide +kernel] at h
    exact h
  case h38 =>
    have h := A.add 4 0 false 15360 15360 (by decide) (by decide) (by decide) (by decide) (by decide) (by decide +kernel) (by decide) (by decide +kernel) w ft
    simp only [show adB 4 0 15360 15360 (negF 4 15360) = 0 from by decide +kernel, show adFl 4 0 false 15360 15360 (negF 4 15360) = 0 from by decide +kernel, show hiOf 15360 = 0 from by decide +kernel, show hiOf 0 = 0 from by decide +kernel, show loOf 15360 = 15360 from by decide +kernel, show loOf 0 = 0 from by decide +kernel] at h
    exact h
  case h41 =>
    have h := A.add 0 0 false 26624 15360 (by decide) (by decide) (by decide) (by decide) (by decide) (by decide +kernel) (by decide) (by decide +kernel) w ft
    simp only [show adB 0 0 26624 15360 (negF 0 15360) = 26624 from by decide +kernel, show adFl 0 0 false 26624 15360 (negF 0 15360) = 16 from by decide +kernel, show hiOf 26624 = 0 from by decide +kernel, show hiOf 15360 = 0 from by decide +kernel, show loOf 26624 = 26624 from by decide +kernel, show loOf 15360 = 15360 from by decide +kernel] at h
    exact h
  case h44 =>
    have h := A.add 0 0 false 26625 15360 (by decide) (by decide) (by decide) (by decide) (by decide) (by decide +kernel) (by decide) (by decide +kernel) w ft
    simp only [show adB 0 0 26625 15360 (negF 0 15360) = 26626 from by decide +kernel, show adFl 0 0 false 26625 15360 (negF 0 15360) = 16 from by decide +kernel, show hiOf 26625 = 0 from by decide +kernel, show hiOf 15360 = 0 from by decide +kernel, show hiOf 26626 = 0 from by decide +kernel, show loOf 26625 = 26625 from by decide +kernel, show loOf 15360 = 15360 from by decide +kernel, show loOf 26626 = 26626 from by decide +kernel] at h
    exact h
  case h46 =>
    have h := A.turn 0 32261 (by decide) (by decide) (by decide) (by decide +kernel) w ft
    simp only [show turnF 0 32261 = 65029 from by decide +kernel, show hiOf 32261 = 0 from by decide +kernel, show hiOf 65029 = 0 from by decide +kernel, show loOf 32261 = 32261 from by decide +kernel, show loOf 65029 = 65029 from by decide +kernel] at h
    exact h
  case h49 =>
    have h := A.turn 4 1 (by decide) (by decide) (by decide) (by decide +kernel) w ft
    simp only [show turnF 4 1 = 0 from by decide +kernel, show hiOf 1 = 0 from by decide +kernel, show hiOf 0 = 0 from by decide +kernel, show loOf 1 = 1 from by decide +kernel, show loOf 0 = 0 from by decide +kernel] at h
    exact h
  case h50 =>
    have h := A.nought 0 false true true (by decide) (by decide) w
    rw [show noM 0 true true = true from by decide +kernel] at h
    exact h
  case h51 =>
    have h := A.nought 0 false true false (by decide) (by decide) w
    rw [show noM 0 true false = false from by decide +kernel] at h
    exact h
  case h52 => exact goes18_any A w ft


end Go.Proofs.YtnaamckhignjeaaGreatDoor
