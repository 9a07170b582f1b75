import Derived.Test.YtjdjonekoodalaaGreatDoorKnown23
set_option linter.unusedVariables false
set_option linter.unusedSimpArgs false
set_option maxRecDepth 100000
namespace Go.Proofs.YtjdjonekoodalaaGreatDoor
open Go.RowKit
attribute [local go_sem ↓] Go.wp_at_zero Go.wp_at_succ
theorem known23_law (A : RemOK) (w : World) (ft : FTab w) : Calls Tryz.prog 9 #[] w fun e w' => e = .returned (.bool true) ∧ Below w.heap.size w w' := by
  refine known23_core (lH fun w ft => ?h2) (lH fun w ft => ?h6) (lH fun w ft => ?h10) (lH fun w ft => ?h13) (lH fun w ft => ?h17) (lH fun w ft => ?h21) (lH fun w ft => ?h25) (lH fun w ft => ?h29) (lH fun w ft => ?h31) (lH fun w ft => ?h34) (lH fun w ft => ?h35) w ft
  case h2 =>
    have h := A.rem 0 15360 31744 (by decide) (by decide) (by decide) (by decide +kernel) (by decide) (by decide +kernel) w ft
    simp only [show rmB 0 15360 31744 = 15360 from by decide +kernel, show rmFl 0 15360 31744 = 0 from by decide +kernel, show hiOf 15360 = 0 from by decide +kernel, show hiOf 31744 = 0 from by decide +kernel, show loOf 15360 = 15360 from by decide +kernel, show loOf 31744 = 31744 from by decide +kernel] at h
    exact h
  case h6 =>
    have h := A.rem 0 31744 15360 (by decide) (by decide) (by decide) (by decide +kernel) (by decide) (by decide +kernel) w ft
    simp only [show rmB 0 31744 15360 = 32256 from by decide +kernel, show rmFl 0 31744 15360 = 1 from by decide +kernel, show hiOf 31744 = 0 from by decide +kernel, show hiOf 15360 = 0 from by decide +kernel, show hiOf 32256 = 0 from by decide +kernel, show loOf 31744 = 31744 from by decide +kernel, show loOf 15360 = 15360 from by decide +kernel, show loOf 32256 = 32256 from by decide +kernel] at h
    exact h
  case h10 =>
    have h := A.rem 0 31743 1 (by decide) (by decide) (by decide) (by decide +kernel) (by decide) (by decide +kernel) w ft
    simp only [show rmB 0 31743 1 = 0 from by decide +kernel, show rmFl 0 31743 1 = 0 from by decide +kernel, show hiOf 31743 = 0 from by decide +kernel, show hiOf 1 = 0 from by decide +kernel, show hiOf 0 = 0 from by decide +kernel, show loOf 31743 = 31743 from by decide +kernel, show loOf 1 = 1 from by decide +kernel, show loOf 0 = 0 from by decide +kernel] at h
    exact h
  case h13 =>
    have h := A.rem 0 14336 15360 (by decide) (by decide) (by decide) (by decide +kernel) (by decide) (by decide +kernel) w ft
    simp only [show rmB 0 14336 15360 = 14336 from by decide +kernel, show rmFl 0 14336 15360 = 0 from by decide +kernel, show hiOf 14336 = 0 from by decide +kernel, show hiOf 15360 = 0 from by decide +kernel, show loOf 14336 = 14336 from by decide +kernel, show loOf 15360 = 15360 from by decide +kernel] at h
    exact h
  case h17 =>
    have h := A.rem 0 14337 15360 (by decide) (by decide) (by decide) (by decide +kernel) (by decide) (by decide +kernel) w ft
    simp only [show rmB 0 14337 15360 = 47102 from by decide +kernel, show rmFl 0 14337 15360 = 0 from by decide +kernel, show hiOf 14337 = 0 from by decide +kernel, show hiOf 15360 = 0 from by decide +kernel, show hiOf 47102 = 0 from by decide +kernel, show loOf 14337 = 14337 from by decide +kernel, show loOf 15360 = 15360 from by decide +kernel, show loOf 47102 = 47102 from by decide +kernel] at h
    exact h
  case h21 =>
    have h := A.rem 0 16640 15360 (by decide) (by decide) (by decide) (by decide +kernel) (by decide) (by decide +kernel) w ft
    simp only [show rmB 0 16640 15360 = 14336 from by decide +kernel, show rmFl 0 16640 15360 = 0 from by decide +kernel, show hiOf 16640 = 0 from by decide +kernel, show hiOf 15360 = 0 from by decide +kernel, show hiOf 14336 = 0 from by decide +kernel, show loOf 16640 = 16640 from by decide +kernel, show loOf 15360 = 15360 from by decide +kernel, show loOf 14336 = 14336 from by decide +kernel] at h
    exact h
  case h25 =>
    have h := A.rem 0 32769 15360 (by decide) (by decide) (by decide) (by decide +kernel) (by decide) (by decide +kernel) w ft
    simp only [show rmB 0 32769 15360 = 32769 from by decide +kernel, show rmFl 0 32769 15360 = 0 from by decide +kernel, show hiOf 32769 = 0 from by decide +kernel, show hiOf 15360 = 0 from by decide +kernel, show loOf 32769 = 32769 from by decide +kernel, show loOf 15360 = 15360 from by decide +kernel] at h
    exact h
  case h29 =>
    have h := A.rem 0 31745 0 (by decide) (by decide) (by decide) (by decide +kernel) (by decide) (by decide +kernel) w ft
    simp only [show rmB 0 31745 0 = 32257 from by decide +kernel, show rmFl 0 31745 0 = 1 from by decide +kernel, show hiOf 31745 = 0 from by decide +kernel, show hiOf 0 = 0 from by decide +kernel, show hiOf 32257 = 0 from by decide +kernel, show loOf 31745 = 31745 from by decide +kernel, show loOf 0 = 0 from by decide +kernel, show loOf 32257 = 32257 from by decide +kernel] at h
    exact h
  case h31 =>
    have h := A.rem 1 2130706432 1077936128 (by decide) (by decide) (by decide) (by decide +kernel) (by decide) (by decide +kernel) w ft
    simp only [show rmB 1 2130706432 1077936128 = 3212836864 from by decide +kernel, show rmFl 1 2130706432 1077936128 = 0 from by decide +kernel, show hiOf 2130706432 = 0 from by decide +kernel, show hiOf 1077936128 = 0 from by decide +kernel, show hiOf 3212836864 = 0 from by decide +kernel, show loOf 2130706432 = 2130706432 from by decide +kernel, show loOf 1077936128 = 1077936128 from by decide +kernel, show loOf 3212836864 = 3212836864 from by decide +kernel] at h
    exact h
  case h34 =>
    have h := A.rem 4 1 1 (by decide) (by decide) (by decide) (by decide +kernel) (by decide) (by decide +kernel) w ft
    simp only [show rmB 4 1 1 = 0 from by decide +kernel, show rmFl 4 1 1 = 0 from by decide +kernel, show hiOf 1 = 0 from by decide +kernel, show hiOf 0 = 0 from by decide +kernel, show loOf 1 = 1 from by decide +kernel, show loOf 0 = 0 from by decide +kernel] at h
    exact h
  case h35 => exact goes23_any A w ft
end Go.Proofs.YtjdjonekoodalaaGreatDoor
