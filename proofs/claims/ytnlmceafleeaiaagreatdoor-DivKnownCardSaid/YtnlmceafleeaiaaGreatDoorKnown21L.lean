import Derived.Test.YtnlmceafleeaiaaGreatDoorKnown21
import Derived.Test.YtnlmceafleeaiaaGreatDoorGoes21L
import Derived.Test.YtnlmceafleeaiaaGreatDoorRest0
set_option linter.unusedVariables false
set_option linter.unusedSimpArgs false
set_option maxRecDepth 100000
namespace Go.Proofs.YtnlmceafleeaiaaGreatDoor
open Go.RowKit
attribute [local go_sem ↓] Go.wp_at_zero Go.wp_at_succ
theorem known21_law (A : DivOK) (w : World) (ft : FTab w) : Calls Tryz.prog 9 #[] w fun e w' => e = .returned (.bool true) ∧ Below w.heap.size w w' := by
  refine known21_core (lH fun w ft => ?h2) (lH fun w ft => ?h6) (lH fun w ft => ?h10) (lH fun w ft => ?h14) (lH fun w ft => ?h17) (lH fun w ft => ?h21) (lH fun w ft => ?h25) (lH fun w ft => ?h27) (lH fun w ft => ?h30) (lH fun w ft => ?h31) w ft
  case h2 =>
    have h := A.div 0 2 false 15360 16896 (by decide) (by decide) (by decide) (by decide) (by decide) (by decide +kernel) (by decide) (by decide +kernel) w ft
    simp only [show dvB 0 2 15360 16896 = 13654 from by decide +kernel, show dvFl 0 2 false 15360 16896 = 16 from by decide +kernel, show hiOf 15360 = 0 from by decide +kernel, show hiOf 16896 = 0 from by decide +kernel, show hiOf 13654 = 0 from by decide +kernel, show loOf 15360 = 15360 from by decide +kernel, show loOf 16896 = 16896 from by decide +kernel, show loOf 13654 = 13654 from by decide +kernel] at h
    exact h
  case h6 =>
    have h := A.div 0 0 false 15360 64512 (by decide) (by decide) (by decide) (by decide) (by decide) (by decide +kernel) (by decide) (by decide +kernel) w ft
    simp only [show dvB 0 0 15360 64512 = 32768 from by decide +kernel, show dvFl 0 0 false 15360 64512 = 0 from by decide +kernel, show hiOf 15360 = 0 from by decide +kernel, show hiOf 64512 = 0 from by decide +kernel, show hiOf 32768 = 0 from by decide +kernel, show loOf 15360 = 15360 from by decide +kernel, show loOf 64512 = 64512 from by decide +kernel, show loOf 32768 = 32768 from by decide +kernel] at h
    exact h
  case h10 =>
    have h := A.div 0 0 false 31743 14336 (by decide) (by decide) (by decide) (by decide) (by decide) (by decide +kernel) (by decide) (by decide +kernel) w ft
    simp only [show dvB 0 0 31743 14336 = 31744 from by decide +kernel, show dvFl 0 0 false 31743 14336 = 20 from by decide +kernel, show hiOf 31743 = 0 from by decide +kernel, show hiOf 14336 = 0 from by decide +kernel, show hiOf 31744 = 0 from by decide +kernel, show loOf 31743 = 31743 from by decide +kernel, show loOf 14336 = 14336 from by decide +kernel, show loOf 31744 = 31744 from by decide +kernel] at h
    exact h
  case h14 =>
    have h := A.div 0 0 false 1 16896 (by decide) (by decide) (by decide) (by decide) (by decide) (by decide +kernel) (by decide) (by decide +kernel) w ft
    simp only [show dvB 0 0 1 16896 = 0 from by decide +kernel, show dvFl 0 0 false 1 16896 = 24 from by decide +kernel, show hiOf 1 = 0 from by decide +kernel, show hiOf 16896 = 0 from by decide +kernel, show hiOf 0 = 0 from by decide +kernel, show loOf 1 = 1 from by decide +kernel, show loOf 16896 = 16896 from by decide +kernel, show loOf 0 = 0 from by decide +kernel] at h
    exact h
  case h17 =>
    have h := A.div 0 2 false 1 16896 (by decide) (by decide) (by decide) (by decide) (by decide) (by decide +kernel) (by decide) (by decide +kernel) w ft
    simp only [show dvB 0 2 1 16896 = 1 from by decide +kernel, show dvFl 0 2 false 1 16896 = 24 from by decide +kernel, show hiOf 1 = 0 from by decide +kernel, show hiOf 16896 = 0 from by decide +kernel, show loOf 1 = 1 from by decide +kernel, show loOf 16896 = 16896 from by decide +kernel] at h
    exact h
  case h21 =>
    have h := A.div 0 0 false 31745 0 (by decide) (by decide) (by decide) (by decide) (by decide) (by decide +kernel) (by decide) (by decide +kernel) w ft
    simp only [show dvB 0 0 31745 0 = 32257 from by decide +kernel, show dvFl 0 0 false 31745 0 = 1 from by decide +kernel, show hiOf 31745 = 0 from by decide +kernel, show hiOf 0 = 0 from by decide +kernel, show hiOf 32257 = 0 from by decide +kernel, show loOf 31745 = 31745 from by decide +kernel, show loOf 0 = 0 from by decide +kernel, show loOf 32257 = 32257 from by decide +kernel] at h
    exact h
  case h25 =>
    have h := A.div 0 0 false 0 32261 (by decide) (by decide) (by decide) (by decide) (by decide) (by decide +kernel) (by decide) (by decide +kernel) w ft
    simp only [show dvB 0 0 0 32261 = 32261 from by decide +kernel, show dvFl 0 0 false 0 32261 = 0 from by decide +kernel, show hiOf 0 = 0 from by decide +kernel, show hiOf 32261 = 0 from by decide +kernel, show loOf 0 = 0 from by decide +kernel, show loOf 32261 = 32261 from by decide +kernel] at h
    exact h
  case h27 =>
    have h := A.div 2 0 false 4607182418800017408 4621819117588971520 (by decide) (by decide) (by decide) (by decide) (by decide) (by decide +kernel) (by decide) (by decide +kernel) w ft
    simp only [show dvB 2 0 4607182418800017408 4621819117588971520 = 4591870180066957722 from by decide +kernel, show dvFl 2 0 false 4607182418800017408 4621819117588971520 = 16 from by decide +kernel, show hiOf 4607182418800017408 = 0 from by decide +kernel, show hiOf 4621819117588971520 = 0 from by decide +kernel, show hiOf 4591870180066957722 = 0 from by decide +kernel, show loOf 4607182418800017408 = 4607182418800017408 from by decide +kernel, show loOf 4621819117588971520 = 4621819117588971520 from by decide +kernel, show loOf 4591870180066957722 = 4591870180066957722 from by decide +kernel] at h
    exact h
  case h30 =>
    have h := A.div 4 0 false 1 1 (by decide) (by decide) (by decide) (by decide) (by decide) (by decide +kernel) (by decide) (by decide +kernel) w ft
    simp only [show dvB 4 0 1 1 = 0 from by decide +kernel, show dvFl 4 0 false 1 1 = 0 from by decide +kernel, show hiOf 1 = 0 from by decide +kernel, show hiOf 0 = 0 from by decide +kernel, show loOf 1 = 1 from by decide +kernel, show loOf 0 = 0 from by decide +kernel] at h
    exact h
  case h31 => exact goes21_any A w ft
end Go.Proofs.YtnlmceafleeaiaaGreatDoor
