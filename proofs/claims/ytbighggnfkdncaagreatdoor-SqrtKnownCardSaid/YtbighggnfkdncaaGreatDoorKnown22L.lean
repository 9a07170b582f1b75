import Derived.Test.YtbighggnfkdncaaGreatDoorKnown22
set_option linter.unusedVariables false
set_option linter.unusedSimpArgs false
set_option maxRecDepth 100000
namespace Go.Proofs.YtbighggnfkdncaaGreatDoor
open Go.RowKit
attribute [local go_sem ↓] Go.wp_at_zero Go.wp_at_succ
theorem known22_law (A : SqrtOK) (w : World) (ft : FTab w) : Calls Tryz.prog 9 #[] w fun e w' => e = .returned (.bool true) ∧ Below w.heap.size w w' := by
  refine known22_core (lH fun w ft => ?h1) (lH fun w ft => ?h4) (lH fun w ft => ?h7) (lH fun w ft => ?h10) (lH fun w ft => ?h13) (lH fun w ft => ?h15) (lH fun w ft => ?h16) (lH fun w ft => ?h18) (lH fun w ft => ?h19) w ft
  case h1 =>
    have h := A.sqrt 0 2 false 16384 (by decide) (by decide) (by decide) (by decide) (by decide) (by decide +kernel) w ft
    simp only [show sqB 0 2 16384 = 15785 from by decide +kernel, show sqFl 0 2 false 16384 = 16 from by decide +kernel, show hiOf 16384 = 0 from by decide +kernel, show hiOf 15785 = 0 from by decide +kernel, show loOf 16384 = 16384 from by decide +kernel, show loOf 15785 = 15785 from by decide +kernel] at h
    exact h
  case h4 =>
    have h := A.sqrt 0 0 false 32768 (by decide) (by decide) (by decide) (by decide) (by decide) (by decide +kernel) w ft
    simp only [show sqB 0 0 32768 = 32768 from by decide +kernel, show sqFl 0 0 false 32768 = 0 from by decide +kernel, show hiOf 32768 = 0 from by decide +kernel, show loOf 32768 = 32768 from by decide +kernel] at h
    exact h
  case h7 =>
    have h := A.sqrt 0 0 false 31744 (by decide) (by decide) (by decide) (by decide) (by decide) (by decide +kernel) w ft
    simp only [show sqB 0 0 31744 = 31744 from by decide +kernel, show sqFl 0 0 false 31744 = 0 from by decide +kernel, show hiOf 31744 = 0 from by decide +kernel, show loOf 31744 = 31744 from by decide +kernel] at h
    exact h
  case h10 =>
    have h := A.sqrt 0 0 false 64512 (by decide) (by decide) (by decide) (by decide) (by decide) (by decide +kernel) w ft
    simp only [show sqB 0 0 64512 = 32256 from by decide +kernel, show sqFl 0 0 false 64512 = 1 from by decide +kernel, show hiOf 64512 = 0 from by decide +kernel, show hiOf 32256 = 0 from by decide +kernel, show loOf 64512 = 64512 from by decide +kernel, show loOf 32256 = 32256 from by decide +kernel] at h
    exact h
  case h13 =>
    have h := A.sqrt 0 0 false 31745 (by decide) (by decide) (by decide) (by decide) (by decide) (by decide +kernel) w ft
    simp only [show sqB 0 0 31745 = 32257 from by decide +kernel, show sqFl 0 0 false 31745 = 1 from by decide +kernel, show hiOf 31745 = 0 from by decide +kernel, show hiOf 32257 = 0 from by decide +kernel, show loOf 31745 = 31745 from by decide +kernel, show loOf 32257 = 32257 from by decide +kernel] at h
    exact h
  case h15 =>
    have h := A.sqrt 2 0 false 4611686018427387904 (by decide) (by decide) (by decide) (by decide) (by decide) (by decide +kernel) w ft
    simp only [show sqB 2 0 4611686018427387904 = 4609047870845172685 from by decide +kernel, show sqFl 2 0 false 4611686018427387904 = 16 from by decide +kernel, show hiOf 4611686018427387904 = 0 from by decide +kernel, show hiOf 4609047870845172685 = 0 from by decide +kernel, show loOf 4611686018427387904 = 4611686018427387904 from by decide +kernel, show loOf 4609047870845172685 = 4609047870845172685 from by decide +kernel] at h
    exact h
  case h16 =>
    have h := A.sqrt 1 0 false 1073741824 (by decide) (by decide) (by decide) (by decide) (by decide) (by decide +kernel) w ft
    simp only [show sqB 1 0 1073741824 = 1068827891 from by decide +kernel, show sqFl 1 0 false 1073741824 = 16 from by decide +kernel, show hiOf 1073741824 = 0 from by decide +kernel, show hiOf 1068827891 = 0 from by decide +kernel, show loOf 1073741824 = 1073741824 from by decide +kernel, show loOf 1068827891 = 1068827891 from by decide +kernel] at h
    exact h
  case h18 =>
    have h := A.sqrt 4 0 false 1 (by decide) (by decide) (by decide) (by decide) (by decide) (by decide +kernel) w ft
    simp only [show sqB 4 0 1 = 0 from by decide +kernel, show sqFl 4 0 false 1 = 0 from by decide +kernel, show hiOf 1 = 0 from by decide +kernel, show hiOf 0 = 0 from by decide +kernel, show loOf 1 = 1 from by decide +kernel, show loOf 0 = 0 from by decide +kernel] at h
    exact h
  case h19 => exact goes22_any A w ft
end Go.Proofs.YtbighggnfkdncaaGreatDoor
