import Derived.Test.YtdcdbcccchadfaaGreatDoorKnown20
import Derived.Test.YtdcdbcccchadfaaGreatDoorGuA
import Derived.Test.YtdcdbcccchadfaaGreatDoorRest0
set_option linter.unusedVariables false
set_option linter.unusedSimpArgs false
set_option maxRecDepth 100000
namespace Go.Proofs.YtdcdbcccchadfaaGreatDoor
open Go.RowKit
attribute [local go_sem ↓] Go.wp_at_zero Go.wp_at_succ
theorem known20_law (A : FmaOK) (w : World) (ft : FTab w) : Calls Tryz.prog 9 #[] w fun e w' => e = .returned (.bool true) ∧ Below w.heap.size w w' := by
  refine known20_core (lH fun w ft => ?h3) (lH fun w ft => ?h7) (lH fun w ft => ?h11) (lH fun w ft => ?h15) (lH fun w ft => ?h19) (lH fun w ft => ?h23) (lH fun w ft => ?h27) (lH fun w ft => ?h31) (lH fun w ft => ?h35) (lH fun w ft => ?h39) (lH fun w ft => ?h43) (lH fun w ft => ?h47) (lH fun w ft => ?h51) (lH fun w ft => ?h52) w ft
  case h3 =>
    have h := A.fma 0 0 false 16384 15360 49152 (by decide) (by decide) (by decide) (by decide) (by decide) (by decide +kernel) (by decide) (by decide +kernel) (by decide) (by decide +kernel) w ft
    simp only [show fmB 0 0 16384 15360 49152 = 0 from by decide +kernel, show fmFl 0 0 false 16384 15360 49152 = 0 from by decide +kernel, show hiOf 16384 = 0 from by decide +kernel, show hiOf 15360 = 0 from by decide +kernel, show hiOf 49152 = 0 from by decide +kernel, show hiOf 0 = 0 from by decide +kernel, show loOf 16384 = 16384 from by decide +kernel, show loOf 15360 = 15360 from by decide +kernel, show loOf 49152 = 49152 from by decide +kernel, show loOf 0 = 0 from by decide +kernel] at h
    exact h
  case h7 =>
    have h := A.fma 0 3 false 16384 15360 49152 (by decide) (by decide) (by decide) (by decide) (by decide) (by decide +kernel) (by decide) (by decide +kernel) (by decide) (by decide +kernel) w ft
    simp only [show fmB 0 3 16384 15360 49152 = 32768 from by decide +kernel, show fmFl 0 3 false 16384 15360 49152 = 0 from by decide +kernel, show hiOf 16384 = 0 from by decide +kernel, show hiOf 15360 = 0 from by decide +kernel, show hiOf 49152 = 0 from by decide +kernel, show hiOf 32768 = 0 from by decide +kernel, show loOf 16384 = 16384 from by decide +kernel, show loOf 15360 = 15360 from by decide +kernel, show loOf 49152 = 49152 from by decide +kernel, show loOf 32768 = 32768 from by decide +kernel] at h
    exact h
  case h11 =>
    have h := A.fma 0 0 false 32768 15360 32768 (by decide) (by decide) (by decide) (by decide) (by decide) (by decide +kernel) (by decide) (by decide +kernel) (by decide) (by decide +kernel) w ft
    simp only [show fmB 0 0 32768 15360 32768 = 32768 from by decide +kernel, show fmFl 0 0 false 32768 15360 32768 = 0 from by decide +kernel, show hiOf 32768 = 0 from by decide +kernel, show hiOf 15360 = 0 from by decide +kernel, show loOf 32768 = 32768 from by decide +kernel, show loOf 15360 = 15360 from by decide +kernel] at h
    exact h
  case h15 =>
    have h := A.fma 0 0 false 31744 15360 31744 (by decide) (by decide) (by decide) (by decide) (by decide) (by decide +kernel) (by decide) (by decide +kernel) (by decide) (by decide +kernel) w ft
    simp only [show fmB 0 0 31744 15360 31744 = 31744 from by decide +kernel, show fmFl 0 0 false 31744 15360 31744 = 0 from by decide +kernel, show hiOf 31744 = 0 from by decide +kernel, show hiOf 15360 = 0 from by decide +kernel, show loOf 31744 = 31744 from by decide +kernel, show loOf 15360 = 15360 from by decide +kernel] at h
    exact h
  case h19 =>
    have h := A.fma 0 0 false 15360 15360 64512 (by decide) (by decide) (by decide) (by decide) (by decide) (by decide +kernel) (by decide) (by decide +kernel) (by decide) (by decide +kernel) w ft
    simp only [show fmB 0 0 15360 15360 64512 = 64512 from by decide +kernel, show fmFl 0 0 false 15360 15360 64512 = 0 from by decide +kernel, show hiOf 15360 = 0 from by decide +kernel, show hiOf 64512 = 0 from by decide +kernel, show loOf 15360 = 15360 from by decide +kernel, show loOf 64512 = 64512 from by decide +kernel] at h
    exact h
  case h23 =>
    have h := A.fma 0 0 false 31743 16384 64511 (by decide) (by decide) (by decide) (by decide) (by decide) (by decide +kernel) (by decide) (by decide +kernel) (by decide) (by decide +kernel) w ft
    simp only [show fmB 0 0 31743 16384 64511 = 31743 from by decide +kernel, show fmFl 0 0 false 31743 16384 64511 = 0 from by decide +kernel, show hiOf 31743 = 0 from by decide +kernel, show hiOf 16384 = 0 from by decide +kernel, show hiOf 64511 = 0 from by decide +kernel, show loOf 31743 = 31743 from by decide +kernel, show loOf 16384 = 16384 from by decide +kernel, show loOf 64511 = 64511 from by decide +kernel] at h
    exact h
  case h27 =>
    have h := A.fma 0 0 false 1 1 1 (by decide) (by decide) (by decide) (by decide) (by decide) (by decide +kernel) (by decide) (by decide +kernel) (by decide) (by decide +kernel) w ft
    simp only [show fmB 0 0 1 1 1 = 1 from by decide +kernel, show fmFl 0 0 false 1 1 1 = 24 from by decide +kernel, show hiOf 1 = 0 from by decide +kernel, show loOf 1 = 1 from by decide +kernel] at h
    exact h
  case h31 =>
    have h := A.fma 0 2 false 1 1 1 (by decide) (by decide) (by decide) (by decide) (by decide) (by decide +kernel) (by decide) (by decide +kernel) (by decide) (by decide +kernel) w ft
    simp only [show fmB 0 2 1 1 1 = 2 from by decide +kernel, show fmFl 0 2 false 1 1 1 = 24 from by decide +kernel, show hiOf 1 = 0 from by decide +kernel, show hiOf 2 = 0 from by decide +kernel, show loOf 1 = 1 from by decide +kernel, show loOf 2 = 2 from by decide +kernel] at h
    exact h
  case h35 =>
    have h := A.fma 0 0 false 31745 32258 32259 (by decide) (by decide) (by decide) (by decide) (by decide) (by decide +kernel) (by decide) (by decide +kernel) (by decide) (by decide +kernel) w ft
    simp only [show fmB 0 0 31745 32258 32259 = 32257 from by decide +kernel, show fmFl 0 0 false 31745 32258 32259 = 1 from by decide +kernel, show hiOf 31745 = 0 from by decide +kernel, show hiOf 32258 = 0 from by decide +kernel, show hiOf 32259 = 0 from by decide +kernel, show hiOf 32257 = 0 from by decide +kernel, show loOf 31745 = 31745 from by decide +kernel, show loOf 32258 = 32258 from by decide +kernel, show loOf 32259 = 32259 from by decide +kernel, show loOf 32257 = 32257 from by decide +kernel] at h
    exact h
  case h39 =>
    have h := A.fma 0 0 false 15360 32258 31747 (by decide) (by decide) (by decide) (by decide) (by decide) (by decide +kernel) (by decide) (by decide +kernel) (by decide) (by decide +kernel) w ft
    simp only [show fmB 0 0 15360 32258 31747 = 32258 from by decide +kernel, show fmFl 0 0 false 15360 32258 31747 = 1 from by decide +kernel, show hiOf 15360 = 0 from by decide +kernel, show hiOf 32258 = 0 from by decide +kernel, show hiOf 31747 = 0 from by decide +kernel, show loOf 15360 = 15360 from by decide +kernel, show loOf 32258 = 32258 from by decide +kernel, show loOf 31747 = 31747 from by decide +kernel] at h
    exact h
  case h43 =>
    have h := A.fma 0 0 false 1 1 15360 (by decide) (by decide) (by decide) (by decide) (by decide) (by decide +kernel) (by decide) (by decide +kernel) (by decide) (by decide +kernel) w ft
    simp only [show fmB 0 0 1 1 15360 = 15360 from by decide +kernel, show fmFl 0 0 false 1 1 15360 = 16 from by decide +kernel, show hiOf 1 = 0 from by decide +kernel, show hiOf 15360 = 0 from by decide +kernel, show loOf 1 = 1 from by decide +kernel, show loOf 15360 = 15360 from by decide +kernel] at h
    exact h
  case h47 =>
    have h := A.fma 0 3 false 32769 1 15360 (by decide) (by decide) (by decide) (by decide) (by decide) (by decide +kernel) (by decide) (by decide +kernel) (by decide) (by decide +kernel) w ft
    simp only [show fmB 0 3 32769 1 15360 = 15359 from by decide +kernel, show fmFl 0 3 false 32769 1 15360 = 16 from by decide +kernel, show hiOf 32769 = 0 from by decide +kernel, show hiOf 1 = 0 from by decide +kernel, show hiOf 15360 = 0 from by decide +kernel, show hiOf 15359 = 0 from by decide +kernel, show loOf 32769 = 32769 from by decide +kernel, show loOf 1 = 1 from by decide +kernel, show loOf 15360 = 15360 from by decide +kernel, show loOf 15359 = 15359 from by decide +kernel] at h
    exact h
  case h51 =>
    have h := A.fma 4 0 false 1 1 1 (by decide) (by decide) (by decide) (by decide) (by decide) (by decide +kernel) (by decide) (by decide +kernel) (by decide) (by decide +kernel) w ft
    simp only [show fmB 4 0 1 1 1 = 0 from by decide +kernel, show fmFl 4 0 false 1 1 1 = 0 from by decide +kernel, show hiOf 1 = 0 from by decide +kernel, show hiOf 0 = 0 from by decide +kernel, show loOf 1 = 1 from by decide +kernel, show loOf 0 = 0 from by decide +kernel] at h
    exact h
  case h52 => exact goes20_any A w ft
end Go.Proofs.YtdcdbcccchadfaaGreatDoor
