/-
  MulKnown.
-/
import Derived.Test.YtjnohbpebdnngaaGreatDoorKnown19
import Derived.Test.YtjnohbpebdnngaaGreatDoorGoes19L
set_option linter.unusedVariables false
set_option linter.unusedSimpArgs false
set_option maxRecDepth 100000
namespace Go.Proofs.YtjnohbpebdnngaaGreatDoor
open Go.RowKit
attribute [local go_sem ↓] Go.wp_at_zero Go.wp_at_succ

theorem known19_law (A : MulOK) (w : World) (ft : FTab w) : Calls Tryz.prog 10 #[] w fun e w' => e = .returned (.bool true) ∧ Below w.heap.size w w' := by
  refine known19_core (Lib.hid fun w => ?h0) (Lib.hid fun w => ?h1) (Lib.hid fun w ft => ?h4) (Lib.hid fun w ft => ?h8) (Lib.hid fun w ft => ?h12) (Lib.hid fun w ft => ?h16) (Lib.hid fun w ft => ?h20) (Lib.hid fun w ft => ?h24) (Lib.hid fun w ft => ?h27) (Lib.hid fun w => ?h28) (Lib.hid fun w => ?h29) (Lib.hid fun w ft => ?h30) w ft
  case h0 =>
    have h := A.term false 2 1 170141183460469231731687303715884105728 false 1 (-30) 255211775190703847597530955573826158592 (by decide) (by decide +kernel) (by decide) (by decide +kernel) w
    simp only [show tmE 2 1 1 (-30) = -28 from by decide +kernel, show wd0 (tmS 2 1 170141183460469231731687303715884105728 255211775190703847597530955573826158592) = 0 from by decide +kernel, show wd1 (tmS 2 1 170141183460469231731687303715884105728 255211775190703847597530955573826158592) = 0 from by decide +kernel, show wd2 (tmS 2 1 170141183460469231731687303715884105728 255211775190703847597530955573826158592) = 0 from by decide +kernel, show wd3 (tmS 2 1 170141183460469231731687303715884105728 255211775190703847597530955573826158592) = 6917529027641081856 from by decide +kernel, show hiOf 170141183460469231731687303715884105728 = 9223372036854775808 from by decide +kernel, show hiOf 255211775190703847597530955573826158592 = 13835058055282163712 from by decide +kernel, show loOf 170141183460469231731687303715884105728 = 0 from by decide +kernel, show loOf 255211775190703847597530955573826158592 = 0 from by decide +kernel] at h
    exact h
  case h1 =>
    have h := A.term false 0 0 0 false 2 (5) 170141183460469231731687303715884105728 (by decide) (by decide +kernel) (by decide) (by decide +kernel) w
    simp only [show tmE 0 2 0 (5) = 0 from by decide +kernel, show wd0 (tmS 0 2 0 170141183460469231731687303715884105728) = 0 from by decide +kernel, show wd1 (tmS 0 2 0 170141183460469231731687303715884105728) = 0 from by decide +kernel, show wd2 (tmS 0 2 0 170141183460469231731687303715884105728) = 0 from by decide +kernel, show wd3 (tmS 0 2 0 170141183460469231731687303715884105728) = 0 from by decide +kernel, show hiOf 0 = 0 from by decide +kernel, show hiOf 170141183460469231731687303715884105728 = 9223372036854775808 from by decide +kernel, show loOf 0 = 0 from by decide +kernel, show loOf 170141183460469231731687303715884105728 = 0 from by decide +kernel] at h
    exact h
  case h4 =>
    have h := A.mul 0 0 false 31743 16384 (by decide) (by decide) (by decide) (by decide) (by decide) (by decide +kernel) (by decide) (by decide +kernel) w ft
    simp only [show mlB 0 0 31743 16384 = 31744 from by decide +kernel, show mlFl 0 0 false 31743 16384 = 20 from by decide +kernel, show hiOf 31743 = 0 from by decide +kernel, show hiOf 16384 = 0 from by decide +kernel, show hiOf 31744 = 0 from by decide +kernel, show loOf 31743 = 31743 from by decide +kernel, show loOf 16384 = 16384 from by decide +kernel, show loOf 31744 = 31744 from by decide +kernel] at h
    exact h
  case h8 =>
    have h := A.mul 0 0 false 64512 31744 (by decide) (by decide) (by decide) (by decide) (by decide) (by decide +kernel) (by decide) (by decide +kernel) w ft
    simp only [show mlB 0 0 64512 31744 = 64512 from by decide +kernel, show mlFl 0 0 false 64512 31744 = 0 from by decide +kernel, show hiOf 64512 = 0 from by decide +kernel, show hiOf 31744 = 0 from by decide +kernel, show loOf 64512 = 64512 from by decide +kernel, show loOf 31744 = 31744 from by decide +kernel] at h
    exact h
  case h12 =>
    have h := A.mul 0 0 false 31744 31745 (by decide) (by decide) (by decide) (by decide) (by decide) (by decide +kernel) (by decide) (by decide +kernel) w ft
    simp only [show mlB 0 0 31744 31745 = 32257 from by decide +kernel, show mlFl 0 0 false 31744 31745 = 1 from by decide +kernel, show hiOf 31744 = 0 from by decide +kernel, show hiOf 31745 = 0 from by decide +kernel, show hiOf 32257 = 0 from by decide +kernel, show loOf 31744 = 31744 from by decide +kernel, show loOf 31745 = 31745 from by decide +kernel, show loOf 32257 = 32257 from by decide +kernel] at h
    exact h
  case h16 =>
    have h := A.mul 0 0 false 15361 15361 (by decide) (by decide) (by decide) (by decide) (by decide) (by decide +kernel) (by decide) (by decide +kernel) w ft
    simp only [show mlB 0 0 15361 15361 = 15362 from by decide +kernel, show mlFl 0 0 false 15361 15361 = 16 from by decide +kernel, show hiOf 15361 = 0 from by decide +kernel, show hiOf 15362 = 0 from by decide +kernel, show loOf 15361 = 15361 from by decide +kernel, show loOf 15362 = 15362 from by decide +kernel] at h
    exact h
  case h20 =>
    have h := A.mul 0 2 false 1 1 (by decide) (by decide) (by decide) (by decide) (by decide) (by decide +kernel) (by decide) (by decide +kernel) w ft
    simp only [show mlB 0 2 1 1 = 1 from by decide +kernel, show mlFl 0 2 false 1 1 = 24 from by decide +kernel, show hiOf 1 = 0 from by decide +kernel, show loOf 1 = 1 from by decide +kernel] at h
    exact h
  case h24 =>
    have h := A.mul 4 0 false 1 1 (by decide) (by decide) (by decide) (by decide) (by decide) (by decide +kernel) (by decide) (by decide +kernel) w ft
    simp only [show mlB 4 0 1 1 = 0 from by decide +kernel, show mlFl 4 0 false 1 1 = 0 from by decide +kernel, show hiOf 1 = 0 from by decide +kernel, show hiOf 0 = 0 from by decide +kernel, show loOf 1 = 1 from by decide +kernel, show loOf 0 = 0 from by decide +kernel] at h
    exact h
  case h27 =>
    have h := A.mul 0 6 false 1 1 (by decide) (by decide) (by decide) (by decide) (by decide) (by decide +kernel) (by decide) (by decide +kernel) w ft
    simp only [show mlB 0 6 1 1 = 0 from by decide +kernel, show mlFl 0 6 false 1 1 = 0 from by decide +kernel, show hiOf 1 = 0 from by decide +kernel, show hiOf 0 = 0 from by decide +kernel, show loOf 1 = 1 from by decide +kernel, show loOf 0 = 0 from by decide +kernel] at h
    exact h
  case h28 =>
    have h := A.bad false 0 0 0 0 false 3 0 0 0 w
    rw [show badC 0 3 = true from by decide +kernel] at h
    exact h
  case h29 =>
    have h := A.bad false 0 0 0 0 false 0 0 0 0 w
    rw [show badC 0 0 = false from by decide +kernel] at h
    exact h
  case h30 => exact goes19_any A w ft


end Go.Proofs.YtjnohbpebdnngaaGreatDoor
