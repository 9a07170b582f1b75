/-
  PayloadKnown.
-/
import Derived.Test.YthnikhhgnogibaaDoorKnown11
import Derived.Test.YthnikhhgnogibaaDoorGoes11L
set_option linter.unusedVariables false
set_option linter.unusedSimpArgs false
set_option maxRecDepth 100000
namespace Go.Proofs.YthnikhhgnogibaaDoor
open Go.RowKit
attribute [local go_sem ↓] Go.wp_at_zero Go.wp_at_succ

theorem known11_law (Y : PayOK) (w : World) (ft : FTab w) : Calls Tryd.prog 7 #[] w fun e w' => e = .returned (.bool true) ∧ Below w.heap.size w w' := by
  refine known11_core (Lib.hid fun w ft => ?h0) (Lib.hid fun w ft => ?h1) (Lib.hid fun w ft => ?h2) (Lib.hid fun w ft => ?h3) (Lib.hid fun w ft => ?h4) (Lib.hid (goes11_any Y)) w ft
  case h0 =>
    have h := Y.move 1 0 2143297536 (by decide) (by decide) (by decide) (by decide) w ft
    rw [show moveV 1 0 (2143297536 % full) = 32257 from by decide +kernel, show moveS 1 0 (2143297536 % full) = 0 from by decide +kernel, show moveK 1 0 (2143297536 % full) = true from by decide +kernel] at h
    exact h
  case h1 =>
    have h := Y.move 2 3 18442240474082181121 (by decide) (by decide) (by decide) (by decide) w ft
    rw [show moveV 2 3 (18442240474082181121 % full) = 340279770772509196050713263688210448384 from by decide +kernel, show moveS 2 3 (18442240474082181121 % full) = 1 from by decide +kernel, show moveK 2 3 (18442240474082181121 % full) = true from by decide +kernel] at h
    exact h
  case h2 =>
    have h := Y.move 3 0 170141183460469231731687303715884105727 (by decide) (by decide) (by decide) (by decide) w ft
    rw [show moveV 3 0 (170141183460469231731687303715884105727 % full) = 32767 from by decide +kernel, show moveS 3 0 (170141183460469231731687303715884105727 % full) = 0 from by decide +kernel, show moveK 3 0 (170141183460469231731687303715884105727 % full) = true from by decide +kernel] at h
    exact h
  case h3 =>
    have h := Y.move 4 0 32256 (by decide) (by decide) (by decide) (by decide) w ft
    rw [show moveV 4 0 (32256 % full) = 0 from by decide +kernel, show moveS 4 0 (32256 % full) = 0 from by decide +kernel, show moveK 4 0 (32256 % full) = false from by decide +kernel] at h
    exact h
  case h4 =>
    have h := Y.move 0 4 32256 (by decide) (by decide) (by decide) (by decide) w ft
    rw [show moveV 0 4 (32256 % full) = 0 from by decide +kernel, show moveS 0 4 (32256 % full) = 0 from by decide +kernel, show moveK 0 4 (32256 % full) = false from by decide +kernel] at h
    exact h


end Go.Proofs.YthnikhhgnogibaaDoor
