/-
  The example of stage 11.
-/
import Derived.Test.YthnikhhgnogibaaDoorGoes11
import Derived.Test.YthnikhhgnogibaaDoorPayP
set_option linter.unusedVariables false
set_option linter.unusedSimpArgs false
set_option maxRecDepth 100000
namespace Go.Proofs.YthnikhhgnogibaaDoor
open Go.RowKit
attribute [local go_sem ↓] Go.wp_at_zero Go.wp_at_succ

theorem goes11_any (Y : PayOK) (w : World) (ft : FTab w) : Calls Tryd.prog 10 #[] w fun e w' => e = .returned (.bool true) ∧ Below w.heap.size w w' := by
  refine goes11_core (Lib.hid fun w ft => ?h0) (Lib.hid fun w ft => ?h1) (Lib.hid fun w ft => ?h2) w ft
  case h0 =>
    have h := Y.move 0 1 32257 (by decide) (by decide) (by decide) (by decide) w ft
    rw [show moveV 0 1 (32257 % full) = 2143297536 from by decide +kernel, show moveS 0 1 (32257 % full) = 0 from by decide +kernel, show moveK 0 1 (32257 % full) = true from by decide +kernel] at h
    exact h
  case h1 =>
    have h := Y.move 1 0 4286578689 (by decide) (by decide) (by decide) (by decide) w ft
    rw [show moveV 1 0 (4286578689 % full) = 65024 from by decide +kernel, show moveS 1 0 (4286578689 % full) = 1 from by decide +kernel, show moveK 1 0 (4286578689 % full) = true from by decide +kernel] at h
    exact h
  case h2 =>
    have h := Y.move 0 1 15360 (by decide) (by decide) (by decide) (by decide) w ft
    rw [show moveV 0 1 (15360 % full) = 0 from by decide +kernel, show moveS 0 1 (15360 % full) = 0 from by decide +kernel, show moveK 0 1 (15360 % full) = false from by decide +kernel] at h
    exact h


end Go.Proofs.YthnikhhgnogibaaDoor
