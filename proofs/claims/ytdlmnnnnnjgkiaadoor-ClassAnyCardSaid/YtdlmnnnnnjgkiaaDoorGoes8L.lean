/-
  The example of stage 8.
-/
import Derived.Test.YtdlmnnnnnjgkiaaDoorGoes8
import Derived.Test.YtdlmnnnnnjgkiaaDoorCls8P
set_option linter.unusedVariables false
set_option linter.unusedSimpArgs false
set_option maxRecDepth 100000
namespace Go.Proofs.YtdlmnnnnnjgkiaaDoor
open Go.RowKit
attribute [local go_sem ↓] Go.wp_at_zero Go.wp_at_succ

theorem goes8_any (C : ClassOK) (w : World) (ft : FTab w) : Calls Tryd.prog 16 #[] w fun e w' => e = .returned (.bool true) ∧ Below w.heap.size w w' := by
  refine goes8_core (Lib.hid fun w ft => ?h0) (Lib.hid fun w ft => ?h1) (Lib.hid fun w ft => ?h2) (Lib.hid fun w ft => ?h3) (Lib.hid fun w ft => ?h4) w ft
  case h0 =>
    have h := C.of 0 32768 (by decide) (by decide) w ft
    rw [show clsF 0 (32768 % full) = 0 from by decide +kernel, show negF 0 (32768 % full) = true from by decide +kernel] at h
    exact h
  case h1 =>
    have h := C.of 0 1 (by decide) (by decide) w ft
    rw [show clsF 0 (1 % full) = 1 from by decide +kernel, show negF 0 (1 % full) = false from by decide +kernel] at h
    exact h
  case h2 =>
    have h := C.of 0 31745 (by decide) (by decide) w ft
    rw [show clsF 0 (31745 % full) = 5 from by decide +kernel, show negF 0 (31745 % full) = false from by decide +kernel] at h
    exact h
  case h3 =>
    have h := C.nan 0 32256 (by decide) (by decide) w ft
    rw [show nanF 0 (32256 % full) = true from by decide +kernel] at h
    exact h
  case h4 =>
    have h := C.fin 0 15360 (by decide) (by decide) w ft
    rw [show finF 0 (15360 % full) = true from by decide +kernel] at h
    exact h


end Go.Proofs.YtdlmnnnnnjgkiaaDoor
