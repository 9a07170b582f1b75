/-
  The example of stage 9.
-/
import Derived.Test.YtelfjbdpmiopdaaDoorGoes9
import Derived.Test.YtelfjbdpmiopdaaDoorFld9P
set_option linter.unusedVariables false
set_option linter.unusedSimpArgs false
set_option maxRecDepth 100000
namespace Go.Proofs.YtelfjbdpmiopdaaDoor
open Go.RowKit
attribute [local go_sem ↓] Go.wp_at_zero Go.wp_at_succ

theorem goes9_any (C : FldOK) (w : World) (ft : FTab w) : Calls Tryd.prog 12 #[] w fun e w' => e = .returned (.bool true) ∧ Below w.heap.size w w' := by
  refine goes9_core (Lib.hid fun w ft => ?h0) (Lib.hid fun w ft => ?h1) (Lib.hid fun w ft => ?h2) (Lib.hid fun w ft => ?h3) w ft
  case h0 =>
    have h := C.unpack 0 15360 (by decide) (by decide) w ft
    rw [show negF 0 (15360 % full) = false from by decide +kernel, show clsF 0 (15360 % full) = 2 from by decide +kernel, show uE 0 (15360 % full) = 0 from by decide +kernel, show uS 0 (15360 % full) = 170141183460469231731687303715884105728 from by decide +kernel] at h
    exact h
  case h1 =>
    have h := C.unpack 0 1 (by decide) (by decide) w ft
    rw [show negF 0 (1 % full) = false from by decide +kernel, show clsF 0 (1 % full) = 1 from by decide +kernel, show uE 0 (1 % full) = -24 from by decide +kernel, show uS 0 (1 % full) = 170141183460469231731687303715884105728 from by decide +kernel] at h
    exact h
  case h2 =>
    have h := C.packAt 0 false 1 (-24) 170141183460469231731687303715884105728 (by decide) (by decide) (by decide) (by decide) (by decide) (by decide) (by decide) (by decide) w ft
    rw [show packV 0 false 1 (-24) 170141183460469231731687303715884105728 = 1 from by decide +kernel, show packK 0 1 (-24) 170141183460469231731687303715884105728 = true from by decide +kernel] at h
    exact h
  case h3 =>
    have h := C.packAt 0 false 2 0 170141183460469231731687303715884105729 (by decide) (by decide) (by decide) (by decide) (by decide) (by decide) (by decide) (by decide) w ft
    rw [show packV 0 false 2 0 170141183460469231731687303715884105729 = 0 from by decide +kernel, show packK 0 2 0 170141183460469231731687303715884105729 = false from by decide +kernel] at h
    exact h


end Go.Proofs.YtelfjbdpmiopdaaDoor
