/-
  FieldsKnown.
-/
import Derived.Test.YtelfjbdpmiopdaaDoorKnown9
import Derived.Test.YtelfjbdpmiopdaaDoorGoes9L
set_option linter.unusedVariables false
set_option linter.unusedSimpArgs false
set_option maxRecDepth 100000
namespace Go.Proofs.YtelfjbdpmiopdaaDoor
open Go.RowKit
attribute [local go_sem ↓] Go.wp_at_zero Go.wp_at_succ

theorem known9_law (C : FldOK) (w : World) (ft : FTab w) : Calls Tryd.prog 9 #[] w fun e w' => e = .returned (.bool true) ∧ Below w.heap.size w w' := by
  refine known9_core (Lib.hid fun w ft => ?h0) (Lib.hid fun w ft => ?h1) (Lib.hid fun w ft => ?h2) (Lib.hid fun w ft => ?h3) (Lib.hid fun w ft => ?h4) (Lib.hid fun w ft => ?h5) (Lib.hid fun w ft => ?h6) (Lib.hid fun w ft => ?h7) (Lib.hid fun w ft => ?h8) (Lib.hid fun w ft => ?h9) (Lib.hid fun w ft => ?h10) (Lib.hid fun w ft => ?h11) (Lib.hid fun w ft => ?h12) (Lib.hid (goes9_any C)) w ft
  case h0 =>
    have h := C.packAt 0 false 4 0 0 (by decide) (by decide) (by decide) (by decide) (by decide) (by decide) (by decide) (by decide) w ft
    rw [show packV 0 false 4 0 0 = 0 from by decide +kernel, show packK 0 4 0 0 = false from by decide +kernel] at h
    exact h
  case h1 =>
    have h := C.packAt 0 false 5 0 170141183460469231731687303715884105728 (by decide) (by decide) (by decide) (by decide) (by decide) (by decide) (by decide) (by decide) w ft
    rw [show packV 0 false 5 0 170141183460469231731687303715884105728 = 0 from by decide +kernel, show packK 0 5 0 170141183460469231731687303715884105728 = false from by decide +kernel] at h
    exact h
  case h2 =>
    have h := C.packAt 0 false 2 0 0 (by decide) (by decide) (by decide) (by decide) (by decide) (by decide) (by decide) (by decide) w ft
    rw [show packV 0 false 2 0 0 = 0 from by decide +kernel, show packK 0 2 0 0 = false from by decide +kernel] at h
    exact h
  case h3 =>
    have h := C.packAt 0 false 2 16 170141183460469231731687303715884105728 (by decide) (by decide) (by decide) (by decide) (by decide) (by decide) (by decide) (by decide) w ft
    rw [show packV 0 false 2 16 170141183460469231731687303715884105728 = 0 from by decide +kernel, show packK 0 2 16 170141183460469231731687303715884105728 = false from by decide +kernel] at h
    exact h
  case h4 =>
    have h := C.packAt 0 false 1 (-25) 170141183460469231731687303715884105728 (by decide) (by decide) (by decide) (by decide) (by decide) (by decide) (by decide) (by decide) w ft
    rw [show packV 0 false 1 (-25) 170141183460469231731687303715884105728 = 0 from by decide +kernel, show packK 0 1 (-25) 170141183460469231731687303715884105728 = false from by decide +kernel] at h
    exact h
  case h5 =>
    have h := C.packAt 0 false 1 (-24) 255211775190703847597530955573826158592 (by decide) (by decide) (by decide) (by decide) (by decide) (by decide) (by decide) (by decide) w ft
    rw [show packV 0 false 1 (-24) 255211775190703847597530955573826158592 = 0 from by decide +kernel, show packK 0 1 (-24) 255211775190703847597530955573826158592 = false from by decide +kernel] at h
    exact h
  case h6 =>
    have h := C.packAt 0 false 2 1152921504606846976 170141183460469231731687303715884105728 (by decide) (by decide) (by decide) (by decide) (by decide) (by decide) (by decide) (by decide) w ft
    rw [show packV 0 false 2 1152921504606846976 170141183460469231731687303715884105728 = 0 from by decide +kernel, show packK 0 2 1152921504606846976 170141183460469231731687303715884105728 = false from by decide +kernel] at h
    exact h
  case h7 =>
    have h := C.packAt 0 false 2 (-1152921504606846976) 170141183460469231731687303715884105728 (by decide) (by decide) (by decide) (by decide) (by decide) (by decide) (by decide) (by decide) w ft
    rw [show packV 0 false 2 (-1152921504606846976) 170141183460469231731687303715884105728 = 0 from by decide +kernel, show packK 0 2 (-1152921504606846976) 170141183460469231731687303715884105728 = false from by decide +kernel] at h
    exact h
  case h8 =>
    have h := C.packAt 0 true 1 15 340116213421465348979261631549233168384 (by decide) (by decide) (by decide) (by decide) (by decide) (by decide) (by decide) (by decide) w ft
    rw [show packV 0 true 1 15 340116213421465348979261631549233168384 = 64511 from by decide +kernel, show packK 0 1 15 340116213421465348979261631549233168384 = true from by decide +kernel] at h
    exact h
  case h9 =>
    have h := C.packAt 3 false 2 (-16494) 170141183460469231731687303715884105728 (by decide) (by decide) (by decide) (by decide) (by decide) (by decide) (by decide) (by decide) w ft
    rw [show packV 3 false 2 (-16494) 170141183460469231731687303715884105728 = 1 from by decide +kernel, show packK 3 2 (-16494) 170141183460469231731687303715884105728 = true from by decide +kernel] at h
    exact h
  case h10 =>
    have h := C.packAt 4 false 0 0 0 (by decide) (by decide) (by decide) (by decide) (by decide) (by decide) (by decide) (by decide) w ft
    rw [show packV 4 false 0 0 0 = 0 from by decide +kernel, show packK 4 0 0 0 = false from by decide +kernel] at h
    exact h
  case h11 =>
    have h := C.packAt 1 true 0 5 0 (by decide) (by decide) (by decide) (by decide) (by decide) (by decide) (by decide) (by decide) w ft
    rw [show packV 1 true 0 5 0 = 2147483648 from by decide +kernel, show packK 1 0 5 0 = true from by decide +kernel] at h
    exact h
  case h12 =>
    have h := C.unpack 4 7 (by decide) (by decide) w ft
    rw [show negF 4 (7 % full) = false from by decide +kernel, show clsF 4 (7 % full) = 0 from by decide +kernel, show uE 4 (7 % full) = 0 from by decide +kernel, show uS 4 (7 % full) = 0 from by decide +kernel] at h
    exact h


end Go.Proofs.YtelfjbdpmiopdaaDoor
