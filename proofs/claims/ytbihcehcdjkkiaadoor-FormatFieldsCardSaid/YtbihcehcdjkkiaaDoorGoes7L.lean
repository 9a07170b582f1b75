/-
  The example of stage 7.
-/
import Derived.Test.YtbihcehcdjkkiaaDoorGoes7
import Derived.Test.YtbihcehcdjkkiaaDoorForm7P
set_option linter.unusedVariables false
set_option linter.unusedSimpArgs false
set_option maxRecDepth 100000
namespace Go.Proofs.YtbihcehcdjkkiaaDoor
open Go.RowKit
attribute [local go_sem ↓] Go.wp_at_zero Go.wp_at_succ

theorem ex7 {P Q : Ending → World → Prop} {f : FuncId} {a : Array Value} {w : World} (h : Calls Tryd.prog f a w P) (e : P = Q) : Calls Tryd.prog f a w Q := e ▸ h
theorem goes7_any (C : FormOK) (w : World) (ft : FTab w) : Calls Tryd.prog 27 #[] w fun e w' => e = .returned (.bool true) ∧ Below w.heap.size w w' := by
  refine goes7_core (Lib.hid fun w ft => ?h0) (Lib.hid fun w ft => ?h1) (Lib.hid fun w ft => ?h2) (Lib.hid fun w ft => ?h3) (Lib.hid fun w ft => ?h4) w ft
  case h0 =>
    have h := C.split 0 15361 (by decide) (by decide) w ft
    rw [show (15361 : Int) % full = 15361 from by decide +kernel, show negF 0 15361 = false from by decide +kernel, show expF 0 15361 = 15 from by decide +kernel, show fracF 0 15361 = 1 from by decide +kernel] at h
    exact h
  case h1 =>
    have h := C.inf 1 true (by decide) (by decide) w ft
    rw [show infF 1 true = 4286578688 from by decide +kernel] at h
    exact h
  case h2 =>
    have h := C.max 0 false (by decide) (by decide) w ft
    rw [show maxF 0 false = 31743 from by decide +kernel] at h
    exact h
  case h3 =>
    have h := C.cut 0 131071 (by decide) (by decide) w ft
    rw [show (131071 : Int) % full = 131071 from by decide +kernel, show cutF 0 131071 = 65535 from by decide +kernel] at h
    exact h
  case h4 => exact C.prec 3 (by decide) (by decide) w ft


end Go.Proofs.YtbihcehcdjkkiaaDoor
