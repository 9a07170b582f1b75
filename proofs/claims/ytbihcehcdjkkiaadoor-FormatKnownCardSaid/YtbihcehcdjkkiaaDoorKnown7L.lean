/-
  FormatKnown.
-/
import Derived.Test.YtbihcehcdjkkiaaDoorKnown7
import Derived.Test.YtbihcehcdjkkiaaDoorGoes7L
set_option linter.unusedVariables false
set_option linter.unusedSimpArgs false
set_option maxRecDepth 100000
namespace Go.Proofs.YtbihcehcdjkkiaaDoor
open Go.RowKit
attribute [local go_sem ↓] Go.wp_at_zero Go.wp_at_succ

theorem known7_law (C : FormOK) (w : World) (ft : FTab w) : Calls Tryd.prog 9 #[] w fun e w' => e = .returned (.bool true) ∧ Below w.heap.size w w' := by
  refine known7_core (Lib.hid fun w ft => ?h0) (Lib.hid fun w ft => ?h1) (Lib.hid fun w ft => ?h2) (Lib.hid fun w ft => ?h3) (Lib.hid fun w ft => ?h4) (Lib.hid fun w ft => ?h5) (Lib.hid fun w ft => ?h6) (Lib.hid fun w ft => ?h7) (Lib.hid fun w ft => ?h8) (Lib.hid (goes7_any C)) w ft
  case h0 =>
    have h := C.split 3 255206582893845312769902425077496938501 (by decide) (by decide) w ft
    rw [show (255206582893845312769902425077496938501 : Int) % full = 255206582893845312769902425077496938501 from by decide +kernel, show hiOf 255206582893845312769902425077496938501 = 13834776580305453056 from by decide +kernel, show loOf 255206582893845312769902425077496938501 = 5 from by decide +kernel, show negF 3 255206582893845312769902425077496938501 = true from by decide +kernel, show expF 3 255206582893845312769902425077496938501 = 16383 from by decide +kernel, show fracF 3 255206582893845312769902425077496938501 = 5 from by decide +kernel] at h
    exact h
  case h1 =>
    have h := C.fits 0 131071 (by decide) (by decide) w ft
    rw [show (131071 : Int) % full = 131071 from by decide +kernel, show (decide ((0 : Int) < 4) && cutF 0 131071 == 131071) = false from by decide +kernel] at h
    exact h
  case h2 => exact C.width 4 (by decide) (by decide) w ft
  case h3 =>
    have h := C.fits 4 0 (by decide) (by decide) w ft
    rw [show (decide ((4 : Int) < 4) && cutF 4 (0 % full) == 0 % full) = false from by decide +kernel] at h
    exact h
  case h4 => exact C.known 255 (by decide) (by decide) w ft
  case h5 =>
    have h := C.inf 3 false (by decide) (by decide) w ft
    rw [show infF 3 false = 170135991163610696904058773219554885632 from by decide +kernel, show hiOf 170135991163610696904058773219554885632 = 9223090561878065152 from by decide +kernel, show loOf 170135991163610696904058773219554885632 = 0 from by decide +kernel] at h
    exact h
  case h6 =>
    have h := C.max 2 true (by decide) (by decide) w ft
    rw [show maxF 2 true = 18442240474082181119 from by decide +kernel] at h
    exact h
  case h7 =>
    have h := C.make 0 true (-1) 1024 (by decide) (by decide) (by decide) (by decide) w ft
    rw [show makeF 0 true (-1) (1024 % full) = 32768 from by decide +kernel] at h
    exact h
  case h8 =>
    have h := C.make 0 false 33 0 (by decide) (by decide) (by decide) (by decide) w ft
    rw [show makeF 0 false 33 (0 % full) = 1024 from by decide +kernel] at h
    exact h


end Go.Proofs.YtbihcehcdjkkiaaDoor
