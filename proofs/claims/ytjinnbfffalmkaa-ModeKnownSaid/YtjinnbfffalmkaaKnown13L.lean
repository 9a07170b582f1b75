/-
  ModeKnown.
-/
import Derived.Test.YtjinnbfffalmkaaKnown13
import Derived.Test.YtjinnbfffalmkaaGoes13L
set_option linter.unusedVariables false
set_option linter.unusedSimpArgs false
set_option maxRecDepth 100000
namespace Go.Proofs.Ytjinnbfffalmkaa
open Go.RowKit
attribute [local go_sem ↓] Go.wp_at_zero Go.wp_at_succ

theorem known13_law (M : ModeOK) (w : World) : Calls Try.prog 7 #[] w fun e w' => e = .returned (.bool true) ∧ Below w.heap.size w w' := by
  refine known13_core (Lib.hid fun w => ?h0) (Lib.hid fun w => ?h1) (Lib.hid fun w => ?h2) (Lib.hid fun w => ?h3) (Lib.hid fun w => ?h4) (Lib.hid fun w => ?h5) (Lib.hid fun w => ?h6) (Lib.hid fun w => ?h7) (Lib.hid fun w => ?h8) (Lib.hid fun w => ?h9) (Lib.hid fun w => ?h10) (Lib.hid fun w => ?h11) (Lib.hid fun w => ?h12) (Lib.hid fun w => ?h13) (Lib.hid fun w => ?h14) (Lib.hid (goes13_any M)) w
  case h0 =>
    have h := M.of false false w
    rw [show ofM false false = 0 from by decide] at h
    exact h
  case h1 =>
    have h := M.of false true w
    rw [show ofM false true = 1 from by decide] at h
    exact h
  case h2 =>
    have h := M.of true false w
    rw [show ofM true false = 2 from by decide] at h
    exact h
  case h3 =>
    have h := M.next 1 true false 2 (by decide) (by decide) (by decide) (by decide) w
    rw [show nextM 1 true false 2 = true from by decide] at h
    exact h
  case h4 =>
    have h := M.next 1 false true 1 (by decide) (by decide) (by decide) (by decide) w
    rw [show nextM 1 false true 1 = false from by decide] at h
    exact h
  case h5 =>
    have h := M.next 5 false true 3 (by decide) (by decide) (by decide) (by decide) w
    rw [show nextM 5 false true 3 = false from by decide] at h
    exact h
  case h6 =>
    have h := M.next 2 false true 4 (by decide) (by decide) (by decide) (by decide) w
    rw [show nextM 2 false true 4 = false from by decide] at h
    exact h
  case h7 =>
    have h := M.known 5 (by decide) (by decide) w
    rw [show decide ((5 : Int) < 5) = false from by decide] at h
    exact h
  case h8 =>
    have h := M.known 4 (by decide) (by decide) w
    rw [show decide ((4 : Int) < 5) = true from by decide] at h
    exact h
  case h9 =>
    have h := M.mirror 0 (by decide) (by decide) w
    rw [show mirM 0 = 0 from by decide] at h
    exact h
  case h10 =>
    have h := M.mirror 9 (by decide) (by decide) w
    rw [show mirM 9 = 9 from by decide] at h
    exact h
  case h11 =>
    have h := M.inf 2 false (by decide) (by decide) w
    rw [show infM 2 false = true from by decide] at h
    exact h
  case h12 =>
    have h := M.inf 2 true (by decide) (by decide) w
    rw [show infM 2 true = false from by decide] at h
    exact h
  case h13 =>
    have h := M.inf 3 true (by decide) (by decide) w
    rw [show infM 3 true = true from by decide] at h
    exact h
  case h14 =>
    have h := M.inf 7 false (by decide) (by decide) w
    rw [show infM 7 false = false from by decide] at h
    exact h


end Go.Proofs.Ytjinnbfffalmkaa
