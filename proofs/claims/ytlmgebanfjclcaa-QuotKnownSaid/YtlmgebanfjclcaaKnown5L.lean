/-
  QuotKnown.
-/
import Derived.Test.YtlmgebanfjclcaaKnown5
import Derived.Test.YtlmgebanfjclcaaGoes5L
set_option linter.unusedVariables false
set_option linter.unusedSimpArgs false
set_option maxRecDepth 100000
namespace Go.Proofs.Ytlmgebanfjclcaa
open Go.RowKit
attribute [local go_sem ↓] Go.wp_at_zero Go.wp_at_succ

theorem three_odd (n : Nat) : (4 : Int) ^ n % 3 = 1 := by
  induction n with
  | zero => rfl
  | succ n ih => rw [Int.pow_succ, Int.mul_emod, ih]; rfl
theorem known5_law (w : World) : Calls Try.prog 9 #[] w fun e w' => e = .returned (.bool true) ∧ Below w.heap.size w w' := by
  have e : (1 : Int) % full * 2 ^ 40000 % (3 % full) = 1 := by
    rw [show (1 : Int) % full = 1 from by decide +kernel, show (3 : Int) % full = 3 from by decide +kernel, Int.one_mul, show (2 : Int) ^ 40000 = 4 ^ 20000 from by rw [show (4 : Int) = 2 ^ 2 from rfl, ← Int.pow_mul]]
    exact three_odd _
  refine known5_core (decide ((1 : Int) % full * 2 ^ 40000 / (3 % full) % 2 = 1)) (Lib.hid (qstep_no 2 0 2 (by decide))) (Lib.hid (qstep_no 0 5 0 (by decide))) (Lib.hid fun w => ex5_step (by decide +kernel) (by decide +kernel) (by unfold U64; decide) (by unfold U64; decide) (by unfold U64; decide) (by decide) w)
    (Lib.hid (divQ_no 7 0 0 0)) (Lib.hid ?h4) (Lib.hid ?h5) (Lib.hid ?h6) (Lib.hid ?h7) (Lib.hid ?h8) (Lib.hid ?h9) (Lib.hid fun w => ex5_mod (r := 1) (d := 3) (k := 2) (R := 1) (by decide) (by decide +kernel) (by decide +kernel) (by decide +kernel) (by decide +kernel) (by decide +kernel) (by decide +kernel) w)
    (Lib.hid fun w => ex5_mod (r := 1) (d := 3) (k := 40000) (R := 1) (Nat.le_refl _) (by decide +kernel) (by decide +kernel) (by decide +kernel) e (by decide +kernel) rfl w) (Lib.hid ?h12) (Lib.hid goes5_any) w
  case h4 =>
    intro w
    have h := joinW 340282366920938463463374607431768211455 340282366920938463463374607431768211455 w
    rw [show hiOf 340282366920938463463374607431768211455 = 18446744073709551615 from by decide +kernel, show loOf 340282366920938463463374607431768211455 = 18446744073709551615 from by decide +kernel, show (340282366920938463463374607431768211455 : Int) % full * full + 340282366920938463463374607431768211455 % full = 115792089237316195423570985008687907853269984665640564039457584007913129639935 from by decide +kernel, show wd0 115792089237316195423570985008687907853269984665640564039457584007913129639935 = 18446744073709551615 from by decide +kernel, show wd1 115792089237316195423570985008687907853269984665640564039457584007913129639935 = 18446744073709551615 from by decide +kernel, show wd2 115792089237316195423570985008687907853269984665640564039457584007913129639935 = 18446744073709551615 from by decide +kernel, show wd3 115792089237316195423570985008687907853269984665640564039457584007913129639935 = 18446744073709551615 from by decide +kernel] at h
    exact h
  case h5 => exact fun w => ex5_div (n := 115792089237316195423570985008687907853269984665640564039457584007913129639935) (d := 340282366920938463463374607431768211455) (Q := 340282366920938463463374607431768211457) (R := 0) (by decide +kernel) (by decide +kernel) (by decide +kernel) (by decide +kernel) (by decide +kernel) (by decide +kernel) (by decide +kernel) w
  case h6 => exact fun w => modQ_no 3 3 0 (by decide +kernel) w
  case h7 => exact fun w => modQ_no 0 0 0 (by decide +kernel) w
  case h8 => exact fun w => modQ_no 0 1 (-1) (by decide +kernel) w
  case h9 => exact fun w => modQ_no 0 1 40001 (by decide +kernel) w
  case h12 => exact fun w => zeroB 0 w


end Go.Proofs.Ytlmgebanfjclcaa
