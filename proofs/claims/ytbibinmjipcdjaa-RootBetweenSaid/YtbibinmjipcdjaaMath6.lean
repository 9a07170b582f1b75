/-
  Facts for the statements of stage 6.
-/
import Derived.Test.YtbibinmjipcdjaaGoes6
set_option linter.unusedVariables false
set_option linter.unusedSimpArgs false
set_option maxRecDepth 100000
namespace Go.Proofs.Ytbibinmjipcdjaa
open Go.RowKit
attribute [local go_sem ↓] Go.wp_at_zero Go.wp_at_succ

theorem cmp6_gt (x y : Int) : decide (0 < cmpI x y) = decide (y < x) := by
  unfold cmpI; rw [decide_eq_decide]; split <;> (try split) <;> omega
theorem cmp6_le (x y : Int) : decide (cmpI x y ≤ 0) = decide (x ≤ y) := by
  unfold cmpI; rw [decide_eq_decide]; split <;> (try split) <;> omega
theorem one_dig6 : wd0 1 = 1 ∧ wd1 1 = 0 ∧ wd2 1 = 0 ∧ wd3 1 = 0 := ⟨rfl, rfl, rfl, rfl⟩
theorem one_hl6 : hiOf 1 = 0 ∧ loOf 1 = 1 := ⟨rfl, rfl⟩
/-- What the root of a number of 256 bits is, and its square. -/
theorem eql_of {x y : Int} (hx0 : 0 ≤ x) (hx1 : x < wfull) (hy0 : 0 ≤ y) (hy1 : y < wfull) (r : Bool) (hr : (x == y) = r) (w : World) : (binOp .eql 24 (.agg #[.int .u64 (wd0 x), .int .u64 (wd1 x), .int .u64 (wd2 x), .int .u64 (wd3 x)]) (.agg #[.int .u64 (wd0 y), .int .u64 (wd1 y), .int .u64 (wd2 y), .int .u64 (wd3 y)])).run Try.prog w = .ok (.bool r) w := by
  subst hr
  rw [eql_wide]
  congr 2
  rw [Bool.eq_iff_iff, decide_eq_true_eq, beq_iff_eq]
  exact wd_inj hx0 hx1 hy0 hy1


end Go.Proofs.Ytbibinmjipcdjaa
