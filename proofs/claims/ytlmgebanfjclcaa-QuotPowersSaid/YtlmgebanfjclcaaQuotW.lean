/-
  Equality of numbers, for the statements of stage 5.
-/
import Derived.Test.YtlmgebanfjclcaaGaB
import Derived.Test.YtlmgebanfjclcaaGaA
import Derived.Test.YtlmgebanfjclcaaGcA
set_option linter.unusedVariables false
set_option linter.unusedSimpArgs false
set_option maxRecDepth 100000
namespace Go.Proofs.Ytlmgebanfjclcaa
open Go.RowKit
attribute [local go_sem ↓] Go.wp_at_zero Go.wp_at_succ

theorem neqw5 (a0 a1 a2 a3 : Int) (w : World) : (binOp .neq 24 (.agg #[.int .u64 a0, .int .u64 a1, .int .u64 a2, .int .u64 a3]) (.agg #[.int .u64 a0, .int .u64 a1, .int .u64 a2, .int .u64 a3])).run Try.prog w = .ok (.bool false) w := by
  have h := eqw4 a0 a1 a2 a3 w
  rw [run_eql_struct] at h
  rw [run_neq_struct]
  revert h
  generalize (Op.equalIn 10000 24 (.agg #[.int .u64 a0, .int .u64 a1, .int .u64 a2, .int .u64 a3]) (.agg #[.int .u64 a0, .int .u64 a1, .int .u64 a2, .int .u64 a3])).run Try.prog w = r
  intro h
  cases r with
  | ok b' w'' => cases h; rfl
  | halt x w'' => cases h


end Go.Proofs.Ytlmgebanfjclcaa
