/-
  What the document asks of package root.
-/
import Derived.Test.YtbibinmjipcdjaaRootM
import Derived.Test.YtbibinmjipcdjaaGaB
set_option linter.unusedVariables false
set_option linter.unusedSimpArgs false
set_option maxRecDepth 100000
namespace Go.Proofs.Ytbibinmjipcdjaa
open Go.RowKit
attribute [local go_sem ↓] Go.wp_at_zero Go.wp_at_succ

structure RootOK : Prop where
  root : ∀ n w, Calls Try.prog 9 #[.agg #[.int .u64 (wd0 (n)), .int .u64 (wd1 (n)), .int .u64 (wd2 (n)), .int .u64 (wd3 (n))]] w fun e w' => e = .returned (.tuple #[.agg #[.int .u64 (hiOf (rootN (n % wfull))), .int .u64 (loOf (rootN (n % wfull)))], .bool (exactN (n % wfull))]) ∧ Below w.heap.size w w'
theorem eqw6 (a0 a1 a2 a3 : Int) (w : World) : (binOp .eql 24 (.agg #[.int .u64 a0, .int .u64 a1, .int .u64 a2, .int .u64 a3]) (.agg #[.int .u64 a0, .int .u64 a1, .int .u64 a2, .int .u64 a3])).run Try.prog w = .ok (.bool true) w := by
  rw [eql_wide]; simp


end Go.Proofs.Ytbibinmjipcdjaa
