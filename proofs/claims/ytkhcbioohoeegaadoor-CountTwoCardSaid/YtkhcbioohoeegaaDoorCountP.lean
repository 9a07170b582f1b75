/-
  What the document asks of package count.
-/
import Derived.Test.YtkhcbioohoeegaaDoorCountB
import Derived.Test.YtkhcbioohoeegaaDoorWideN
set_option linter.unusedVariables false
set_option linter.unusedSimpArgs false
set_option maxRecDepth 100000
namespace Go.Proofs.YtkhcbioohoeegaaDoor
open Go.RowKit
attribute [local go_sem ↓] Go.wp_at_zero Go.wp_at_succ

structure CountOK : Prop where
  len : ∀ n, ∀ w, Calls Tryd.prog 13 #[.agg #[.int .u64 (hiOf (n)), .int .u64 (loOf (n))]] w fun e w' => e = .returned (.int .i64 (blen (n % full))) ∧ Below w.heap.size w w'
  wlen : ∀ n, ∀ w, Calls Tryd.prog 19 #[.agg #[.int .u64 (wd0 (n)), .int .u64 (wd1 (n)), .int .u64 (wd2 (n)), .int .u64 (wd3 (n))]] w fun e w' => e = .returned (.int .i64 (blen (n % wfull))) ∧ Below w.heap.size w w'
  tail : ∀ n, ∀ w, Tab w → Calls Tryd.prog 20 #[.agg #[.int .u64 (wd0 (n)), .int .u64 (wd1 (n)), .int .u64 (wd2 (n)), .int .u64 (wd3 (n))]] w fun e w' => e = .returned (.int .i64 (tailN (n % wfull))) ∧ Below w.heap.size w w'
  raise : ∀ n, ∀ w, Calls Tryd.prog 11 #[.agg #[.int .u64 (hiOf (n)), .int .u64 (loOf (n))]] w fun e w' => e = .returned (.tuple #[.agg #[.int .u64 (hiOf (n % full * 2 ^ upN 128 (n % full))), .int .u64 (loOf (n % full * 2 ^ upN 128 (n % full)))], .int .i64 (upN 128 (n % full))]) ∧ Below w.heap.size w w'
  wraise : ∀ n, ∀ w, Calls Tryd.prog 18 #[.agg #[.int .u64 (wd0 (n)), .int .u64 (wd1 (n)), .int .u64 (wd2 (n)), .int .u64 (wd3 (n))]] w fun e w' => e = .returned (.tuple #[.agg #[.int .u64 (wd0 (n % wfull * 2 ^ upN 256 (n % wfull))), .int .u64 (wd1 (n % wfull * 2 ^ upN 256 (n % wfull))), .int .u64 (wd2 (n % wfull * 2 ^ upN 256 (n % wfull))), .int .u64 (wd3 (n % wfull * 2 ^ upN 256 (n % wfull)))], .int .i64 (upN 256 (n % wfull))]) ∧ Below w.heap.size w w'
theorem idx_wide (x0 x1 x2 x3 : Int) (w : World) : (Instr.index 38 (.agg #[.int .u64 x0, .int .u64 x1, .int .u64 x2, .int .u64 x3]) (.int .i64 0)).run Tryd.prog w = .ok (.int .u64 x0) w := by
  have hi0 : (Tryd.prog.info? 22).isSome = true := by kernel_rfl
  obtain ⟨i, hi⟩ := Option.isSome_iff_exists.1 hi0
  have hc : Tryd.prog.cellsOf 22 = 1 := by kernel_rfl
  simp [Instr.index, run_underlying Tryd.underlying38, asIntOf, go_sem]
theorem eqw4 (a0 a1 a2 a3 : Int) (w : World) : (binOp .eql 38 (.agg #[.int .u64 a0, .int .u64 a1, .int .u64 a2, .int .u64 a3]) (.agg #[.int .u64 a0, .int .u64 a1, .int .u64 a2, .int .u64 a3])).run Tryd.prog w = .ok (.bool true) w := by
  rw [eql_wide]; simp


end Go.Proofs.YtkhcbioohoeegaaDoor
