/-
  Numbers taken apart, as values: when two are equal.
-/
import Derived.Test.YtelfjbdpmiopdaaDoorGaB
set_option linter.unusedVariables false
set_option linter.unusedSimpArgs false
set_option maxRecDepth 100000
namespace Go.Proofs.YtelfjbdpmiopdaaDoor
open Go.RowKit

theorem eqn_same (g : Bool) (c e h l : Int) (w : World) : (binOp .eql 28 (.agg #[.bool g, .int .u8 c, .int .i64 e, .int .u64 h, .int .u64 l]) (.agg #[.bool g, .int .u8 c, .int .i64 e, .int .u64 h, .int .u64 l])).run Tryd.prog w = .ok (.bool true) w := by
  go_simp


end Go.Proofs.YtelfjbdpmiopdaaDoor
