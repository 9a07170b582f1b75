/-
  NanPicks over slices.
-/
import Derived.Test.YtfcffmihhpcjjaaDoorPicks10
import Derived.Test.YtfcffmihhpcjjaaDoorGoes10L
set_option linter.unusedVariables false
set_option linter.unusedSimpArgs false
set_option maxRecDepth 100000
namespace Go.Proofs.YtfcffmihhpcjjaaDoor
open Go.RowKit
attribute [local go_sem ↓] Go.wp_at_zero Go.wp_at_succ

theorem picks10_law (N : NanOK) (f : Int) (inv : Bool) (ao : Option Addr) (n cap : Nat) (xs : List Int) (fb : 0 ≤ f ∧ f ≤ 255) (w : World) (ft : FTab w) (x : Bs w ao n cap xs) : Calls Tryd.prog 4 #[.int .u8 f, .bool inv, .slice ao n cap] w fun e w' => e = .returned (.bool true) ∧ Below w.heap.size w w' := by
  by_cases hn : n ≤ 50
  · exact picks10_walk f _ _ _ inv _ ao n cap xs w ft hn x (Lib.hid fun ao n cap w ft x => N.pick f inv ao n cap xs fb.1 fb.2 w ft x) (Lib.hid fun w x => ref10_pick f inv ao n cap xs fb.1 fb.2 w x) (Lib.hid (goes10_any N))
  · exact picks10_long f inv ao n cap w (by omega) x.2.2.1.1


end Go.Proofs.YtfcffmihhpcjjaaDoor
