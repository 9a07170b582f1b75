/-
  NanQuiets over digits.
-/
import Derived.Test.YtfcffmihhpcjjaaDoorQuiets10
import Derived.Test.YtfcffmihhpcjjaaDoorGoes10L
set_option linter.unusedVariables false
set_option linter.unusedSimpArgs false
set_option maxRecDepth 100000
namespace Go.Proofs.YtfcffmihhpcjjaaDoor
open Go.RowKit
attribute [local go_sem ↓] Go.wp_at_zero Go.wp_at_succ

theorem quiets10_law_n (N : NanOK) (f b : Int) (f0 : 0 ≤ f) (f1 : f ≤ 255) (w : World) (ft : FTab w) : Calls Tryd.prog 3 #[.int .u8 f, .agg #[.int .u64 (hiOf (b)), .int .u64 (loOf (b))]] w fun e w' => e = .returned (.bool true) ∧ Below w.heap.size w w' :=
  quiets10_core f _ _ _ _ _ _ (Lib.hid (N.quiet f b f0 f1)) (Lib.hid (ref10_quiet f b f0 f1)) (Lib.hid (N.dflt f f0 f1)) (Lib.hid (ref10_default f f0 f1)) (Lib.hid (goes10_any N)) w ft
theorem quiets10_law (N : NanOK) (f bh bl : Int) (uf : 0 ≤ f ∧ f ≤ 255) (ubh : U64 bh) (ubl : U64 bl) (w : World) (ft : FTab w) : Calls Tryd.prog 3 #[.int .u8 f, .agg #[.int .u64 bh, .int .u64 bl]] w fun e w' => e = .returned (.bool true) ∧ Below w.heap.size w w' := by
  have h := quiets10_law_n N f (val bh bl) uf.1 uf.2 w ft
  rw [(hl_val ubh ubl).1, (hl_val ubh ubl).2] at h
  exact h


end Go.Proofs.YtfcffmihhpcjjaaDoor
