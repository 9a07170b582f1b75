/-
  PayloadMoves over digits.
-/
import Derived.Test.YthnikhhgnogibaaDoorMoves11
import Derived.Test.YthnikhhgnogibaaDoorGoes11L
set_option linter.unusedVariables false
set_option linter.unusedSimpArgs false
set_option maxRecDepth 100000
namespace Go.Proofs.YthnikhhgnogibaaDoor
open Go.RowKit
attribute [local go_sem ↓] Go.wp_at_zero Go.wp_at_succ

theorem moves11_law_n (Y : PayOK) (f t b : Int) (f0 : 0 ≤ f) (f1 : f ≤ 255) (t0 : 0 ≤ t) (t1 : t ≤ 255) (w : World) (ft : FTab w) : Calls Tryd.prog 3 #[.int .u8 f, .int .u8 t, .agg #[.int .u64 (hiOf (b)), .int .u64 (loOf (b))]] w fun e w' => e = .returned (.bool true) ∧ Below w.heap.size w w' :=
  moves11_core f t _ _ _ _ _ _ (Lib.hid (Y.move f t b f0 f1 t0 t1)) (Lib.hid (ref11_move f t b f0 f1 t0 t1)) (Lib.hid (goes11_any Y)) w ft
theorem moves11_law (Y : PayOK) (f t bh bl : Int) (uf : 0 ≤ f ∧ f ≤ 255) (ut : 0 ≤ t ∧ t ≤ 255) (ubh : U64 bh) (ubl : U64 bl) (w : World) (ft : FTab w) : Calls Tryd.prog 3 #[.int .u8 f, .int .u8 t, .agg #[.int .u64 bh, .int .u64 bl]] w fun e w' => e = .returned (.bool true) ∧ Below w.heap.size w w' := by
  have h := moves11_law_n Y f t (val bh bl) uf.1 uf.2 ut.1 ut.2 w ft
  rw [(hl_val ubh ubl).1, (hl_val ubh ubl).2] at h
  exact h


end Go.Proofs.YthnikhhgnogibaaDoor
