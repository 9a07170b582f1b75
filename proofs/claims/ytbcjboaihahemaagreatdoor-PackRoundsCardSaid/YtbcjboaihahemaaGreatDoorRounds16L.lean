/-
  PackRounds.
-/
import Derived.Test.YtbcjboaihahemaaGreatDoorRounds16
import Derived.Test.YtbcjboaihahemaaGreatDoorValue16L
import Derived.Test.YtbcjboaihahemaaGreatDoorGoes16L
set_option linter.unusedVariables false
set_option linter.unusedSimpArgs false
set_option maxRecDepth 100000
namespace Go.Proofs.YtbcjboaihahemaaGreatDoor
open Go.RowKit
attribute [local go_sem ↓] Go.wp_at_zero Go.wp_at_succ

theorem rounds16_law_n (O : PackOK) (f m : Int) (t ng : Bool) (ex x : Int) (x0 : 0 ≤ x) (x1 : x < wfull) (uf : 0 ≤ f ∧ f ≤ 255) (um : 0 ≤ m ∧ m ≤ 255) (ue : -9223372036854775808 ≤ ex ∧ ex ≤ 9223372036854775807) (w : World) (ft : FTab w) : Calls Tryz.prog 3 #[.int .u8 f, .agg #[.int .u8 m, .bool t], .bool ng, .int .i64 ex, .agg #[.int .u64 (wd0 (x)), .int .u64 (wd1 (x)), .int .u64 (wd2 (x)), .int .u64 (wd3 (x))]] w fun e w' => e = .returned (.bool true) ∧ Below w.heap.size w w' := by
  have G := Lib.hid (goes16_any O)
  have RP := O.round f m t ng ex x uf.1 uf.2 um.1 um.2 ue.1 ue.2 x0 x1
  exact rounds16_core f m ex _ x _ _ _ _ _ _ _ t ng (Lib.hid RP) G (Lib.hid (value16 ex x ng x0 x1)) (Lib.hid (ref16_pk f m ex x t ng uf.1 uf.2 um.1 um.2 x0 x1)) w ft
theorem rounds16_law (O : PackOK) (f m : Int) (t ng : Bool) (ex x0 x1 x2 x3 : Int) (uf : 0 ≤ f ∧ f ≤ 255) (um : 0 ≤ m ∧ m ≤ 255) (ue : -9223372036854775808 ≤ ex ∧ ex ≤ 9223372036854775807) (ux0 : U64 x0) (ux1 : U64 x1) (ux2 : U64 x2) (ux3 : U64 x3) (w : World) (ft : FTab w) : Calls Tryz.prog 3 #[.int .u8 f, .agg #[.int .u8 m, .bool t], .bool ng, .int .i64 ex, .agg #[.int .u64 x0, .int .u64 x1, .int .u64 x2, .int .u64 x3]] w fun e w' => e = .returned (.bool true) ∧ Below w.heap.size w w' := by
  obtain ⟨h0, h1⟩ := wval_range ux0 ux1 ux2 ux3
  obtain ⟨e0, e1, e2, e3⟩ := wd_wval ux0 ux1 ux2 ux3
  have h := rounds16_law_n O f m t ng ex (wval x0 x1 x2 x3) h0 h1 uf um ue w ft
  rw [e0, e1, e2, e3] at h
  exact h


end Go.Proofs.YtbcjboaihahemaaGreatDoor
