/-
  PackExact.
-/
import Derived.Test.YtbcjboaihahemaaGreatDoorExact16
import Derived.Test.YtbcjboaihahemaaGreatDoorValue16L
import Derived.Test.YtbcjboaihahemaaGreatDoorGoes16L
set_option linter.unusedVariables false
set_option linter.unusedSimpArgs false
set_option maxRecDepth 100000
namespace Go.Proofs.YtbcjboaihahemaaGreatDoor
open Go.RowKit
attribute [local go_sem ↓] Go.wp_at_zero Go.wp_at_succ

theorem exact16_law_n (O : PackOK) (f : Int) (ng : Bool) (ex x : Int) (x0 : 0 ≤ x) (x1 : x < wfull) (uf : 0 ≤ f ∧ f ≤ 255) (ue : -9223372036854775808 ≤ ex ∧ ex ≤ 9223372036854775807) (w : World) (ft : FTab w) : Calls Tryz.prog 4 #[.int .u8 f, .bool ng, .int .i64 ex, .agg #[.int .u64 (wd0 (x)), .int .u64 (wd1 (x)), .int .u64 (wd2 (x)), .int .u64 (wd3 (x))]] w fun e w' => e = .returned (.bool true) ∧ Below w.heap.size w w' := by
  have G := Lib.hid (goes16_any O)
  have EX := O.exact_ f ng ex x uf.1 uf.2 ue.1 ue.2 x0 x1
  have VL := Lib.hid (value16 ex x ng x0 x1)
  have RP := ref16_pk f 4 ex x false ng uf.1 uf.2 (by decide) (by decide) x0 x1
  by_cases hf : f < 4
  · by_cases z : pkFl f 4 false ng ex x = 0
    · have k : pkX f ng ex x = true := by unfold pkX; rw [z]; simp [hf]
      rw [k, if_pos rfl] at EX
      rw [z] at RP
      exact exact16_yes f ex _ x _ _ _ _ _ _ ng (Lib.hid EX) G VL (Lib.hid RP) (decide_eq_false (by omega)) w ft
    · have k : pkX f ng ex x = false := by unfold pkX; simp [z]
      rw [k, if_neg (by decide), hl_zero.1, hl_zero.2] at EX
      exact exact16_flag f ex _ x _ _ _ _ _ _ _ ng (Lib.hid EX) G VL (Lib.hid RP) (decide_eq_false (by omega)) (by simp [z]) w ft
  · have k : pkX f ng ex x = false := by unfold pkX; simp [hf]
    rw [k, if_neg (by decide), hl_zero.1, hl_zero.2] at EX
    exact exact16_big f ex _ x _ _ _ _ _ _ _ ng (Lib.hid EX) G VL (Lib.hid RP) (decide_eq_true (by omega)) w ft
theorem exact16_law (O : PackOK) (f : Int) (ng : Bool) (ex x0 x1 x2 x3 : Int) (uf : 0 ≤ f ∧ f ≤ 255) (ue : -9223372036854775808 ≤ ex ∧ ex ≤ 9223372036854775807) (ux0 : U64 x0) (ux1 : U64 x1) (ux2 : U64 x2) (ux3 : U64 x3) (w : World) (ft : FTab w) : Calls Tryz.prog 4 #[.int .u8 f, .bool ng, .int .i64 ex, .agg #[.int .u64 x0, .int .u64 x1, .int .u64 x2, .int .u64 x3]] w fun e w' => e = .returned (.bool true) ∧ Below w.heap.size w w' := by
  obtain ⟨h0, h1⟩ := wval_range ux0 ux1 ux2 ux3
  obtain ⟨e0, e1, e2, e3⟩ := wd_wval ux0 ux1 ux2 ux3
  have h := exact16_law_n O f ng ex (wval x0 x1 x2 x3) h0 h1 uf ue w ft
  rw [e0, e1, e2, e3] at h
  exact h


end Go.Proofs.YtbcjboaihahemaaGreatDoor
