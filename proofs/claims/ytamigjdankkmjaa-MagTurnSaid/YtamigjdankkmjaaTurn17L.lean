/-
  MagTurn.
-/
import Derived.Test.YtamigjdankkmjaaTurn17
import Derived.Test.YtamigjdankkmjaaGoes17L
set_option linter.unusedVariables false
set_option linter.unusedSimpArgs false
set_option maxRecDepth 100000
namespace Go.Proofs.Ytamigjdankkmjaa
open Go.RowKit
attribute [local go_sem ↓] Go.wp_at_zero Go.wp_at_succ

theorem turn17_law_n (O : MagOK) (e x g y : Int) (x0 : 0 ≤ x) (x1 : x < wfull) (y0 : 0 ≤ y) (y1 : y < wfull) (ue : -9223372036854775808 ≤ e ∧ e ≤ 9223372036854775807) (ug : -9223372036854775808 ≤ g ∧ g ≤ 9223372036854775807) (w : World) : Calls Try.prog 6 #[.agg #[.int .i64 e, .int .u64 (wd0 (x)), .int .u64 (wd1 (x)), .int .u64 (wd2 (x)), .int .u64 (wd3 (x))], .agg #[.int .i64 g, .int .u64 (wd0 (y)), .int .u64 (wd1 (y)), .int .u64 (wd2 (y)), .int .u64 (wd3 (y))]] w fun e w' => e = .returned (.bool true) ∧ Below w.heap.size w w' := by
  have G := Lib.hid (goes17_any O)
  have C1 := O.cmp e x g y ue.1 ue.2 x0 x1 ug.1 ug.2 y0 y1
  have D1 := O.diff e x g y ue.1 ue.2 x0 x1 ug.1 ug.2 y0 y1
  have D2 := O.diff g y e x ug.1 ug.2 y0 y1 ue.1 ue.2 x0 x1
  have S1 := O.sum e x g y ue.1 ue.2 x0 x1 ug.1 ug.2 y0 y1
  have S2 := O.sum g y e x ug.1 ug.2 y0 y1 ue.1 ue.2 x0 x1
  rw [lev_turn e x g y, diff_turn e x g y, cmpT_turn e x g y] at D2
  rw [lev_turn e x g y, sum_turn e x g y] at S2
  have r := cmpT_range e x g y
  rcases (show cmpT e x g y < 0 ∨ cmpT e x g y = 0 ∨ 0 < cmpT e x g y by omega) with h | h | h
  · rw [show decide (cmpT e x g y < 0) = true from decide_eq_true h] at D1
    rw [show decide (-cmpT e x g y < 0) = false from decide_eq_false (by omega)] at D2
    exact turn17_10 e g _ _ _ _ _ _ _ _ _ _ _ _ _ _ _ _ _ _ (Lib.hid D1) (Lib.hid D2) (Lib.hid S1) (Lib.hid S2) G w
  · rw [show decide (cmpT e x g y < 0) = false from decide_eq_false (by omega)] at D1
    rw [show decide (-cmpT e x g y < 0) = false from decide_eq_false (by omega)] at D2
    rw [h] at C1
    exact turn17_00 e g _ _ _ _ _ _ _ _ _ _ _ _ _ _ _ _ _ _ (Lib.hid D1) (Lib.hid D2) (Lib.hid S1) (Lib.hid S2) (Lib.hid C1) G w
  · rw [show decide (cmpT e x g y < 0) = false from decide_eq_false (by omega)] at D1
    rw [show decide (-cmpT e x g y < 0) = true from decide_eq_true (by omega)] at D2
    exact turn17_01 e g _ _ _ _ _ _ _ _ _ _ _ _ _ _ _ _ _ _ (Lib.hid D1) (Lib.hid D2) (Lib.hid S1) (Lib.hid S2) G w
theorem turn17_law (O : MagOK) (e x0 x1 x2 x3 g y0 y1 y2 y3 : Int) (ue : -9223372036854775808 ≤ e ∧ e ≤ 9223372036854775807) (ux0 : U64 x0) (ux1 : U64 x1) (ux2 : U64 x2) (ux3 : U64 x3) (ug : -9223372036854775808 ≤ g ∧ g ≤ 9223372036854775807) (uy0 : U64 y0) (uy1 : U64 y1) (uy2 : U64 y2) (uy3 : U64 y3) (w : World) : Calls Try.prog 6 #[.agg #[.int .i64 e, .int .u64 x0, .int .u64 x1, .int .u64 x2, .int .u64 x3], .agg #[.int .i64 g, .int .u64 y0, .int .u64 y1, .int .u64 y2, .int .u64 y3]] w fun e w' => e = .returned (.bool true) ∧ Below w.heap.size w w' := by
  obtain ⟨hx0, hx1⟩ := wval_range ux0 ux1 ux2 ux3
  obtain ⟨ex0, ex1, ex2, ex3⟩ := wd_wval ux0 ux1 ux2 ux3
  obtain ⟨hy0, hy1⟩ := wval_range uy0 uy1 uy2 uy3
  obtain ⟨ey0, ey1, ey2, ey3⟩ := wd_wval uy0 uy1 uy2 uy3
  have h := turn17_law_n O e (wval x0 x1 x2 x3) g (wval y0 y1 y2 y3) hx0 hx1 hy0 hy1 ue ug w
  rw [ex0, ex1, ex2, ex3, ey0, ey1, ey2, ey3] at h
  exact h


end Go.Proofs.Ytamigjdankkmjaa
