/-
  MagOrder.
-/
import Derived.Test.YtamigjdankkmjaaOrder17
import Derived.Test.YtamigjdankkmjaaGoes17L
set_option linter.unusedVariables false
set_option linter.unusedSimpArgs false
set_option maxRecDepth 100000
namespace Go.Proofs.Ytamigjdankkmjaa
open Go.RowKit
attribute [local go_sem ↓] Go.wp_at_zero Go.wp_at_succ

theorem order17_law_n (O : MagOK) (e x g y k z : Int) (x0 : 0 ≤ x) (x1 : x < wfull) (y0 : 0 ≤ y) (y1 : y < wfull) (z0 : 0 ≤ z) (z1 : z < wfull) (ue : -9223372036854775808 ≤ e ∧ e ≤ 9223372036854775807) (ug : -9223372036854775808 ≤ g ∧ g ≤ 9223372036854775807) (uk : -9223372036854775808 ≤ k ∧ k ≤ 9223372036854775807) (w : World) : Calls Try.prog 5 #[.agg #[.int .i64 e, .int .u64 (wd0 (x)), .int .u64 (wd1 (x)), .int .u64 (wd2 (x)), .int .u64 (wd3 (x))], .agg #[.int .i64 g, .int .u64 (wd0 (y)), .int .u64 (wd1 (y)), .int .u64 (wd2 (y)), .int .u64 (wd3 (y))], .agg #[.int .i64 k, .int .u64 (wd0 (z)), .int .u64 (wd1 (z)), .int .u64 (wd2 (z)), .int .u64 (wd3 (z))]] w fun e w' => e = .returned (.bool true) ∧ Below w.heap.size w w' := by
  have G := Lib.hid (goes17_any O)
  have C1 := O.cmp e x g y ue.1 ue.2 x0 x1 ug.1 ug.2 y0 y1
  have C2 := O.cmp g y e x ug.1 ug.2 y0 y1 ue.1 ue.2 x0 x1
  have C3 := O.cmp g y k z ug.1 ug.2 y0 y1 uk.1 uk.2 z0 z1
  have C4 := O.cmp e x k z ue.1 ue.2 x0 x1 uk.1 uk.2 z0 z1
  have C5 := O.cmp e x e x ue.1 ue.2 x0 x1 ue.1 ue.2 x0 x1
  have D1 := O.diff e x g y ue.1 ue.2 x0 x1 ug.1 ug.2 y0 y1
  have D2 := O.diff e x e x ue.1 ue.2 x0 x1 ue.1 ue.2 x0 x1
  have Z := zeroW 0
  rw [show ((0 : Int) % wfull == 0) = true from by decide +kernel, show wd0 0 = 0 from rfl, show wd1 0 = 0 from rfl, show wd2 0 = 0 from rfl, show wd3 0 = 0 from rfl] at Z
  rw [cmpT_self] at C5
  rw [diff_same (cmpT_self e x), cmpT_self, show wd0 0 = 0 from rfl, show wd1 0 = 0 from rfl, show wd2 0 = 0 from rfl, show wd3 0 = 0 from rfl] at D2
  have r := cmpT_range e x g y
  have W1 : Hid (IntKind.i64.wrap (-(cmpT g y e x)) = cmpT e x g y) := Lib.hid (by rw [cmpT_turn e x g y, Int.neg_neg]; exact IntWalk.i64_in _ (by omega))
  have W2 : Hid (wrap64 (-(cmpT g y e x)) = cmpT e x g y) := Lib.hid (by rw [cmpT_turn e x g y, Int.neg_neg]; unfold wrap64; omega)
  by_cases h1 : cmpT e x g y ≤ 0
  · by_cases h2 : cmpT g y k z ≤ 0
    · have h3 := cmpT_trans h1 h2
      exact order17_both e g k _ _ _ _ _ _ _ _ _ _ _ _ _ _ _ _ _ _ _ _ _ _ _ _ (Lib.hid C1) (Lib.hid C2) (Lib.hid C3) (Lib.hid D1) (Lib.hid C4) (Lib.hid C5) (Lib.hid D2) (Lib.hid Z) G W1.out W2.out rfl (decide_eq_true h1) (decide_eq_true h2) (decide_eq_false (by omega)) w
    · exact order17_lt e g k _ _ _ _ _ _ _ _ _ _ _ _ _ _ _ _ _ _ _ _ _ _ _ (Lib.hid C1) (Lib.hid C2) (Lib.hid C3) (Lib.hid D1) (Lib.hid C5) (Lib.hid D2) (Lib.hid Z) G W1.out W2.out rfl (decide_eq_true h1) (decide_eq_false h2) w
  · exact order17_gt e g k _ _ _ _ _ _ _ _ _ _ _ _ _ _ _ _ _ _ _ _ _ _ _ (Lib.hid C1) (Lib.hid C2) (Lib.hid C3) (Lib.hid D1) (Lib.hid C5) (Lib.hid D2) (Lib.hid Z) G W1.out W2.out rfl (decide_eq_false h1) w
theorem order17_law (O : MagOK) (e x0 x1 x2 x3 g y0 y1 y2 y3 k z0 z1 z2 z3 : Int) (ue : -9223372036854775808 ≤ e ∧ e ≤ 9223372036854775807) (ux0 : U64 x0) (ux1 : U64 x1) (ux2 : U64 x2) (ux3 : U64 x3) (ug : -9223372036854775808 ≤ g ∧ g ≤ 9223372036854775807) (uy0 : U64 y0) (uy1 : U64 y1) (uy2 : U64 y2) (uy3 : U64 y3) (uk : -9223372036854775808 ≤ k ∧ k ≤ 9223372036854775807) (uz0 : U64 z0) (uz1 : U64 z1) (uz2 : U64 z2) (uz3 : U64 z3) (w : World) : Calls Try.prog 5 #[.agg #[.int .i64 e, .int .u64 x0, .int .u64 x1, .int .u64 x2, .int .u64 x3], .agg #[.int .i64 g, .int .u64 y0, .int .u64 y1, .int .u64 y2, .int .u64 y3], .agg #[.int .i64 k, .int .u64 z0, .int .u64 z1, .int .u64 z2, .int .u64 z3]] w fun e w' => e = .returned (.bool true) ∧ Below w.heap.size w w' := by
  obtain ⟨hx0, hx1⟩ := wval_range ux0 ux1 ux2 ux3
  obtain ⟨ex0, ex1, ex2, ex3⟩ := wd_wval ux0 ux1 ux2 ux3
  obtain ⟨hy0, hy1⟩ := wval_range uy0 uy1 uy2 uy3
  obtain ⟨ey0, ey1, ey2, ey3⟩ := wd_wval uy0 uy1 uy2 uy3
  obtain ⟨hz0, hz1⟩ := wval_range uz0 uz1 uz2 uz3
  obtain ⟨ez0, ez1, ez2, ez3⟩ := wd_wval uz0 uz1 uz2 uz3
  have h := order17_law_n O e (wval x0 x1 x2 x3) g (wval y0 y1 y2 y3) k (wval z0 z1 z2 z3) hx0 hx1 hy0 hy1 hz0 hz1 ue ug uk w
  rw [ex0, ex1, ex2, ex3, ey0, ey1, ey2, ey3, ez0, ez1, ez2, ez3] at h
  exact h


end Go.Proofs.Ytamigjdankkmjaa
