/-
  MagSums.
-/
import Derived.Test.YtamigjdankkmjaaSums17
import Derived.Test.YtamigjdankkmjaaRef17
import Derived.Test.YtamigjdankkmjaaGoes17L
set_option linter.unusedVariables false
set_option linter.unusedSimpArgs false
set_option maxRecDepth 100000
namespace Go.Proofs.Ytamigjdankkmjaa
open Go.RowKit
attribute [local go_sem ↓] Go.wp_at_zero Go.wp_at_succ

theorem sums17_law_n (O : MagOK) (e x g y cc en nh nl : Int) (ng : Bool) (x0 : 0 ≤ x) (x1 : x < wfull) (y0 : 0 ≤ y) (y1 : y < wfull) (ue : -9223372036854775808 ≤ e ∧ e ≤ 9223372036854775807) (ug : -9223372036854775808 ≤ g ∧ g ≤ 9223372036854775807) (uh : U64 nh) (ul : U64 nl) (w : World) : Calls Try.prog 3 #[.agg #[.int .i64 e, .int .u64 (wd0 (x)), .int .u64 (wd1 (x)), .int .u64 (wd2 (x)), .int .u64 (wd3 (x))], .agg #[.int .i64 g, .int .u64 (wd0 (y)), .int .u64 (wd1 (y)), .int .u64 (wd2 (y)), .int .u64 (wd3 (y))], .agg #[.bool ng, .int .u8 cc, .int .i64 en, .int .u64 nh, .int .u64 nl]] w fun e w' => e = .returned (.bool true) ∧ Below w.heap.size w w' := by
  have G := Lib.hid (goes17_any O)
  exact sums17_core e g _ _ _ cc en nh nl _ _ _ _ _ _ _ _ _ _ _ _ _ _ _ _ _ _ _ _ _ ng (Lib.hid (ref17_sum e x g y x0 x1 y0 y1)) (Lib.hid (ref17_diff e x g y x0 x1 y0 y1)) (Lib.hid (O.diff e x g y ue.1 ue.2 x0 x1 ug.1 ug.2 y0 y1)) (Lib.hid (O.sum e x g y ue.1 ue.2 x0 x1 ug.1 ug.2 y0 y1)) (Lib.hid (O.cmp e x g y ue.1 ue.2 x0 x1 ug.1 ug.2 y0 y1)) (Lib.hid (ref17_cmp e x g y x0 x1 y0 y1)) (Lib.hid (O.of_ ng cc en nh nl uh ul)) (Lib.hid (join_any nh nl 0 0)) G w
theorem sums17_law (O : MagOK) (e x0 x1 x2 x3 g y0 y1 y2 y3 : Int) (ng : Bool) (cc en nh nl : Int) (ue : -9223372036854775808 ≤ e ∧ e ≤ 9223372036854775807) (ux0 : U64 x0) (ux1 : U64 x1) (ux2 : U64 x2) (ux3 : U64 x3) (ug : -9223372036854775808 ≤ g ∧ g ≤ 9223372036854775807) (uy0 : U64 y0) (uy1 : U64 y1) (uy2 : U64 y2) (uy3 : U64 y3) (uc : 0 ≤ cc ∧ cc ≤ 255) (un : -9223372036854775808 ≤ en ∧ en ≤ 9223372036854775807) (uh : U64 nh) (ul : U64 nl) (w : World) : Calls Try.prog 3 #[.agg #[.int .i64 e, .int .u64 x0, .int .u64 x1, .int .u64 x2, .int .u64 x3], .agg #[.int .i64 g, .int .u64 y0, .int .u64 y1, .int .u64 y2, .int .u64 y3], .agg #[.bool ng, .int .u8 cc, .int .i64 en, .int .u64 nh, .int .u64 nl]] w fun e w' => e = .returned (.bool true) ∧ Below w.heap.size w w' := by
  obtain ⟨hx0, hx1⟩ := wval_range ux0 ux1 ux2 ux3
  obtain ⟨ex0, ex1, ex2, ex3⟩ := wd_wval ux0 ux1 ux2 ux3
  obtain ⟨hy0, hy1⟩ := wval_range uy0 uy1 uy2 uy3
  obtain ⟨ey0, ey1, ey2, ey3⟩ := wd_wval uy0 uy1 uy2 uy3
  have h := sums17_law_n O e (wval x0 x1 x2 x3) g (wval y0 y1 y2 y3) cc en nh nl ng hx0 hx1 hy0 hy1 ue ug uh ul w
  rw [ex0, ex1, ex2, ex3, ey0, ey1, ey2, ey3] at h
  exact h


end Go.Proofs.Ytamigjdankkmjaa
