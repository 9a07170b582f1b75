/-
  The contract of the helper counts of stage 2's statements: it returns true.
-/
import Derived.Test.YthoffjogpmkjkaaWideX
import Derived.Test.YthoffjogpmkjkaaKinds
set_option linter.unusedVariables false
set_option linter.unusedSimpArgs false
namespace Go.Proofs.Ythoffjogpmkjkaa
open Go.RowKit
attribute [local go_sem ↓] Go.wp_at_zero Go.wp_at_succ

theorem eqw (a0 a1 a2 a3 : Int) (w : World) : (binOp .eql 24 (.agg #[.int .u64 a0, .int .u64 a1, .int .u64 a2, .int .u64 a3]) (.agg #[.int .u64 a0, .int .u64 a1, .int .u64 a2, .int .u64 a3])).run Try.prog w = .ok (.bool true) w := by
  rw [eql_wide]; simp
theorem c2_sub (w : World) : Calls Try.prog 19 #[.agg #[.int .u64 0, .int .u64 0, .int .u64 0, .int .u64 0], .agg #[.int .u64 1, .int .u64 0, .int .u64 0, .int .u64 0]] w fun e w' => e = .returned (.tuple #[.agg #[.int .u64 18446744073709551615, .int .u64 18446744073709551615, .int .u64 18446744073709551615, .int .u64 18446744073709551615], .bool true]) ∧ Below w.heap.size w w' :=
  (wsub_any 0 0 0 0 1 0 0 0 u0 u0 u0 u0 u1 u0 u0 u0 w).mono fun e w' ⟨he, hb⟩ => ⟨he.trans (by
    rw [show wd0 (wval 0 0 0 0 - wval 1 0 0 0) = 18446744073709551615 from by decide +kernel, show wd1 (wval 0 0 0 0 - wval 1 0 0 0) = 18446744073709551615 from by decide +kernel, show wd2 (wval 0 0 0 0 - wval 1 0 0 0) = 18446744073709551615 from by decide +kernel, show wd3 (wval 0 0 0 0 - wval 1 0 0 0) = 18446744073709551615 from by decide +kernel, show decide (wval 0 0 0 0 < wval 1 0 0 0) = true from by decide +kernel]), hb⟩
theorem c2_mul (w : World) : Calls Try.prog 29 #[.agg #[.int .u64 9223372036854775808, .int .u64 0], .agg #[.int .u64 0, .int .u64 2]] w fun e w' => e = .returned (.agg #[.int .u64 0, .int .u64 0, .int .u64 1, .int .u64 0]) ∧ Below w.heap.size w w' :=
  (wmul_any 9223372036854775808 0 0 2 ⟨by decide, by decide⟩ u0 u0 u2 w).mono fun e w' ⟨he, hb⟩ => ⟨he.trans (by
    rw [show wd0 (val 9223372036854775808 0 * val 0 2) = 0 from by decide +kernel, show wd1 (val 9223372036854775808 0 * val 0 2) = 0 from by decide +kernel, show wd2 (val 9223372036854775808 0 * val 0 2) = 1 from by decide +kernel, show wd3 (val 9223372036854775808 0 * val 0 2) = 0 from by decide +kernel]), hb⟩

set_option maxHeartbeats 4000000 in
set_option maxRecDepth 100000 in
theorem counts2_any  (w : World) :
    Calls Try.prog 25 #[] w fun e w' => e = .returned (.bool true) ∧ Below w.heap.size w w' := by
  have E1 := eqw 0 0 1 0
  have E2 := eqw 18446744073709551615 18446744073709551615 18446744073709551615 18446744073709551615
  go_enter Try.func25, Try.ntmps25
  go_wp2_with fail
  (with_reducible refine (c2_sub _).mono ?_); rintro e w1 ⟨rfl, hb⟩
  have kk := hb
  clear hb
  go_wp2_with fail
  (with_reducible refine (c2_mul _).mono ?_); rintro e w2 ⟨rfl, hb⟩
  have hz := bC (bA (Below.refl _ _) _) hb
  have cX0_0 := cell_later hb (a := ⟨w1.heap.size, 0, none⟩) (v := .int .u64 18446744073709551615) (by go_simp)
  have cX0_1 := cell_later hb (a := ⟨w1.heap.size, 1, none⟩) (v := .int .u64 18446744073709551615) (by go_simp)
  have cX0_2 := cell_later hb (a := ⟨w1.heap.size, 2, none⟩) (v := .int .u64 18446744073709551615) (by go_simp)
  have cX0_3 := cell_later hb (a := ⟨w1.heap.size, 3, none⟩) (v := .int .u64 18446744073709551615) (by go_simp)
  replace kk := bC kk hz
  clear hb hz
  go_wp2_with fail
  (with_reducible refine (join_any 0 1 0 0 _).mono ?_); rintro e w3 ⟨rfl, hb⟩
  clear cX0_0 cX0_1 cX0_2 cX0_3
  replace kk := bC kk hb
  clear hb
  go_wp2_with fail
  go_ret
  exact ⟨rfl, kk⟩

end Go.Proofs.Ythoffjogpmkjkaa
