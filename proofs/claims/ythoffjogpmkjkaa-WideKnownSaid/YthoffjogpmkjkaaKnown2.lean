/-
  The walk of the statement WideKnown.
-/
import Derived.Test.YthoffjogpmkjkaaCounts2
import Derived.Test.YthoffjogpmkjkaaWideN
set_option linter.unusedVariables false
set_option linter.unusedSimpArgs false
namespace Go.Proofs.Ythoffjogpmkjkaa
open Go.RowKit
attribute [local go_sem ↓] Go.wp_at_zero Go.wp_at_succ

theorem k2_mul (w : World) : Calls Try.prog 29 #[.agg #[.int .u64 18446744073709551615, .int .u64 18446744073709551615], .agg #[.int .u64 18446744073709551615, .int .u64 18446744073709551615]] w fun e w' => e = .returned (.agg #[.int .u64 1, .int .u64 0, .int .u64 18446744073709551614, .int .u64 18446744073709551615]) ∧ Below w.heap.size w w' :=
  (wmul_any 18446744073709551615 18446744073709551615 18446744073709551615 18446744073709551615 uMax uMax uMax uMax w).mono fun e w' ⟨he, hb⟩ => ⟨he.trans (by rw [show wd0 (val 18446744073709551615 18446744073709551615 * val 18446744073709551615 18446744073709551615) = 1 from by decide +kernel, show wd1 (val 18446744073709551615 18446744073709551615 * val 18446744073709551615 18446744073709551615) = 0 from by decide +kernel, show wd2 (val 18446744073709551615 18446744073709551615 * val 18446744073709551615 18446744073709551615) = 18446744073709551614 from by decide +kernel, show wd3 (val 18446744073709551615 18446744073709551615 * val 18446744073709551615 18446744073709551615) = 18446744073709551615 from by decide +kernel]), hb⟩
theorem k2_add (w : World) : Calls Try.prog 17 #[.agg #[.int .u64 1, .int .u64 0, .int .u64 18446744073709551614, .int .u64 18446744073709551615], .agg #[.int .u64 1, .int .u64 0, .int .u64 18446744073709551614, .int .u64 18446744073709551615]] w fun e w' => e = .returned (.tuple #[.agg #[.int .u64 2, .int .u64 0, .int .u64 18446744073709551612, .int .u64 18446744073709551615], .bool true]) ∧ Below w.heap.size w w' :=
  (wadd_any 1 0 18446744073709551614 18446744073709551615 1 0 18446744073709551614 18446744073709551615 u1 u0 ⟨by decide, by decide⟩ uMax u1 u0 ⟨by decide, by decide⟩ uMax w).mono fun e w' ⟨he, hb⟩ => ⟨he.trans (by rw [show wd0 (wval 1 0 18446744073709551614 18446744073709551615 + wval 1 0 18446744073709551614 18446744073709551615) = 2 from by decide +kernel, show wd1 (wval 1 0 18446744073709551614 18446744073709551615 + wval 1 0 18446744073709551614 18446744073709551615) = 0 from by decide +kernel, show wd2 (wval 1 0 18446744073709551614 18446744073709551615 + wval 1 0 18446744073709551614 18446744073709551615) = 18446744073709551612 from by decide +kernel, show wd3 (wval 1 0 18446744073709551614 18446744073709551615 + wval 1 0 18446744073709551614 18446744073709551615) = 18446744073709551615 from by decide +kernel, show decide (wfull ≤ wval 1 0 18446744073709551614 18446744073709551615 + wval 1 0 18446744073709551614 18446744073709551615) = true from by decide +kernel]), hb⟩
theorem k2_zero (w : World) : Calls Try.prog 24 #[.agg #[.int .u64 0, .int .u64 0, .int .u64 0, .int .u64 0]] w fun e w' => e = .returned (.bool true) ∧ Below w.heap.size w w' :=
  (wzero_any 0 0 0 0 u0 u0 u0 u0 w).mono fun e w' ⟨he, hb⟩ => ⟨he.trans (by rw [show (wval 0 0 0 0 == 0) = true from by decide +kernel]), hb⟩
theorem k2_one (w : World) : Calls Try.prog 24 #[.agg #[.int .u64 0, .int .u64 0, .int .u64 0, .int .u64 1]] w fun e w' => e = .returned (.bool false) ∧ Below w.heap.size w w' :=
  (wzero_any 0 0 0 1 u0 u0 u0 u1 w).mono fun e w' ⟨he, hb⟩ => ⟨he.trans (by rw [show (wval 0 0 0 1 == 0) = false from by decide +kernel]), hb⟩
theorem k2_cmp (w : World) : Calls Try.prog 22 #[.agg #[.int .u64 0, .int .u64 0, .int .u64 1, .int .u64 0], .agg #[.int .u64 9, .int .u64 9, .int .u64 0, .int .u64 0]] w fun e w' => e = .returned (.int .i64 1) ∧ Below w.heap.size w w' :=
  (wcmp_any 0 0 1 0 9 9 0 0 u0 u0 u1 u0 ⟨by decide, by decide⟩ ⟨by decide, by decide⟩ u0 u0 w).mono fun e w' ⟨he, hb⟩ => ⟨he.trans (by rw [show cmpI (wval 0 0 1 0) (wval 9 9 0 0) = 1 from by decide +kernel]), hb⟩
set_option maxHeartbeats 4000000 in
set_option maxRecDepth 100000 in
theorem known2_walk 
     (w : World) :
    Calls Try.prog 9 #[] w fun e w' => e = .returned (.bool true) ∧ Below w.heap.size w w' := by
  have E1 := eqw 1 0 18446744073709551614 18446744073709551615
  have E2 := eqw 2 0 18446744073709551612 18446744073709551615
  go_enter Try.func9, Try.ntmps9
  go_wp2_with fail
  (with_reducible refine (k2_mul _).mono ?_); rintro e w1 ⟨rfl, hb⟩
  have hz := bC (bA (Below.refl _ _) _) hb
  have gX0 : w.heap.size ≤ w.heap.size := by omega
  have kk := hz
  clear hb hz
  go_wp2_with fail
  (with_reducible refine (k2_add _).mono ?_); rintro e w2 ⟨rfl, hb⟩
  have hz := bC (bA (Below.refl _ _) _) hb
  have gX1 : w.heap.size ≤ w1.heap.size := by have := kk.size; omega
  have cX1_0 := cell_later hb (a := ⟨w1.heap.size, 0, none⟩) (v := .int .u64 1) (by go_simp)
  have cX1_1 := cell_later hb (a := ⟨w1.heap.size, 1, none⟩) (v := .int .u64 0) (by go_simp)
  have cX1_2 := cell_later hb (a := ⟨w1.heap.size, 2, none⟩) (v := .int .u64 18446744073709551614) (by go_simp)
  have cX1_3 := cell_later hb (a := ⟨w1.heap.size, 3, none⟩) (v := .int .u64 18446744073709551615) (by go_simp)
  have sX1 : w1.heap.size < w2.heap.size := World.block_lt_of_cell? _ _ cX1_0
  have fX1_0 := frozen_later hb (a := ⟨w1.heap.size, 0, none⟩) (v := .int .u64 1) (by go_simp) (by go_simp)
  have fX1_1 := frozen_later hb (a := ⟨w1.heap.size, 1, none⟩) (v := .int .u64 0) (by go_simp) (by go_simp)
  have fX1_2 := frozen_later hb (a := ⟨w1.heap.size, 2, none⟩) (v := .int .u64 18446744073709551614) (by go_simp) (by go_simp)
  have fX1_3 := frozen_later hb (a := ⟨w1.heap.size, 3, none⟩) (v := .int .u64 18446744073709551615) (by go_simp) (by go_simp)
  replace kk := bC kk hz
  clear hb hz
  go_wp2_with fail
  (with_reducible refine (k2_zero _).mono ?_); rintro e w3 ⟨rfl, hb⟩
  have hz := bC (bA (Below.refl _ _) _) hb
  have gX2 : w.heap.size ≤ w2.heap.size := by have := kk.size; omega
  clear cX1_0 cX1_1 cX1_2 cX1_3 sX1
  replace kk := bC kk hz
  clear hb hz
  go_wp2_with fail
  (with_reducible refine (k2_one _).mono ?_); rintro e w4 ⟨rfl, hb⟩
  replace kk := bC kk hb
  clear hb
  go_wp2_with fail
  (with_reducible refine (k2_cmp _).mono ?_); rintro e w5 ⟨rfl, hb⟩
  replace kk := bC kk hb
  clear hb
  go_wp2_with fail
  (with_reducible refine (counts2_any _).mono ?_); rintro e w6 ⟨rfl, hb⟩
  replace kk := bC kk hb
  clear hb
  go_wp2_with fail
  go_ret
  exact ⟨rfl, kk⟩

end Go.Proofs.Ythoffjogpmkjkaa
