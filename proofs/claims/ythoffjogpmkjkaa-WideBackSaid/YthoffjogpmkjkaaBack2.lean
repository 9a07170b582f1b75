/-
  The walk of the statement WideBack.
-/
import Derived.Test.YthoffjogpmkjkaaCounts2
import Derived.Test.YthoffjogpmkjkaaWideN
set_option linter.unusedVariables false
set_option linter.unusedSimpArgs false
namespace Go.Proofs.Ythoffjogpmkjkaa
open Go.RowKit
attribute [local go_sem ↓] Go.wp_at_zero Go.wp_at_succ

set_option maxHeartbeats 4000000 in
set_option maxRecDepth 100000 in
theorem back2_core (a0 a1 a2 a3 b0 b1 b2 b3 c0 c1 c2 c3 x0 x1 x2 x3 p0 p1 p2 p3 q0 q1 q2 q3 r : Int) (k k3 k4 k5 k6 : Bool)
    (h0 : Hid (∀ w, Calls Try.prog 17 #[.agg #[.int .u64 a0, .int .u64 a1, .int .u64 a2, .int .u64 a3], .agg #[.int .u64 b0, .int .u64 b1, .int .u64 b2, .int .u64 b3]] w fun e w' => e = .returned (.tuple #[.agg #[.int .u64 x0, .int .u64 x1, .int .u64 x2, .int .u64 x3], .bool k]) ∧ Below w.heap.size w w'))
    (h1 : Hid (∀ w, Calls Try.prog 19 #[.agg #[.int .u64 x0, .int .u64 x1, .int .u64 x2, .int .u64 x3], .agg #[.int .u64 b0, .int .u64 b1, .int .u64 b2, .int .u64 b3]] w fun e w' => e = .returned (.tuple #[.agg #[.int .u64 a0, .int .u64 a1, .int .u64 a2, .int .u64 a3], .bool k]) ∧ Below w.heap.size w w'))
    (h2 : Hid (∀ w, Calls Try.prog 17 #[.agg #[.int .u64 b0, .int .u64 b1, .int .u64 b2, .int .u64 b3], .agg #[.int .u64 a0, .int .u64 a1, .int .u64 a2, .int .u64 a3]] w fun e w' => e = .returned (.tuple #[.agg #[.int .u64 x0, .int .u64 x1, .int .u64 x2, .int .u64 x3], .bool k3]) ∧ Below w.heap.size w w'))
    (h3 : Hid (∀ w, Calls Try.prog 17 #[.agg #[.int .u64 x0, .int .u64 x1, .int .u64 x2, .int .u64 x3], .agg #[.int .u64 c0, .int .u64 c1, .int .u64 c2, .int .u64 c3]] w fun e w' => e = .returned (.tuple #[.agg #[.int .u64 p0, .int .u64 p1, .int .u64 p2, .int .u64 p3], .bool k4]) ∧ Below w.heap.size w w'))
    (h4 : Hid (∀ w, Calls Try.prog 17 #[.agg #[.int .u64 b0, .int .u64 b1, .int .u64 b2, .int .u64 b3], .agg #[.int .u64 c0, .int .u64 c1, .int .u64 c2, .int .u64 c3]] w fun e w' => e = .returned (.tuple #[.agg #[.int .u64 q0, .int .u64 q1, .int .u64 q2, .int .u64 q3], .bool k5]) ∧ Below w.heap.size w w'))
    (h5 : Hid (∀ w, Calls Try.prog 17 #[.agg #[.int .u64 a0, .int .u64 a1, .int .u64 a2, .int .u64 a3], .agg #[.int .u64 q0, .int .u64 q1, .int .u64 q2, .int .u64 q3]] w fun e w' => e = .returned (.tuple #[.agg #[.int .u64 p0, .int .u64 p1, .int .u64 p2, .int .u64 p3], .bool k6]) ∧ Below w.heap.size w w'))
    (h6 : Hid (∀ w, Calls Try.prog 22 #[.agg #[.int .u64 x0, .int .u64 x1, .int .u64 x2, .int .u64 x3], .agg #[.int .u64 a0, .int .u64 a1, .int .u64 a2, .int .u64 a3]] w fun e w' => e = .returned (.int .i64 r) ∧ Below w.heap.size w w')) (hq : (k == decide (r < 0)) = true) (w : World) :
    Calls Try.prog 5 #[.agg #[.int .u64 a0, .int .u64 a1, .int .u64 a2, .int .u64 a3], .agg #[.int .u64 b0, .int .u64 b1, .int .u64 b2, .int .u64 b3], .agg #[.int .u64 c0, .int .u64 c1, .int .u64 c2, .int .u64 c3]] w fun e w' => e = .returned (.bool true) ∧ Below w.heap.size w w' := by
  have Ea := eqw a0 a1 a2 a3
  have Ex := eqw x0 x1 x2 x3
  have Ep := eqw p0 p1 p2 p3
  go_enter Try.func5, Try.ntmps5
  go_wp2_with fail
  (with_reducible refine (h0.out _).mono ?_); rintro e w1 ⟨rfl, hb⟩
  have hz := bC (bA (bA (bA (Below.refl _ _) _) _) _) hb
  have cX0_0 := cell_later hb (a := ⟨w.heap.size, 0, none⟩) (v := .int .u64 a0) (by go_simp)
  have cX0_1 := cell_later hb (a := ⟨w.heap.size, 1, none⟩) (v := .int .u64 a1) (by go_simp)
  have cX0_2 := cell_later hb (a := ⟨w.heap.size, 2, none⟩) (v := .int .u64 a2) (by go_simp)
  have cX0_3 := cell_later hb (a := ⟨w.heap.size, 3, none⟩) (v := .int .u64 a3) (by go_simp)
  have sX0 : w.heap.size < w1.heap.size := World.block_lt_of_cell? _ _ cX0_0
  have cX1_0 := cell_later hb (a := ⟨w.heap.size + 1, 0, none⟩) (v := .int .u64 b0) (by go_simp)
  have cX1_1 := cell_later hb (a := ⟨w.heap.size + 1, 1, none⟩) (v := .int .u64 b1) (by go_simp)
  have cX1_2 := cell_later hb (a := ⟨w.heap.size + 1, 2, none⟩) (v := .int .u64 b2) (by go_simp)
  have cX1_3 := cell_later hb (a := ⟨w.heap.size + 1, 3, none⟩) (v := .int .u64 b3) (by go_simp)
  have sX1 : w.heap.size + 1 < w1.heap.size := World.block_lt_of_cell? _ _ cX1_0
  have cX2_0 := cell_later hb (a := ⟨w.heap.size + 1 + 1, 0, none⟩) (v := .int .u64 c0) (by go_simp)
  have cX2_1 := cell_later hb (a := ⟨w.heap.size + 1 + 1, 1, none⟩) (v := .int .u64 c1) (by go_simp)
  have cX2_2 := cell_later hb (a := ⟨w.heap.size + 1 + 1, 2, none⟩) (v := .int .u64 c2) (by go_simp)
  have cX2_3 := cell_later hb (a := ⟨w.heap.size + 1 + 1, 3, none⟩) (v := .int .u64 c3) (by go_simp)
  have sX2 : w.heap.size + 1 + 1 < w1.heap.size := World.block_lt_of_cell? _ _ cX2_0
  have kk := hz
  clear hb hz
  go_wp2_with fail
  (with_reducible refine (h1.out _).mono ?_); rintro e w2 ⟨rfl, hb⟩
  have hz := bC (bA (Below.refl _ _) _) hb
  have nX0_X3 : w.heap.size < w1.heap.size := by omega
  have nX1_X3 : w.heap.size + 1 < w1.heap.size := by omega
  have nX2_X3 : w.heap.size + 1 + 1 < w1.heap.size := by omega
  have gX3 : w.heap.size ≤ w1.heap.size := by have := kk.size; omega
  replace cX0_0 := cell_later hz cX0_0; replace cX0_1 := cell_later hz cX0_1; replace cX0_2 := cell_later hz cX0_2; replace cX0_3 := cell_later hz cX0_3
  replace sX0 : w.heap.size < w2.heap.size := World.block_lt_of_cell? _ _ cX0_0
  replace cX1_0 := cell_later hz cX1_0; replace cX1_1 := cell_later hz cX1_1; replace cX1_2 := cell_later hz cX1_2; replace cX1_3 := cell_later hz cX1_3
  replace sX1 : w.heap.size + 1 < w2.heap.size := World.block_lt_of_cell? _ _ cX1_0
  replace cX2_0 := cell_later hz cX2_0; replace cX2_1 := cell_later hz cX2_1; replace cX2_2 := cell_later hz cX2_2; replace cX2_3 := cell_later hz cX2_3
  replace sX2 : w.heap.size + 1 + 1 < w2.heap.size := World.block_lt_of_cell? _ _ cX2_0
  have cX3_0 := cell_later hb (a := ⟨w1.heap.size, 0, none⟩) (v := .int .u64 x0) (by go_simp)
  have cX3_1 := cell_later hb (a := ⟨w1.heap.size, 1, none⟩) (v := .int .u64 x1) (by go_simp)
  have cX3_2 := cell_later hb (a := ⟨w1.heap.size, 2, none⟩) (v := .int .u64 x2) (by go_simp)
  have cX3_3 := cell_later hb (a := ⟨w1.heap.size, 3, none⟩) (v := .int .u64 x3) (by go_simp)
  have sX3 : w1.heap.size < w2.heap.size := World.block_lt_of_cell? _ _ cX3_0
  have fX3_0 := frozen_later hb (a := ⟨w1.heap.size, 0, none⟩) (v := .int .u64 x0) (by go_simp) (by go_simp)
  have fX3_1 := frozen_later hb (a := ⟨w1.heap.size, 1, none⟩) (v := .int .u64 x1) (by go_simp) (by go_simp)
  have fX3_2 := frozen_later hb (a := ⟨w1.heap.size, 2, none⟩) (v := .int .u64 x2) (by go_simp) (by go_simp)
  have fX3_3 := frozen_later hb (a := ⟨w1.heap.size, 3, none⟩) (v := .int .u64 x3) (by go_simp) (by go_simp)
  replace kk := bC kk hz
  clear hb hz
  go_wp2_with fail
  (with_reducible refine (h2.out _).mono ?_); rintro e w3 ⟨rfl, hb⟩
  have hz := bC (bA (Below.refl _ _) _) hb
  have nX0_X4 : w.heap.size < w2.heap.size := by omega
  have nX1_X4 : w.heap.size + 1 < w2.heap.size := by omega
  have nX2_X4 : w.heap.size + 1 + 1 < w2.heap.size := by omega
  have nX3_X4 : w1.heap.size < w2.heap.size := by omega
  have gX4 : w.heap.size ≤ w2.heap.size := by have := kk.size; omega
  replace cX0_0 := cell_later hz cX0_0; replace cX0_1 := cell_later hz cX0_1; replace cX0_2 := cell_later hz cX0_2; replace cX0_3 := cell_later hz cX0_3
  replace sX0 : w.heap.size < w3.heap.size := World.block_lt_of_cell? _ _ cX0_0
  replace cX1_0 := cell_later hz cX1_0; replace cX1_1 := cell_later hz cX1_1; replace cX1_2 := cell_later hz cX1_2; replace cX1_3 := cell_later hz cX1_3
  replace sX1 : w.heap.size + 1 < w3.heap.size := World.block_lt_of_cell? _ _ cX1_0
  replace cX2_0 := cell_later hz cX2_0; replace cX2_1 := cell_later hz cX2_1; replace cX2_2 := cell_later hz cX2_2; replace cX2_3 := cell_later hz cX2_3
  replace sX2 : w.heap.size + 1 + 1 < w3.heap.size := World.block_lt_of_cell? _ _ cX2_0
  replace fX3_0 := frozen_later hz cX3_0 fX3_0; replace fX3_1 := frozen_later hz cX3_1 fX3_1; replace fX3_2 := frozen_later hz cX3_2 fX3_2; replace fX3_3 := frozen_later hz cX3_3 fX3_3
  replace cX3_0 := cell_later hz cX3_0; replace cX3_1 := cell_later hz cX3_1; replace cX3_2 := cell_later hz cX3_2; replace cX3_3 := cell_later hz cX3_3
  replace sX3 : w1.heap.size < w3.heap.size := World.block_lt_of_cell? _ _ cX3_0
  have cX4_0 := cell_later hb (a := ⟨w2.heap.size, 0, none⟩) (v := .int .u64 a0) (by go_simp)
  have cX4_1 := cell_later hb (a := ⟨w2.heap.size, 1, none⟩) (v := .int .u64 a1) (by go_simp)
  have cX4_2 := cell_later hb (a := ⟨w2.heap.size, 2, none⟩) (v := .int .u64 a2) (by go_simp)
  have cX4_3 := cell_later hb (a := ⟨w2.heap.size, 3, none⟩) (v := .int .u64 a3) (by go_simp)
  have sX4 : w2.heap.size < w3.heap.size := World.block_lt_of_cell? _ _ cX4_0
  have fX4_0 := frozen_later hb (a := ⟨w2.heap.size, 0, none⟩) (v := .int .u64 a0) (by go_simp) (by go_simp)
  have fX4_1 := frozen_later hb (a := ⟨w2.heap.size, 1, none⟩) (v := .int .u64 a1) (by go_simp) (by go_simp)
  have fX4_2 := frozen_later hb (a := ⟨w2.heap.size, 2, none⟩) (v := .int .u64 a2) (by go_simp) (by go_simp)
  have fX4_3 := frozen_later hb (a := ⟨w2.heap.size, 3, none⟩) (v := .int .u64 a3) (by go_simp) (by go_simp)
  replace kk := bC kk hz
  clear hb hz
  go_wp2_with fail
  (with_reducible refine (h3.out _).mono ?_); rintro e w4 ⟨rfl, hb⟩
  have hz := bC (bA (Below.refl _ _) _) hb
  have nX0_X5 : w.heap.size < w3.heap.size := by omega
  have nX1_X5 : w.heap.size + 1 < w3.heap.size := by omega
  have nX2_X5 : w.heap.size + 1 + 1 < w3.heap.size := by omega
  have nX3_X5 : w1.heap.size < w3.heap.size := by omega
  have nX4_X5 : w2.heap.size < w3.heap.size := by omega
  have gX5 : w.heap.size ≤ w3.heap.size := by have := kk.size; omega
  replace cX0_0 := cell_later hz cX0_0; replace cX0_1 := cell_later hz cX0_1; replace cX0_2 := cell_later hz cX0_2; replace cX0_3 := cell_later hz cX0_3
  replace sX0 : w.heap.size < w4.heap.size := World.block_lt_of_cell? _ _ cX0_0
  replace cX1_0 := cell_later hz cX1_0; replace cX1_1 := cell_later hz cX1_1; replace cX1_2 := cell_later hz cX1_2; replace cX1_3 := cell_later hz cX1_3
  replace sX1 : w.heap.size + 1 < w4.heap.size := World.block_lt_of_cell? _ _ cX1_0
  replace cX2_0 := cell_later hz cX2_0; replace cX2_1 := cell_later hz cX2_1; replace cX2_2 := cell_later hz cX2_2; replace cX2_3 := cell_later hz cX2_3
  replace sX2 : w.heap.size + 1 + 1 < w4.heap.size := World.block_lt_of_cell? _ _ cX2_0
  replace fX3_0 := frozen_later hz cX3_0 fX3_0; replace fX3_1 := frozen_later hz cX3_1 fX3_1; replace fX3_2 := frozen_later hz cX3_2 fX3_2; replace fX3_3 := frozen_later hz cX3_3 fX3_3
  replace cX3_0 := cell_later hz cX3_0; replace cX3_1 := cell_later hz cX3_1; replace cX3_2 := cell_later hz cX3_2; replace cX3_3 := cell_later hz cX3_3
  replace sX3 : w1.heap.size < w4.heap.size := World.block_lt_of_cell? _ _ cX3_0
  replace fX4_0 := frozen_later hz cX4_0 fX4_0; replace fX4_1 := frozen_later hz cX4_1 fX4_1; replace fX4_2 := frozen_later hz cX4_2 fX4_2; replace fX4_3 := frozen_later hz cX4_3 fX4_3
  replace cX4_0 := cell_later hz cX4_0; replace cX4_1 := cell_later hz cX4_1; replace cX4_2 := cell_later hz cX4_2; replace cX4_3 := cell_later hz cX4_3
  replace sX4 : w2.heap.size < w4.heap.size := World.block_lt_of_cell? _ _ cX4_0
  have cX5_0 := cell_later hb (a := ⟨w3.heap.size, 0, none⟩) (v := .int .u64 x0) (by go_simp)
  have cX5_1 := cell_later hb (a := ⟨w3.heap.size, 1, none⟩) (v := .int .u64 x1) (by go_simp)
  have cX5_2 := cell_later hb (a := ⟨w3.heap.size, 2, none⟩) (v := .int .u64 x2) (by go_simp)
  have cX5_3 := cell_later hb (a := ⟨w3.heap.size, 3, none⟩) (v := .int .u64 x3) (by go_simp)
  have sX5 : w3.heap.size < w4.heap.size := World.block_lt_of_cell? _ _ cX5_0
  have fX5_0 := frozen_later hb (a := ⟨w3.heap.size, 0, none⟩) (v := .int .u64 x0) (by go_simp) (by go_simp)
  have fX5_1 := frozen_later hb (a := ⟨w3.heap.size, 1, none⟩) (v := .int .u64 x1) (by go_simp) (by go_simp)
  have fX5_2 := frozen_later hb (a := ⟨w3.heap.size, 2, none⟩) (v := .int .u64 x2) (by go_simp) (by go_simp)
  have fX5_3 := frozen_later hb (a := ⟨w3.heap.size, 3, none⟩) (v := .int .u64 x3) (by go_simp) (by go_simp)
  replace kk := bC kk hz
  clear hb hz
  go_wp2_with fail
  (with_reducible refine (h4.out _).mono ?_); rintro e w5 ⟨rfl, hb⟩
  have hz := bC (bA (Below.refl _ _) _) hb
  have nX0_X6 : w.heap.size < w4.heap.size := by omega
  have nX3_X6 : w1.heap.size < w4.heap.size := by omega
  have nX4_X6 : w2.heap.size < w4.heap.size := by omega
  have nX5_X6 : w3.heap.size < w4.heap.size := by omega
  have gX6 : w.heap.size ≤ w4.heap.size := by have := kk.size; omega
  replace cX0_0 := cell_later hz cX0_0; replace cX0_1 := cell_later hz cX0_1; replace cX0_2 := cell_later hz cX0_2; replace cX0_3 := cell_later hz cX0_3
  replace sX0 : w.heap.size < w5.heap.size := World.block_lt_of_cell? _ _ cX0_0
  clear cX1_0 cX1_1 cX1_2 cX1_3 sX1
  clear cX2_0 cX2_1 cX2_2 cX2_3 sX2
  replace fX3_0 := frozen_later hz cX3_0 fX3_0; replace fX3_1 := frozen_later hz cX3_1 fX3_1; replace fX3_2 := frozen_later hz cX3_2 fX3_2; replace fX3_3 := frozen_later hz cX3_3 fX3_3
  replace cX3_0 := cell_later hz cX3_0; replace cX3_1 := cell_later hz cX3_1; replace cX3_2 := cell_later hz cX3_2; replace cX3_3 := cell_later hz cX3_3
  replace sX3 : w1.heap.size < w5.heap.size := World.block_lt_of_cell? _ _ cX3_0
  replace fX4_0 := frozen_later hz cX4_0 fX4_0; replace fX4_1 := frozen_later hz cX4_1 fX4_1; replace fX4_2 := frozen_later hz cX4_2 fX4_2; replace fX4_3 := frozen_later hz cX4_3 fX4_3
  replace cX4_0 := cell_later hz cX4_0; replace cX4_1 := cell_later hz cX4_1; replace cX4_2 := cell_later hz cX4_2; replace cX4_3 := cell_later hz cX4_3
  replace sX4 : w2.heap.size < w5.heap.size := World.block_lt_of_cell? _ _ cX4_0
  replace fX5_0 := frozen_later hz cX5_0 fX5_0; replace fX5_1 := frozen_later hz cX5_1 fX5_1; replace fX5_2 := frozen_later hz cX5_2 fX5_2; replace fX5_3 := frozen_later hz cX5_3 fX5_3
  replace cX5_0 := cell_later hz cX5_0; replace cX5_1 := cell_later hz cX5_1; replace cX5_2 := cell_later hz cX5_2; replace cX5_3 := cell_later hz cX5_3
  replace sX5 : w3.heap.size < w5.heap.size := World.block_lt_of_cell? _ _ cX5_0
  have cX6_0 := cell_later hb (a := ⟨w4.heap.size, 0, none⟩) (v := .int .u64 p0) (by go_simp)
  have cX6_1 := cell_later hb (a := ⟨w4.heap.size, 1, none⟩) (v := .int .u64 p1) (by go_simp)
  have cX6_2 := cell_later hb (a := ⟨w4.heap.size, 2, none⟩) (v := .int .u64 p2) (by go_simp)
  have cX6_3 := cell_later hb (a := ⟨w4.heap.size, 3, none⟩) (v := .int .u64 p3) (by go_simp)
  have sX6 : w4.heap.size < w5.heap.size := World.block_lt_of_cell? _ _ cX6_0
  have fX6_0 := frozen_later hb (a := ⟨w4.heap.size, 0, none⟩) (v := .int .u64 p0) (by go_simp) (by go_simp)
  have fX6_1 := frozen_later hb (a := ⟨w4.heap.size, 1, none⟩) (v := .int .u64 p1) (by go_simp) (by go_simp)
  have fX6_2 := frozen_later hb (a := ⟨w4.heap.size, 2, none⟩) (v := .int .u64 p2) (by go_simp) (by go_simp)
  have fX6_3 := frozen_later hb (a := ⟨w4.heap.size, 3, none⟩) (v := .int .u64 p3) (by go_simp) (by go_simp)
  replace kk := bC kk hz
  clear hb hz
  go_wp2_with fail
  (with_reducible refine (h5.out _).mono ?_); rintro e w6 ⟨rfl, hb⟩
  have hz := bC (bA (Below.refl _ _) _) hb
  have gX7 : w.heap.size ≤ w5.heap.size := by have := kk.size; omega
  replace cX0_0 := cell_later hz cX0_0; replace cX0_1 := cell_later hz cX0_1; replace cX0_2 := cell_later hz cX0_2; replace cX0_3 := cell_later hz cX0_3
  replace sX0 : w.heap.size < w6.heap.size := World.block_lt_of_cell? _ _ cX0_0
  replace fX3_0 := frozen_later hz cX3_0 fX3_0; replace fX3_1 := frozen_later hz cX3_1 fX3_1; replace fX3_2 := frozen_later hz cX3_2 fX3_2; replace fX3_3 := frozen_later hz cX3_3 fX3_3
  replace cX3_0 := cell_later hz cX3_0; replace cX3_1 := cell_later hz cX3_1; replace cX3_2 := cell_later hz cX3_2; replace cX3_3 := cell_later hz cX3_3
  replace sX3 : w1.heap.size < w6.heap.size := World.block_lt_of_cell? _ _ cX3_0
  replace fX4_0 := frozen_later hz cX4_0 fX4_0; replace fX4_1 := frozen_later hz cX4_1 fX4_1; replace fX4_2 := frozen_later hz cX4_2 fX4_2; replace fX4_3 := frozen_later hz cX4_3 fX4_3
  replace cX4_0 := cell_later hz cX4_0; replace cX4_1 := cell_later hz cX4_1; replace cX4_2 := cell_later hz cX4_2; replace cX4_3 := cell_later hz cX4_3
  replace sX4 : w2.heap.size < w6.heap.size := World.block_lt_of_cell? _ _ cX4_0
  replace fX5_0 := frozen_later hz cX5_0 fX5_0; replace fX5_1 := frozen_later hz cX5_1 fX5_1; replace fX5_2 := frozen_later hz cX5_2 fX5_2; replace fX5_3 := frozen_later hz cX5_3 fX5_3
  replace cX5_0 := cell_later hz cX5_0; replace cX5_1 := cell_later hz cX5_1; replace cX5_2 := cell_later hz cX5_2; replace cX5_3 := cell_later hz cX5_3
  replace sX5 : w3.heap.size < w6.heap.size := World.block_lt_of_cell? _ _ cX5_0
  replace fX6_0 := frozen_later hz cX6_0 fX6_0; replace fX6_1 := frozen_later hz cX6_1 fX6_1; replace fX6_2 := frozen_later hz cX6_2 fX6_2; replace fX6_3 := frozen_later hz cX6_3 fX6_3
  replace cX6_0 := cell_later hz cX6_0; replace cX6_1 := cell_later hz cX6_1; replace cX6_2 := cell_later hz cX6_2; replace cX6_3 := cell_later hz cX6_3
  replace sX6 : w4.heap.size < w6.heap.size := World.block_lt_of_cell? _ _ cX6_0
  replace kk := bC kk hz
  clear hb hz
  go_wp2_with fail
  (with_reducible refine (h6.out _).mono ?_); rintro e w7 ⟨rfl, hb⟩
  have hz := bC (bA (Below.refl _ _) _) hb
  have gX8 : w.heap.size ≤ w6.heap.size := by have := kk.size; omega
  clear cX0_0 cX0_1 cX0_2 cX0_3 sX0
  clear cX3_0 cX3_1 cX3_2 cX3_3 sX3
  clear cX4_0 cX4_1 cX4_2 cX4_3 sX4
  clear cX5_0 cX5_1 cX5_2 cX5_3 sX5
  clear cX6_0 cX6_1 cX6_2 cX6_3 sX6
  replace kk := bC kk hz
  clear hb hz
  go_wp2_with fail
  (with_reducible refine (counts2_any _).mono ?_); rintro e w8 ⟨rfl, hb⟩
  replace kk := bC kk hb
  clear hb
  go_wp2_with fail
  go_ret
  exact ⟨rfl, kk⟩
theorem back2_flag {n m : Int} : decide ((n + m) % wfull < m % wfull) = decide (wfull ≤ n % wfull + m % wfull) := by
  rw [Int.add_emod]
  have h1 := Int.emod_nonneg n (show wfull ≠ 0 by decide); have h2 := Int.emod_lt_of_pos n (show 0 < wfull by decide)
  have h3 := Int.emod_nonneg m (show wfull ≠ 0 by decide); have h4 := Int.emod_lt_of_pos m (show 0 < wfull by decide)
  generalize n % wfull = x at *; generalize m % wfull = y at *
  unfold wfull at *; rw [Bool.eq_iff_iff]; simp only [decide_eq_true_eq]; omega
theorem cmpI_lt (x y : Int) : decide (cmpI x y < 0) = decide (x < y) := by
  have c := cmpI_cases x y
  rw [Bool.eq_iff_iff]; simp only [decide_eq_true_eq]
  rcases Int.lt_trichotomy x y with h | h | h
  · rw [c.1 h]; simp [h]
  · rw [c.2.2 h]; simp; omega
  · rw [c.2.1 h]; simp; omega
theorem back2_walk (n m k : Int) (w : World) :
    Calls Try.prog 5 #[.agg #[.int .u64 (wd0 (n)), .int .u64 (wd1 (n)), .int .u64 (wd2 (n)), .int .u64 (wd3 (n))], .agg #[.int .u64 (wd0 (m)), .int .u64 (wd1 (m)), .int .u64 (wd2 (m)), .int .u64 (wd3 (m))], .agg #[.int .u64 (wd0 (k)), .int .u64 (wd1 (k)), .int .u64 (wd2 (k)), .int .u64 (wd3 (k))]] w fun e w' => e = .returned (.bool true) ∧ Below w.heap.size w w' := by
  have h1 := addW n m
  have h2 := subW (n + m) m
  rw [Int.add_sub_cancel, back2_flag] at h2
  have h3 := addW m n
  rw [Int.add_comm m n] at h3
  have h4 := addW (n + m) k
  have h5 := addW m k
  have h6 := addW n (m + k)
  rw [← Int.add_assoc] at h6
  have h7 := cmpW (n + m) n
  refine back2_core _ _ _ _ _ _ _ _ _ _ _ _ _ _ _ _ _ _ _ _ _ _ _ _ _ _ _ _ _ _ h1 h2 h3 h4 h5 h6 h7 ?_ w
  rw [cmpI_lt, Int.add_comm n m, back2_flag, Int.add_comm (n % wfull)]; simp

theorem back2_law (a0 a1 a2 a3 b0 b1 b2 b3 c0 c1 c2 c3 : Int) (ua0 : U64 a0) (ua1 : U64 a1) (ua2 : U64 a2) (ua3 : U64 a3) (ub0 : U64 b0) (ub1 : U64 b1) (ub2 : U64 b2) (ub3 : U64 b3) (uc0 : U64 c0) (uc1 : U64 c1) (uc2 : U64 c2) (uc3 : U64 c3) (w : World) :
    Calls Try.prog 5 #[.agg #[.int .u64 a0, .int .u64 a1, .int .u64 a2, .int .u64 a3], .agg #[.int .u64 b0, .int .u64 b1, .int .u64 b2, .int .u64 b3], .agg #[.int .u64 c0, .int .u64 c1, .int .u64 c2, .int .u64 c3]] w fun e w' => e = .returned (.bool true) ∧ Below w.heap.size w w' := by
  have h := back2_walk (wval a0 a1 a2 a3) (wval b0 b1 b2 b3) (wval c0 c1 c2 c3) w
  obtain ⟨e0, e1, e2, e3⟩ := wd_wval ua0 ua1 ua2 ua3
  obtain ⟨f0, f1, f2, f3⟩ := wd_wval ub0 ub1 ub2 ub3
  obtain ⟨g0, g1, g2, g3⟩ := wd_wval uc0 uc1 uc2 uc3
  rw [e0, e1, e2, e3, f0, f1, f2, f3, g0, g1, g2, g3] at h
  exact h

end Go.Proofs.Ythoffjogpmkjkaa
