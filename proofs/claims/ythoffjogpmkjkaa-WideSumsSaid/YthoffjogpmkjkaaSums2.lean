/-
  The walk of the statement WideSums.
-/
import Derived.Test.YthoffjogpmkjkaaRef2L
set_option linter.unusedVariables false
set_option linter.unusedSimpArgs false
namespace Go.Proofs.Ythoffjogpmkjkaa
open Go.RowKit
attribute [local go_sem ↓] Go.wp_at_zero Go.wp_at_succ

set_option maxHeartbeats 4000000 in
set_option maxRecDepth 100000 in
theorem sums2_core (a0 a1 a2 a3 b0 b1 b2 b3 x0 x1 x2 x3 z0 z1 z2 z3 n m : Int) (k j zb : Bool)
    (h0 : Hid (∀ w, Calls Try.prog 17 #[.agg #[.int .u64 a0, .int .u64 a1, .int .u64 a2, .int .u64 a3], .agg #[.int .u64 b0, .int .u64 b1, .int .u64 b2, .int .u64 b3]] w fun e w' => e = .returned (.tuple #[.agg #[.int .u64 x0, .int .u64 x1, .int .u64 x2, .int .u64 x3], .bool k]) ∧ Below w.heap.size w w'))
    (h1 : Hid (∀ w, Calls Try.prog 18 #[.agg #[.int .u64 a0, .int .u64 a1, .int .u64 a2, .int .u64 a3], .agg #[.int .u64 b0, .int .u64 b1, .int .u64 b2, .int .u64 b3]] w fun e w' => e = .returned (.tuple #[.agg #[.int .u64 x0, .int .u64 x1, .int .u64 x2, .int .u64 x3], .bool k]) ∧ Below w.heap.size w w'))
    (h2 : Hid (∀ w, Calls Try.prog 19 #[.agg #[.int .u64 a0, .int .u64 a1, .int .u64 a2, .int .u64 a3], .agg #[.int .u64 b0, .int .u64 b1, .int .u64 b2, .int .u64 b3]] w fun e w' => e = .returned (.tuple #[.agg #[.int .u64 z0, .int .u64 z1, .int .u64 z2, .int .u64 z3], .bool j]) ∧ Below w.heap.size w w'))
    (h3 : Hid (∀ w, Calls Try.prog 20 #[.agg #[.int .u64 a0, .int .u64 a1, .int .u64 a2, .int .u64 a3], .agg #[.int .u64 b0, .int .u64 b1, .int .u64 b2, .int .u64 b3]] w fun e w' => e = .returned (.tuple #[.agg #[.int .u64 z0, .int .u64 z1, .int .u64 z2, .int .u64 z3], .bool j]) ∧ Below w.heap.size w w'))
    (h6 : Hid (∀ w, Calls Try.prog 22 #[.agg #[.int .u64 a0, .int .u64 a1, .int .u64 a2, .int .u64 a3], .agg #[.int .u64 b0, .int .u64 b1, .int .u64 b2, .int .u64 b3]] w fun e w' => e = .returned (.int .i64 (cmpI n m)) ∧ Below w.heap.size w w'))
    (h8 : Hid (∀ w, Calls Try.prog 24 #[.agg #[.int .u64 a0, .int .u64 a1, .int .u64 a2, .int .u64 a3]] w fun e w' => e = .returned (.bool zb) ∧ Below w.heap.size w w')) (NA : Hid (∀ w, Calls Try.prog 21 #[.agg #[.int .u64 a0, .int .u64 a1, .int .u64 a2, .int .u64 a3]] w (RetNum w n))) (NB : Hid (∀ w, Calls Try.prog 21 #[.agg #[.int .u64 b0, .int .u64 b1, .int .u64 b2, .int .u64 b3]] w (RetNum w m))) (LZ : Hid (∀ w ao k cap, IsNum w (.slice ao k cap) n → ((k : Int) == 0) = zb)) (w : World) :
    Calls Try.prog 3 #[.agg #[.int .u64 a0, .int .u64 a1, .int .u64 a2, .int .u64 a3], .agg #[.int .u64 b0, .int .u64 b1, .int .u64 b2, .int .u64 b3]] w fun e w' => e = .returned (.bool true) ∧ Below w.heap.size w w' := by
  have Ex := eqw x0 x1 x2 x3
  have Ez := eqw z0 z1 z2 z3
  go_enter Try.func3, Try.ntmps3
  go_wp2_with fail
  (with_reducible refine (h0.out _).mono ?_); rintro e w1 ⟨rfl, hb⟩
  have hz := bC (bA (bA (Below.refl _ _) _) _) hb
  have cX0_0 := cell_later hb (a := ⟨w.heap.size, 0, none⟩) (v := .int .u64 a0) (by go_simp)
  have cX0_1 := cell_later hb (a := ⟨w.heap.size, 1, none⟩) (v := .int .u64 a1) (by go_simp)
  have cX0_2 := cell_later hb (a := ⟨w.heap.size, 2, none⟩) (v := .int .u64 a2) (by go_simp)
  have cX0_3 := cell_later hb (a := ⟨w.heap.size, 3, none⟩) (v := .int .u64 a3) (by go_simp)
  have sX0 : w.heap.size < w1.heap.size := World.block_lt_of_cell? _ _ cX0_0
  have cX1_0 := cell_later hb (a := ⟨w.heap.size + 1, 0, none⟩) (v := .int .u64 b0) (by go_simp)
  have cX1_1 := cell_later hb (a := ⟨w.heap.size + 1, 1, none⟩) (v := .int .u64 b1) (by go_simp)
  have cX1_2 := cell_later hb (a := ⟨w.heap.size + 1, 2, none⟩) (v := .int .u64 b2) (by go_simp)
  have cX1_3 := cell_later hb (a := ⟨w.heap.size + 1, 3, none⟩) (v := .int .u64 b3) (by go_simp)
  have sX1 : w.heap.size + 1 < w1.heap.size := World.block_lt_of_cell? _ _ cX1_0
  have kk := hz
  clear hb hz
  go_wp2_with fail
  (with_reducible refine (h1.out _).mono ?_); rintro e w2 ⟨rfl, hb⟩
  have hz := bC (bA (Below.refl _ _) _) hb
  have nX0_X2 : w.heap.size < w1.heap.size := by omega
  have nX1_X2 : w.heap.size + 1 < w1.heap.size := by omega
  have gX2 : w.heap.size ≤ w1.heap.size := by have := kk.size; omega
  replace cX0_0 := cell_later hz cX0_0; replace cX0_1 := cell_later hz cX0_1; replace cX0_2 := cell_later hz cX0_2; replace cX0_3 := cell_later hz cX0_3
  replace sX0 : w.heap.size < w2.heap.size := World.block_lt_of_cell? _ _ cX0_0
  replace cX1_0 := cell_later hz cX1_0; replace cX1_1 := cell_later hz cX1_1; replace cX1_2 := cell_later hz cX1_2; replace cX1_3 := cell_later hz cX1_3
  replace sX1 : w.heap.size + 1 < w2.heap.size := World.block_lt_of_cell? _ _ cX1_0
  have cX2_0 := cell_later hb (a := ⟨w1.heap.size, 0, none⟩) (v := .int .u64 x0) (by go_simp)
  have cX2_1 := cell_later hb (a := ⟨w1.heap.size, 1, none⟩) (v := .int .u64 x1) (by go_simp)
  have cX2_2 := cell_later hb (a := ⟨w1.heap.size, 2, none⟩) (v := .int .u64 x2) (by go_simp)
  have cX2_3 := cell_later hb (a := ⟨w1.heap.size, 3, none⟩) (v := .int .u64 x3) (by go_simp)
  have sX2 : w1.heap.size < w2.heap.size := World.block_lt_of_cell? _ _ cX2_0
  have fX2_0 := frozen_later hb (a := ⟨w1.heap.size, 0, none⟩) (v := .int .u64 x0) (by go_simp) (by go_simp)
  have fX2_1 := frozen_later hb (a := ⟨w1.heap.size, 1, none⟩) (v := .int .u64 x1) (by go_simp) (by go_simp)
  have fX2_2 := frozen_later hb (a := ⟨w1.heap.size, 2, none⟩) (v := .int .u64 x2) (by go_simp) (by go_simp)
  have fX2_3 := frozen_later hb (a := ⟨w1.heap.size, 3, none⟩) (v := .int .u64 x3) (by go_simp) (by go_simp)
  replace kk := bC kk hz
  clear hb hz
  go_wp2_with fail
  (with_reducible refine (h2.out _).mono ?_); rintro e w3 ⟨rfl, hb⟩
  have hz := bC (bA (Below.refl _ _) _) hb
  have nX0_X3 : w.heap.size < w2.heap.size := by omega
  have nX1_X3 : w.heap.size + 1 < w2.heap.size := by omega
  have nX2_X3 : w1.heap.size < w2.heap.size := by omega
  have gX3 : w.heap.size ≤ w2.heap.size := by have := kk.size; omega
  replace cX0_0 := cell_later hz cX0_0; replace cX0_1 := cell_later hz cX0_1; replace cX0_2 := cell_later hz cX0_2; replace cX0_3 := cell_later hz cX0_3
  replace sX0 : w.heap.size < w3.heap.size := World.block_lt_of_cell? _ _ cX0_0
  replace cX1_0 := cell_later hz cX1_0; replace cX1_1 := cell_later hz cX1_1; replace cX1_2 := cell_later hz cX1_2; replace cX1_3 := cell_later hz cX1_3
  replace sX1 : w.heap.size + 1 < w3.heap.size := World.block_lt_of_cell? _ _ cX1_0
  replace fX2_0 := frozen_later hz cX2_0 fX2_0; replace fX2_1 := frozen_later hz cX2_1 fX2_1; replace fX2_2 := frozen_later hz cX2_2 fX2_2; replace fX2_3 := frozen_later hz cX2_3 fX2_3
  replace cX2_0 := cell_later hz cX2_0; replace cX2_1 := cell_later hz cX2_1; replace cX2_2 := cell_later hz cX2_2; replace cX2_3 := cell_later hz cX2_3
  replace sX2 : w1.heap.size < w3.heap.size := World.block_lt_of_cell? _ _ cX2_0
  have cX3_0 := cell_later hb (a := ⟨w2.heap.size, 0, none⟩) (v := .int .u64 x0) (by go_simp)
  have cX3_1 := cell_later hb (a := ⟨w2.heap.size, 1, none⟩) (v := .int .u64 x1) (by go_simp)
  have cX3_2 := cell_later hb (a := ⟨w2.heap.size, 2, none⟩) (v := .int .u64 x2) (by go_simp)
  have cX3_3 := cell_later hb (a := ⟨w2.heap.size, 3, none⟩) (v := .int .u64 x3) (by go_simp)
  have sX3 : w2.heap.size < w3.heap.size := World.block_lt_of_cell? _ _ cX3_0
  have fX3_0 := frozen_later hb (a := ⟨w2.heap.size, 0, none⟩) (v := .int .u64 x0) (by go_simp) (by go_simp)
  have fX3_1 := frozen_later hb (a := ⟨w2.heap.size, 1, none⟩) (v := .int .u64 x1) (by go_simp) (by go_simp)
  have fX3_2 := frozen_later hb (a := ⟨w2.heap.size, 2, none⟩) (v := .int .u64 x2) (by go_simp) (by go_simp)
  have fX3_3 := frozen_later hb (a := ⟨w2.heap.size, 3, none⟩) (v := .int .u64 x3) (by go_simp) (by go_simp)
  replace kk := bC kk hz
  clear hb hz
  go_wp2_with fail
  (with_reducible refine (h3.out _).mono ?_); rintro e w4 ⟨rfl, hb⟩
  have hz := bC (bA (Below.refl _ _) _) hb
  have nX0_X4 : w.heap.size < w3.heap.size := by omega
  have nX1_X4 : w.heap.size + 1 < w3.heap.size := by omega
  have nX2_X4 : w1.heap.size < w3.heap.size := by omega
  have nX3_X4 : w2.heap.size < w3.heap.size := by omega
  have gX4 : w.heap.size ≤ w3.heap.size := by have := kk.size; omega
  replace cX0_0 := cell_later hz cX0_0; replace cX0_1 := cell_later hz cX0_1; replace cX0_2 := cell_later hz cX0_2; replace cX0_3 := cell_later hz cX0_3
  replace sX0 : w.heap.size < w4.heap.size := World.block_lt_of_cell? _ _ cX0_0
  replace cX1_0 := cell_later hz cX1_0; replace cX1_1 := cell_later hz cX1_1; replace cX1_2 := cell_later hz cX1_2; replace cX1_3 := cell_later hz cX1_3
  replace sX1 : w.heap.size + 1 < w4.heap.size := World.block_lt_of_cell? _ _ cX1_0
  replace fX2_0 := frozen_later hz cX2_0 fX2_0; replace fX2_1 := frozen_later hz cX2_1 fX2_1; replace fX2_2 := frozen_later hz cX2_2 fX2_2; replace fX2_3 := frozen_later hz cX2_3 fX2_3
  replace cX2_0 := cell_later hz cX2_0; replace cX2_1 := cell_later hz cX2_1; replace cX2_2 := cell_later hz cX2_2; replace cX2_3 := cell_later hz cX2_3
  replace sX2 : w1.heap.size < w4.heap.size := World.block_lt_of_cell? _ _ cX2_0
  replace fX3_0 := frozen_later hz cX3_0 fX3_0; replace fX3_1 := frozen_later hz cX3_1 fX3_1; replace fX3_2 := frozen_later hz cX3_2 fX3_2; replace fX3_3 := frozen_later hz cX3_3 fX3_3
  replace cX3_0 := cell_later hz cX3_0; replace cX3_1 := cell_later hz cX3_1; replace cX3_2 := cell_later hz cX3_2; replace cX3_3 := cell_later hz cX3_3
  replace sX3 : w2.heap.size < w4.heap.size := World.block_lt_of_cell? _ _ cX3_0
  have cX4_0 := cell_later hb (a := ⟨w3.heap.size, 0, none⟩) (v := .int .u64 z0) (by go_simp)
  have cX4_1 := cell_later hb (a := ⟨w3.heap.size, 1, none⟩) (v := .int .u64 z1) (by go_simp)
  have cX4_2 := cell_later hb (a := ⟨w3.heap.size, 2, none⟩) (v := .int .u64 z2) (by go_simp)
  have cX4_3 := cell_later hb (a := ⟨w3.heap.size, 3, none⟩) (v := .int .u64 z3) (by go_simp)
  have sX4 : w3.heap.size < w4.heap.size := World.block_lt_of_cell? _ _ cX4_0
  have fX4_0 := frozen_later hb (a := ⟨w3.heap.size, 0, none⟩) (v := .int .u64 z0) (by go_simp) (by go_simp)
  have fX4_1 := frozen_later hb (a := ⟨w3.heap.size, 1, none⟩) (v := .int .u64 z1) (by go_simp) (by go_simp)
  have fX4_2 := frozen_later hb (a := ⟨w3.heap.size, 2, none⟩) (v := .int .u64 z2) (by go_simp) (by go_simp)
  have fX4_3 := frozen_later hb (a := ⟨w3.heap.size, 3, none⟩) (v := .int .u64 z3) (by go_simp) (by go_simp)
  replace kk := bC kk hz
  clear hb hz
  go_wp2_with fail
  have nX0_X5 : w.heap.size < w4.heap.size := by omega
  have nX1_X5 : w.heap.size + 1 < w4.heap.size := by omega
  have nX2_X5 : w1.heap.size < w4.heap.size := by omega
  have nX3_X5 : w2.heap.size < w4.heap.size := by omega
  have nX4_X5 : w3.heap.size < w4.heap.size := by omega
  have gX5 : w.heap.size ≤ w4.heap.size := by have := kk.size; omega
  refine wp_forget (fun W => W.cell? ⟨w.heap.size, 0, none⟩ = some (.int .u64 a0) ∧ W.cell? ⟨w.heap.size, 1, none⟩ = some (.int .u64 a1) ∧ W.cell? ⟨w.heap.size, 2, none⟩ = some (.int .u64 a2) ∧ W.cell? ⟨w.heap.size, 3, none⟩ = some (.int .u64 a3) ∧ W.cell? ⟨w.heap.size + 1, 0, none⟩ = some (.int .u64 b0) ∧ W.cell? ⟨w.heap.size + 1, 1, none⟩ = some (.int .u64 b1) ∧ W.cell? ⟨w.heap.size + 1, 2, none⟩ = some (.int .u64 b2) ∧ W.cell? ⟨w.heap.size + 1, 3, none⟩ = some (.int .u64 b3) ∧ W.cell? ⟨w1.heap.size, 0, none⟩ = some (.int .u64 x0) ∧ W.cell? ⟨w1.heap.size, 1, none⟩ = some (.int .u64 x1) ∧ W.cell? ⟨w1.heap.size, 2, none⟩ = some (.int .u64 x2) ∧ W.cell? ⟨w1.heap.size, 3, none⟩ = some (.int .u64 x3) ∧ W.cell? ⟨w2.heap.size, 0, none⟩ = some (.int .u64 x0) ∧ W.cell? ⟨w2.heap.size, 1, none⟩ = some (.int .u64 x1) ∧ W.cell? ⟨w2.heap.size, 2, none⟩ = some (.int .u64 x2) ∧ W.cell? ⟨w2.heap.size, 3, none⟩ = some (.int .u64 x3) ∧ W.cell? ⟨w3.heap.size, 0, none⟩ = some (.int .u64 z0) ∧ W.cell? ⟨w3.heap.size, 1, none⟩ = some (.int .u64 z1) ∧ W.cell? ⟨w3.heap.size, 2, none⟩ = some (.int .u64 z2) ∧ W.cell? ⟨w3.heap.size, 3, none⟩ = some (.int .u64 z3) ∧ W.cell? ⟨w4.heap.size, 0, none⟩ = some (.int .u64 z0) ∧ W.cell? ⟨w4.heap.size, 1, none⟩ = some (.int .u64 z1) ∧ W.cell? ⟨w4.heap.size, 2, none⟩ = some (.int .u64 z2) ∧ W.cell? ⟨w4.heap.size, 3, none⟩ = some (.int .u64 z3) ∧ W.frozen? ⟨w1.heap.size, 0, none⟩ = false ∧ W.frozen? ⟨w1.heap.size, 1, none⟩ = false ∧ W.frozen? ⟨w1.heap.size, 2, none⟩ = false ∧ W.frozen? ⟨w1.heap.size, 3, none⟩ = false ∧ W.frozen? ⟨w2.heap.size, 0, none⟩ = false ∧ W.frozen? ⟨w2.heap.size, 1, none⟩ = false ∧ W.frozen? ⟨w2.heap.size, 2, none⟩ = false ∧ W.frozen? ⟨w2.heap.size, 3, none⟩ = false ∧ W.frozen? ⟨w3.heap.size, 0, none⟩ = false ∧ W.frozen? ⟨w3.heap.size, 1, none⟩ = false ∧ W.frozen? ⟨w3.heap.size, 2, none⟩ = false ∧ W.frozen? ⟨w3.heap.size, 3, none⟩ = false ∧ W.frozen? ⟨w4.heap.size, 0, none⟩ = false ∧ W.frozen? ⟨w4.heap.size, 1, none⟩ = false ∧ W.frozen? ⟨w4.heap.size, 2, none⟩ = false ∧ W.frozen? ⟨w4.heap.size, 3, none⟩ = false ∧ Below w.heap.size w W) ⟨cell_later (bA (Below.refl _ _) _) cX0_0, cell_later (bA (Below.refl _ _) _) cX0_1, cell_later (bA (Below.refl _ _) _) cX0_2, cell_later (bA (Below.refl _ _) _) cX0_3, cell_later (bA (Below.refl _ _) _) cX1_0, cell_later (bA (Below.refl _ _) _) cX1_1, cell_later (bA (Below.refl _ _) _) cX1_2, cell_later (bA (Below.refl _ _) _) cX1_3, cell_later (bA (Below.refl _ _) _) cX2_0, cell_later (bA (Below.refl _ _) _) cX2_1, cell_later (bA (Below.refl _ _) _) cX2_2, cell_later (bA (Below.refl _ _) _) cX2_3, cell_later (bA (Below.refl _ _) _) cX3_0, cell_later (bA (Below.refl _ _) _) cX3_1, cell_later (bA (Below.refl _ _) _) cX3_2, cell_later (bA (Below.refl _ _) _) cX3_3, cell_later (bA (Below.refl _ _) _) cX4_0, cell_later (bA (Below.refl _ _) _) cX4_1, cell_later (bA (Below.refl _ _) _) cX4_2, cell_later (bA (Below.refl _ _) _) cX4_3, by go_simp, by go_simp, by go_simp, by go_simp, frozen_later (bA (Below.refl _ _) _) cX2_0 fX2_0, frozen_later (bA (Below.refl _ _) _) cX2_1 fX2_1, frozen_later (bA (Below.refl _ _) _) cX2_2 fX2_2, frozen_later (bA (Below.refl _ _) _) cX2_3 fX2_3, frozen_later (bA (Below.refl _ _) _) cX3_0 fX3_0, frozen_later (bA (Below.refl _ _) _) cX3_1 fX3_1, frozen_later (bA (Below.refl _ _) _) cX3_2 fX3_2, frozen_later (bA (Below.refl _ _) _) cX3_3 fX3_3, frozen_later (bA (Below.refl _ _) _) cX4_0 fX4_0, frozen_later (bA (Below.refl _ _) _) cX4_1 fX4_1, frozen_later (bA (Below.refl _ _) _) cX4_2 fX4_2, frozen_later (bA (Below.refl _ _) _) cX4_3 fX4_3, by go_simp, by go_simp, by go_simp, by go_simp, bC kk (bA (Below.refl _ _) _)⟩ (fun w5 hst => ?_)
  clear cX0_0 cX0_1 cX0_2 cX0_3 sX0 cX1_0 cX1_1 cX1_2 cX1_3 sX1 cX2_0 cX2_1 cX2_2 cX2_3 sX2 fX2_0 fX2_1 fX2_2 fX2_3 cX3_0 cX3_1 cX3_2 cX3_3 sX3 fX3_0 fX3_1 fX3_2 fX3_3 cX4_0 cX4_1 cX4_2 cX4_3 sX4 fX4_0 fX4_1 fX4_2 fX4_3 kk
  obtain ⟨cX0_0, cX0_1, cX0_2, cX0_3, cX1_0, cX1_1, cX1_2, cX1_3, cX2_0, cX2_1, cX2_2, cX2_3, cX3_0, cX3_1, cX3_2, cX3_3, cX4_0, cX4_1, cX4_2, cX4_3, cX5_0, cX5_1, cX5_2, cX5_3, fX2_0, fX2_1, fX2_2, fX2_3, fX3_0, fX3_1, fX3_2, fX3_3, fX4_0, fX4_1, fX4_2, fX4_3, fX5_0, fX5_1, fX5_2, fX5_3, kk⟩ := hst
  have sX0 : w.heap.size < w5.heap.size := World.block_lt_of_cell? _ _ cX0_0
  have sX1 : w.heap.size + 1 < w5.heap.size := World.block_lt_of_cell? _ _ cX1_0
  have sX2 : w1.heap.size < w5.heap.size := World.block_lt_of_cell? _ _ cX2_0
  have sX3 : w2.heap.size < w5.heap.size := World.block_lt_of_cell? _ _ cX3_0
  have sX4 : w3.heap.size < w5.heap.size := World.block_lt_of_cell? _ _ cX4_0
  have sX5 : w4.heap.size < w5.heap.size := World.block_lt_of_cell? _ _ cX5_0
  refine wp_region_noPanic ?_
  refine wp_region_held_drew (S := fun w' => w'.cell? ⟨w.heap.size, 0, none⟩ = some (.int .u64 a0) ∧ w'.cell? ⟨w.heap.size, 1, none⟩ = some (.int .u64 a1) ∧ w'.cell? ⟨w.heap.size, 2, none⟩ = some (.int .u64 a2) ∧ w'.cell? ⟨w.heap.size, 3, none⟩ = some (.int .u64 a3) ∧ w'.cell? ⟨w.heap.size + 1, 0, none⟩ = some (.int .u64 b0) ∧ w'.cell? ⟨w.heap.size + 1, 1, none⟩ = some (.int .u64 b1) ∧ w'.cell? ⟨w.heap.size + 1, 2, none⟩ = some (.int .u64 b2) ∧ w'.cell? ⟨w.heap.size + 1, 3, none⟩ = some (.int .u64 b3) ∧ True) (by kernel_rfl) ⟨cell_later (Below.refl _ _).drew cX0_0, cell_later (Below.refl _ _).drew cX0_1, cell_later (Below.refl _ _).drew cX0_2, cell_later (Below.refl _ _).drew cX0_3, cell_later (Below.refl _ _).drew cX1_0, cell_later (Below.refl _ _).drew cX1_1, cell_later (Below.refl _ _).drew cX1_2, cell_later (Below.refl _ _).drew cX1_3, trivial⟩ (fun hHeld => ?_)
  replace cX0_0 := cell_later (Below.refl _ _).drew cX0_0; replace cX0_1 := cell_later (Below.refl _ _).drew cX0_1; replace cX0_2 := cell_later (Below.refl _ _).drew cX0_2; replace cX0_3 := cell_later (Below.refl _ _).drew cX0_3
  replace cX1_0 := cell_later (Below.refl _ _).drew cX1_0; replace cX1_1 := cell_later (Below.refl _ _).drew cX1_1; replace cX1_2 := cell_later (Below.refl _ _).drew cX1_2; replace cX1_3 := cell_later (Below.refl _ _).drew cX1_3
  replace fX2_0 := frozen_later (Below.refl _ _).drew cX2_0 fX2_0; replace fX2_1 := frozen_later (Below.refl _ _).drew cX2_1 fX2_1; replace fX2_2 := frozen_later (Below.refl _ _).drew cX2_2 fX2_2; replace fX2_3 := frozen_later (Below.refl _ _).drew cX2_3 fX2_3
  replace cX2_0 := cell_later (Below.refl _ _).drew cX2_0; replace cX2_1 := cell_later (Below.refl _ _).drew cX2_1; replace cX2_2 := cell_later (Below.refl _ _).drew cX2_2; replace cX2_3 := cell_later (Below.refl _ _).drew cX2_3
  replace fX3_0 := frozen_later (Below.refl _ _).drew cX3_0 fX3_0; replace fX3_1 := frozen_later (Below.refl _ _).drew cX3_1 fX3_1; replace fX3_2 := frozen_later (Below.refl _ _).drew cX3_2 fX3_2; replace fX3_3 := frozen_later (Below.refl _ _).drew cX3_3 fX3_3
  replace cX3_0 := cell_later (Below.refl _ _).drew cX3_0; replace cX3_1 := cell_later (Below.refl _ _).drew cX3_1; replace cX3_2 := cell_later (Below.refl _ _).drew cX3_2; replace cX3_3 := cell_later (Below.refl _ _).drew cX3_3
  replace fX4_0 := frozen_later (Below.refl _ _).drew cX4_0 fX4_0; replace fX4_1 := frozen_later (Below.refl _ _).drew cX4_1 fX4_1; replace fX4_2 := frozen_later (Below.refl _ _).drew cX4_2 fX4_2; replace fX4_3 := frozen_later (Below.refl _ _).drew cX4_3 fX4_3
  replace cX4_0 := cell_later (Below.refl _ _).drew cX4_0; replace cX4_1 := cell_later (Below.refl _ _).drew cX4_1; replace cX4_2 := cell_later (Below.refl _ _).drew cX4_2; replace cX4_3 := cell_later (Below.refl _ _).drew cX4_3
  replace fX5_0 := frozen_later (Below.refl _ _).drew cX5_0 fX5_0; replace fX5_1 := frozen_later (Below.refl _ _).drew cX5_1 fX5_1; replace fX5_2 := frozen_later (Below.refl _ _).drew cX5_2 fX5_2; replace fX5_3 := frozen_later (Below.refl _ _).drew cX5_3 fX5_3
  replace cX5_0 := cell_later (Below.refl _ _).drew cX5_0; replace cX5_1 := cell_later (Below.refl _ _).drew cX5_1; replace cX5_2 := cell_later (Below.refl _ _).drew cX5_2; replace cX5_3 := cell_later (Below.refl _ _).drew cX5_3
  replace kk := bC kk (Below.refl _ _).drew
  refine wpAnyH_take (i := 0) (v := ?vq263) rfl (by kernel_rfl) (by kernel_rfl) (by kernel_rfl) (fun _ _ _ h => h) (Or.inl ⟨by rfl, ?yq263⟩) hHeld ?rq263
  case yq263 => (intro wq hb; obtain ⟨lq0, lq1, lq2, lq3, lq4, lq5, lq6, lq7, _⟩ := hb; go_simp; try (with_reducible rfl))
  try simp only [List.getElem_toArray, List.getElem_cons_zero, List.getElem_cons_succ, Act.put, List.setIfInBounds_toArray, List.set_cons_zero, List.set_cons_succ]
  refine wpAnyH_take (i := 2) (v := ?vq264) rfl (by kernel_rfl) (by kernel_rfl) (by kernel_rfl) (fun _ _ _ h => h) (Or.inl ⟨by rfl, ?yq264⟩) hHeld ?rq264
  case yq264 => (intro wq hb; obtain ⟨lq0, lq1, lq2, lq3, lq4, lq5, lq6, lq7, _⟩ := hb; go_simp; try (with_reducible rfl))
  try simp only [List.getElem_toArray, List.getElem_cons_zero, List.getElem_cons_succ, Act.put, List.setIfInBounds_toArray, List.set_cons_zero, List.set_cons_succ]
  clear hHeld
  refine wpAnyH_ready (rs := [1]) (by kernel_rfl) (by simp) ?_
  refine AllReadyH.cons rfl (fun K hK => ?_) AllReadyH.nil
  go_simp
  (with_reducible refine (NA.out _).mono ?_); rintro e w6 ⟨va, rfl, nva, hb⟩
  replace cX0_0 := cell_later hb cX0_0; replace cX0_1 := cell_later hb cX0_1; replace cX0_2 := cell_later hb cX0_2; replace cX0_3 := cell_later hb cX0_3
  replace cX1_0 := cell_later hb cX1_0; replace cX1_1 := cell_later hb cX1_1; replace cX1_2 := cell_later hb cX1_2; replace cX1_3 := cell_later hb cX1_3
  replace fX2_0 := frozen_later hb cX2_0 fX2_0; replace fX2_1 := frozen_later hb cX2_1 fX2_1; replace fX2_2 := frozen_later hb cX2_2 fX2_2; replace fX2_3 := frozen_later hb cX2_3 fX2_3
  replace cX2_0 := cell_later hb cX2_0; replace cX2_1 := cell_later hb cX2_1; replace cX2_2 := cell_later hb cX2_2; replace cX2_3 := cell_later hb cX2_3
  replace fX3_0 := frozen_later hb cX3_0 fX3_0; replace fX3_1 := frozen_later hb cX3_1 fX3_1; replace fX3_2 := frozen_later hb cX3_2 fX3_2; replace fX3_3 := frozen_later hb cX3_3 fX3_3
  replace cX3_0 := cell_later hb cX3_0; replace cX3_1 := cell_later hb cX3_1; replace cX3_2 := cell_later hb cX3_2; replace cX3_3 := cell_later hb cX3_3
  replace fX4_0 := frozen_later hb cX4_0 fX4_0; replace fX4_1 := frozen_later hb cX4_1 fX4_1; replace fX4_2 := frozen_later hb cX4_2 fX4_2; replace fX4_3 := frozen_later hb cX4_3 fX4_3
  replace cX4_0 := cell_later hb cX4_0; replace cX4_1 := cell_later hb cX4_1; replace cX4_2 := cell_later hb cX4_2; replace cX4_3 := cell_later hb cX4_3
  replace fX5_0 := frozen_later hb cX5_0 fX5_0; replace fX5_1 := frozen_later hb cX5_1 fX5_1; replace fX5_2 := frozen_later hb cX5_2 fX5_2; replace fX5_3 := frozen_later hb cX5_3 fX5_3
  replace cX5_0 := cell_later hb cX5_0; replace cX5_1 := cell_later hb cX5_1; replace cX5_2 := cell_later hb cX5_2; replace cX5_3 := cell_later hb cX5_3
  replace kk := bC kk hb
  clear hb
  refine hK.out _ _ ⟨cX0_0, cX0_1, cX0_2, cX0_3, cX1_0, cX1_1, cX1_2, cX1_3, trivial⟩ (fun hHeld => ?_)
  clear hK K
  try simp only [List.getElem_toArray, List.getElem_cons_zero, List.getElem_cons_succ, Act.put, List.setIfInBounds_toArray, List.set_cons_zero, List.set_cons_succ]
  clear hHeld
  refine wpAnyH_ready (rs := [3]) (by kernel_rfl) (by simp) ?_
  refine AllReadyH.cons rfl (fun K hK => ?_) AllReadyH.nil
  go_simp
  (with_reducible refine (NB.out _).mono ?_); rintro e w7 ⟨vb, rfl, nvb, hb⟩
  replace nva := nva.later hb
  replace cX0_0 := cell_later hb cX0_0; replace cX0_1 := cell_later hb cX0_1; replace cX0_2 := cell_later hb cX0_2; replace cX0_3 := cell_later hb cX0_3
  replace cX1_0 := cell_later hb cX1_0; replace cX1_1 := cell_later hb cX1_1; replace cX1_2 := cell_later hb cX1_2; replace cX1_3 := cell_later hb cX1_3
  replace fX2_0 := frozen_later hb cX2_0 fX2_0; replace fX2_1 := frozen_later hb cX2_1 fX2_1; replace fX2_2 := frozen_later hb cX2_2 fX2_2; replace fX2_3 := frozen_later hb cX2_3 fX2_3
  replace cX2_0 := cell_later hb cX2_0; replace cX2_1 := cell_later hb cX2_1; replace cX2_2 := cell_later hb cX2_2; replace cX2_3 := cell_later hb cX2_3
  replace fX3_0 := frozen_later hb cX3_0 fX3_0; replace fX3_1 := frozen_later hb cX3_1 fX3_1; replace fX3_2 := frozen_later hb cX3_2 fX3_2; replace fX3_3 := frozen_later hb cX3_3 fX3_3
  replace cX3_0 := cell_later hb cX3_0; replace cX3_1 := cell_later hb cX3_1; replace cX3_2 := cell_later hb cX3_2; replace cX3_3 := cell_later hb cX3_3
  replace fX4_0 := frozen_later hb cX4_0 fX4_0; replace fX4_1 := frozen_later hb cX4_1 fX4_1; replace fX4_2 := frozen_later hb cX4_2 fX4_2; replace fX4_3 := frozen_later hb cX4_3 fX4_3
  replace cX4_0 := cell_later hb cX4_0; replace cX4_1 := cell_later hb cX4_1; replace cX4_2 := cell_later hb cX4_2; replace cX4_3 := cell_later hb cX4_3
  replace fX5_0 := frozen_later hb cX5_0 fX5_0; replace fX5_1 := frozen_later hb cX5_1 fX5_1; replace fX5_2 := frozen_later hb cX5_2 fX5_2; replace fX5_3 := frozen_later hb cX5_3 fX5_3
  replace cX5_0 := cell_later hb cX5_0; replace cX5_1 := cell_later hb cX5_1; replace cX5_2 := cell_later hb cX5_2; replace cX5_3 := cell_later hb cX5_3
  replace kk := bC kk hb
  clear hb
  refine hK.out _ _ ⟨cX0_0, cX0_1, cX0_2, cX0_3, cX1_0, cX1_1, cX1_2, cX1_3, trivial⟩ (fun hHeld => ?_)
  clear hK K
  try simp only [List.getElem_toArray, List.getElem_cons_zero, List.getElem_cons_succ, Act.put, List.setIfInBounds_toArray, List.set_cons_zero, List.set_cons_succ]
  refine wpAnyH_take (i := 4) (v := ?vq265) rfl (by kernel_rfl) (by kernel_rfl) (by kernel_rfl) (fun _ _ _ h => h) (Or.inl ⟨by rfl, ?yq265⟩) hHeld ?rq265
  case yq265 => (intro wq hb; obtain ⟨lq0, lq1, lq2, lq3, lq4, lq5, lq6, lq7, _⟩ := hb; go_simp; try (with_reducible rfl))
  try simp only [List.getElem_toArray, List.getElem_cons_zero, List.getElem_cons_succ, Act.put, List.setIfInBounds_toArray, List.set_cons_zero, List.set_cons_succ]
  refine wpAnyH_take (i := 5) (v := ?vq266) rfl (by kernel_rfl) (by kernel_rfl) (by kernel_rfl) (fun _ _ _ h => h) (Or.inl ⟨by rfl, ?yq266⟩) hHeld ?rq266
  case yq266 => (intro wq hb; obtain ⟨lq0, lq1, lq2, lq3, lq4, lq5, lq6, lq7, _⟩ := hb; go_simp; try (with_reducible rfl))
  try simp only [List.getElem_toArray, List.getElem_cons_zero, List.getElem_cons_succ, Act.put, List.setIfInBounds_toArray, List.set_cons_zero, List.set_cons_succ]
  clear hHeld
  refine wpAnyH_done (by kernel_rfl) ?_ _
  refine NoPanic.normal ?_
  replace sX0 : w.heap.size < w7.heap.size := World.block_lt_of_cell? _ _ cX0_0
  replace sX1 : w.heap.size + 1 < w7.heap.size := World.block_lt_of_cell? _ _ cX1_0
  replace sX2 : w1.heap.size < w7.heap.size := World.block_lt_of_cell? _ _ cX2_0
  replace sX3 : w2.heap.size < w7.heap.size := World.block_lt_of_cell? _ _ cX3_0
  replace sX4 : w3.heap.size < w7.heap.size := World.block_lt_of_cell? _ _ cX4_0
  replace sX5 : w4.heap.size < w7.heap.size := World.block_lt_of_cell? _ _ cX5_0
  obtain ⟨ao, kl, cap, es, rfl, hd, hn, hnorm⟩ := id nva
  have hz := LZ.out _ _ _ _ nva
  have HD := Lib.hid (And.intro hd (And.intro hn hnorm))
  clear hd hn hnorm
  go_wp2_with fail
  (with_reducible refine (h6.out _).mono ?_); rintro e w8 ⟨rfl, hb⟩
  replace nva := nva.later hb
  replace nvb := nvb.later hb
  replace cX0_0 := cell_later hb cX0_0; replace cX0_1 := cell_later hb cX0_1; replace cX0_2 := cell_later hb cX0_2; replace cX0_3 := cell_later hb cX0_3
  replace sX0 : w.heap.size < w8.heap.size := World.block_lt_of_cell? _ _ cX0_0
  clear cX1_0 cX1_1 cX1_2 cX1_3 sX1
  clear cX2_0 cX2_1 cX2_2 cX2_3 sX2
  clear cX3_0 cX3_1 cX3_2 cX3_3 sX3
  clear cX4_0 cX4_1 cX4_2 cX4_3 sX4
  clear cX5_0 cX5_1 cX5_2 cX5_3 sX5
  replace kk := bC kk hb
  clear hb
  go_wp2_with fail
  (with_reducible refine (cmp_num nva nvb).mono ?_); rintro e w9 ⟨rfl, hb⟩
  replace nva := nva.later hb
  replace nvb := nvb.later hb
  replace cX0_0 := cell_later hb cX0_0; replace cX0_1 := cell_later hb cX0_1; replace cX0_2 := cell_later hb cX0_2; replace cX0_3 := cell_later hb cX0_3
  replace sX0 : w.heap.size < w9.heap.size := World.block_lt_of_cell? _ _ cX0_0
  replace kk := bC kk hb
  clear hb
  go_wp2_with fail
  (with_reducible refine (h8.out _).mono ?_); rintro e w10 ⟨rfl, hb⟩
  replace nva := nva.later hb
  replace nvb := nvb.later hb
  clear cX0_0 cX0_1 cX0_2 cX0_3 sX0
  replace kk := bC kk hb
  clear hb
  go_wp2_with fail
  (with_reducible refine (counts2_any _).mono ?_); rintro e w11 ⟨rfl, hb⟩
  replace nva := nva.later hb
  replace nvb := nvb.later hb
  replace kk := bC kk hb
  clear hb
  go_wp2_with fail
  go_ret
  exact ⟨rfl, kk⟩

theorem sums2_walk (n m : Int) (w : World) :
    Calls Try.prog 3 #[.agg #[.int .u64 (wd0 (n)), .int .u64 (wd1 (n)), .int .u64 (wd2 (n)), .int .u64 (wd3 (n))], .agg #[.int .u64 (wd0 (m)), .int .u64 (wd1 (m)), .int .u64 (wd2 (m)), .int .u64 (wd3 (m))]] w fun e w' => e = .returned (.bool true) ∧ Below w.heap.size w w' :=
  sums2_core _ _ _ _ _ _ _ _ _ _ _ _ _ _ _ _ (n % wfull) (m % wfull) _ _ (n % wfull == 0) (addW n m) (ref2_addN n m) (subW n m) (ref2_subN n m) (cmpW n m) (zeroW n) (wideN n) (wideN m) (fun w ao k cap x => len_zero x) w
theorem sums2_law (a0 a1 a2 a3 b0 b1 b2 b3 : Int) (ua0 : U64 a0) (ua1 : U64 a1) (ua2 : U64 a2) (ua3 : U64 a3) (ub0 : U64 b0) (ub1 : U64 b1) (ub2 : U64 b2) (ub3 : U64 b3) (w : World) :
    Calls Try.prog 3 #[.agg #[.int .u64 a0, .int .u64 a1, .int .u64 a2, .int .u64 a3], .agg #[.int .u64 b0, .int .u64 b1, .int .u64 b2, .int .u64 b3]] w fun e w' => e = .returned (.bool true) ∧ Below w.heap.size w w' := by
  have h := sums2_walk (wval a0 a1 a2 a3) (wval b0 b1 b2 b3) w
  obtain ⟨e0, e1, e2, e3⟩ := wd_wval ua0 ua1 ua2 ua3
  obtain ⟨f0, f1, f2, f3⟩ := wd_wval ub0 ub1 ub2 ub3
  rw [e0, e1, e2, e3, f0, f1, f2, f3] at h
  exact h


end Go.Proofs.Ythoffjogpmkjkaa
