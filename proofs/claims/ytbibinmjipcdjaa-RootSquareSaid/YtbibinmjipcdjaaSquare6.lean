/-
  The walk of the statement RootSquare.
-/
import Derived.Test.YtbibinmjipcdjaaRootP
set_option linter.unusedVariables false
set_option linter.unusedSimpArgs false
set_option maxRecDepth 100000
namespace Go.Proofs.Ytbibinmjipcdjaa
open Go.RowKit
attribute [local go_sem ↓] Go.wp_at_zero Go.wp_at_succ

set_option maxHeartbeats 4000000 in
set_option maxRecDepth 100000 in
theorem square6_small (s0 s1 s2 s3 al : Int)
    (h0 : Hid (∀ w, Calls Try.prog 12 #[.agg #[.int .u64 0, .int .u64 al], .agg #[.int .u64 0, .int .u64 al]] w fun e w' => e = .returned (.agg #[.int .u64 s0, .int .u64 s1, .int .u64 s2, .int .u64 s3]) ∧ Below w.heap.size w w'))
    (h1 : Hid (∀ w, Calls Try.prog 9 #[.agg #[.int .u64 s0, .int .u64 s1, .int .u64 s2, .int .u64 s3]] w fun e w' => e = .returned (.tuple #[.agg #[.int .u64 0, .int .u64 al], .bool true]) ∧ Below w.heap.size w w'))
    (h2 : Hid (∀ w, Calls Try.prog 11 #[] w fun e w' => e = .returned (.bool true) ∧ Below w.heap.size w w')) (hs : decide (al < 2) = true) (w : World) :
    Calls Try.prog 5 #[.agg #[.int .u64 0, .int .u64 al]] w fun e w' => e = .returned (.bool true) ∧ Below w.heap.size w w' := by
  go_enter Try.func5, Try.ntmps5
  go_wp2_with fail
  (with_reducible refine (h0.out _).mono ?_); rintro e w1 ⟨rfl, hb⟩
  have hz := bC (bA (Below.refl _ _) _) hb
  have cX0_0 := cell_later hb (a := ⟨w.heap.size, 0, none⟩) (v := .int .u64 0) (by go_simp)
  have cX0_1 := cell_later hb (a := ⟨w.heap.size, 1, none⟩) (v := .int .u64 al) (by go_simp)
  have sX0 : w.heap.size < w1.heap.size := World.block_lt_of_cell? _ _ cX0_0
  have kk := hz
  clear hb hz
  go_wp2_with fail
  (with_reducible refine (h1.out _).mono ?_); rintro e w2 ⟨rfl, hb⟩
  have hz := bC (bA (Below.refl _ _) _) hb
  replace cX0_0 := cell_later hz cX0_0; replace cX0_1 := cell_later hz cX0_1
  replace sX0 : w.heap.size < w2.heap.size := World.block_lt_of_cell? _ _ cX0_0
  replace kk := bC kk hz
  clear hb hz
  go_wp2_with fail
  (with_reducible refine (h2.out _).mono ?_); rintro e w3 ⟨rfl, hb⟩
  have hz := bC (bA (Below.refl _ _) _) hb
  clear cX0_0 cX0_1 sX0
  replace kk := bC kk hz
  clear hb hz
  go_wp2_with fail
  go_ret
  exact ⟨rfl, kk⟩

set_option maxHeartbeats 4000000 in
set_option maxRecDepth 100000 in
theorem square6_hi (s0 s1 s2 s3 m0 m1 m2 m3 z0 z1 z2 z3 ah al bh bl : Int) (i j k : Bool)
    (h0 : Hid (∀ w, Calls Try.prog 12 #[.agg #[.int .u64 ah, .int .u64 al], .agg #[.int .u64 ah, .int .u64 al]] w fun e w' => e = .returned (.agg #[.int .u64 s0, .int .u64 s1, .int .u64 s2, .int .u64 s3]) ∧ Below w.heap.size w w'))
    (h1 : Hid (∀ w, Calls Try.prog 9 #[.agg #[.int .u64 s0, .int .u64 s1, .int .u64 s2, .int .u64 s3]] w fun e w' => e = .returned (.tuple #[.agg #[.int .u64 ah, .int .u64 al], .bool true]) ∧ Below w.heap.size w w'))
    (h2 : Hid (∀ w, Calls Try.prog 15 #[.agg #[.int .u64 s0, .int .u64 s1, .int .u64 s2, .int .u64 s3], .agg #[.int .u64 1, .int .u64 0, .int .u64 0, .int .u64 0]] w fun e w' => e = .returned (.tuple #[.agg #[.int .u64 m0, .int .u64 m1, .int .u64 m2, .int .u64 m3], .bool k]) ∧ Below w.heap.size w w'))
    (h3 : Hid (∀ w, Calls Try.prog 16 #[.agg #[.int .u64 s0, .int .u64 s1, .int .u64 s2, .int .u64 s3], .agg #[.int .u64 1, .int .u64 0, .int .u64 0, .int .u64 0]] w fun e w' => e = .returned (.tuple #[.agg #[.int .u64 z0, .int .u64 z1, .int .u64 z2, .int .u64 z3], .bool j]) ∧ Below w.heap.size w w'))
    (h4 : Hid (∀ w, Calls Try.prog 9 #[.agg #[.int .u64 m0, .int .u64 m1, .int .u64 m2, .int .u64 m3]] w fun e w' => e = .returned (.tuple #[.agg #[.int .u64 ah, .int .u64 al], .bool false]) ∧ Below w.heap.size w w'))
    (h5 : Hid (∀ w, Calls Try.prog 9 #[.agg #[.int .u64 z0, .int .u64 z1, .int .u64 z2, .int .u64 z3]] w fun e w' => e = .returned (.tuple #[.agg #[.int .u64 bh, .int .u64 bl], .bool false]) ∧ Below w.heap.size w w'))
    (h6 : Hid (∀ w, Calls Try.prog 17 #[.agg #[.int .u64 ah, .int .u64 al], .agg #[.int .u64 0, .int .u64 1]] w fun e w' => e = .returned (.tuple #[.agg #[.int .u64 bh, .int .u64 bl], .bool i]) ∧ Below w.heap.size w w'))
    (h7 : Hid (∀ w, Calls Try.prog 11 #[] w fun e w' => e = .returned (.bool true) ∧ Below w.heap.size w w')) (hs : (ah == 0) = false) (w : World) :
    Calls Try.prog 5 #[.agg #[.int .u64 ah, .int .u64 al]] w fun e w' => e = .returned (.bool true) ∧ Below w.heap.size w w' := by
  go_enter Try.func5, Try.ntmps5
  go_wp2_with fail
  (with_reducible refine (h0.out _).mono ?_); rintro e w1 ⟨rfl, hb⟩
  have hz := bC (bA (Below.refl _ _) _) hb
  have cX0_0 := cell_later hb (a := ⟨w.heap.size, 0, none⟩) (v := .int .u64 ah) (by go_simp)
  have cX0_1 := cell_later hb (a := ⟨w.heap.size, 1, none⟩) (v := .int .u64 al) (by go_simp)
  have sX0 : w.heap.size < w1.heap.size := World.block_lt_of_cell? _ _ cX0_0
  have kk := hz
  clear hb hz
  go_wp2_with fail
  (with_reducible refine (h1.out _).mono ?_); rintro e w2 ⟨rfl, hb⟩
  have hz := bC (bA (Below.refl _ _) _) hb
  replace cX0_0 := cell_later hz cX0_0; replace cX0_1 := cell_later hz cX0_1
  replace sX0 : w.heap.size < w2.heap.size := World.block_lt_of_cell? _ _ cX0_0
  have cX1_0 := cell_later hb (a := ⟨w1.heap.size, 0, none⟩) (v := .int .u64 s0) (by go_simp)
  have cX1_1 := cell_later hb (a := ⟨w1.heap.size, 1, none⟩) (v := .int .u64 s1) (by go_simp)
  have cX1_2 := cell_later hb (a := ⟨w1.heap.size, 2, none⟩) (v := .int .u64 s2) (by go_simp)
  have cX1_3 := cell_later hb (a := ⟨w1.heap.size, 3, none⟩) (v := .int .u64 s3) (by go_simp)
  have sX1 : w1.heap.size < w2.heap.size := World.block_lt_of_cell? _ _ cX1_0
  replace kk := bC kk hz
  clear hb hz
  go_wp2_with fail
  (with_reducible refine (h2.out _).mono ?_); rintro e w3 ⟨rfl, hb⟩
  have hz := bC (bA (Below.refl _ _) _) hb
  replace cX0_0 := cell_later hz cX0_0; replace cX0_1 := cell_later hz cX0_1
  replace sX0 : w.heap.size < w3.heap.size := World.block_lt_of_cell? _ _ cX0_0
  replace cX1_0 := cell_later hz cX1_0; replace cX1_1 := cell_later hz cX1_1; replace cX1_2 := cell_later hz cX1_2; replace cX1_3 := cell_later hz cX1_3
  replace sX1 : w1.heap.size < w3.heap.size := World.block_lt_of_cell? _ _ cX1_0
  replace kk := bC kk hz
  clear hb hz
  go_wp2_with fail
  (with_reducible refine (h3.out _).mono ?_); rintro e w4 ⟨rfl, hb⟩
  have hz := bC (bA (Below.refl _ _) _) hb
  replace cX0_0 := cell_later hz cX0_0; replace cX0_1 := cell_later hz cX0_1
  replace sX0 : w.heap.size < w4.heap.size := World.block_lt_of_cell? _ _ cX0_0
  clear cX1_0 cX1_1 cX1_2 cX1_3 sX1
  have cX3_0 := cell_later hb (a := ⟨w3.heap.size, 0, none⟩) (v := .int .u64 m0) (by go_simp)
  have cX3_1 := cell_later hb (a := ⟨w3.heap.size, 1, none⟩) (v := .int .u64 m1) (by go_simp)
  have cX3_2 := cell_later hb (a := ⟨w3.heap.size, 2, none⟩) (v := .int .u64 m2) (by go_simp)
  have cX3_3 := cell_later hb (a := ⟨w3.heap.size, 3, none⟩) (v := .int .u64 m3) (by go_simp)
  have sX3 : w3.heap.size < w4.heap.size := World.block_lt_of_cell? _ _ cX3_0
  replace kk := bC kk hz
  clear hb hz
  go_wp2_with fail
  (with_reducible refine (h4.out _).mono ?_); rintro e w5 ⟨rfl, hb⟩
  have hz := bC (bA (Below.refl _ _) _) hb
  replace cX0_0 := cell_later hz cX0_0; replace cX0_1 := cell_later hz cX0_1
  replace sX0 : w.heap.size < w5.heap.size := World.block_lt_of_cell? _ _ cX0_0
  clear cX3_0 cX3_1 cX3_2 cX3_3 sX3
  have cX4_0 := cell_later hb (a := ⟨w4.heap.size, 0, none⟩) (v := .int .u64 z0) (by go_simp)
  have cX4_1 := cell_later hb (a := ⟨w4.heap.size, 1, none⟩) (v := .int .u64 z1) (by go_simp)
  have cX4_2 := cell_later hb (a := ⟨w4.heap.size, 2, none⟩) (v := .int .u64 z2) (by go_simp)
  have cX4_3 := cell_later hb (a := ⟨w4.heap.size, 3, none⟩) (v := .int .u64 z3) (by go_simp)
  have sX4 : w4.heap.size < w5.heap.size := World.block_lt_of_cell? _ _ cX4_0
  replace kk := bC kk hz
  clear hb hz
  go_wp2_with fail
  (with_reducible refine (h5.out _).mono ?_); rintro e w6 ⟨rfl, hb⟩
  have hz := bC (bA (Below.refl _ _) _) hb
  replace cX0_0 := cell_later hz cX0_0; replace cX0_1 := cell_later hz cX0_1
  replace sX0 : w.heap.size < w6.heap.size := World.block_lt_of_cell? _ _ cX0_0
  clear cX4_0 cX4_1 cX4_2 cX4_3 sX4
  have cX5_0 := cell_later hb (a := ⟨w5.heap.size, 0, none⟩) (v := .int .u64 ah) (by go_simp)
  have cX5_1 := cell_later hb (a := ⟨w5.heap.size, 1, none⟩) (v := .int .u64 al) (by go_simp)
  have sX5 : w5.heap.size < w6.heap.size := World.block_lt_of_cell? _ _ cX5_0
  replace kk := bC kk hz
  clear hb hz
  go_wp2_with fail
  (with_reducible refine (h6.out _).mono ?_); rintro e w7 ⟨rfl, hb⟩
  have hz := bC (bA (Below.refl _ _) _) hb
  replace cX0_0 := cell_later hz cX0_0; replace cX0_1 := cell_later hz cX0_1
  replace sX0 : w.heap.size < w7.heap.size := World.block_lt_of_cell? _ _ cX0_0
  replace cX5_0 := cell_later hz cX5_0; replace cX5_1 := cell_later hz cX5_1
  replace sX5 : w5.heap.size < w7.heap.size := World.block_lt_of_cell? _ _ cX5_0
  have cX6_0 := cell_later hb (a := ⟨w6.heap.size, 0, none⟩) (v := .int .u64 bh) (by go_simp)
  have cX6_1 := cell_later hb (a := ⟨w6.heap.size, 1, none⟩) (v := .int .u64 bl) (by go_simp)
  have sX6 : w6.heap.size < w7.heap.size := World.block_lt_of_cell? _ _ cX6_0
  replace kk := bC kk hz
  clear hb hz
  go_wp2_with fail
  (with_reducible refine (h7.out _).mono ?_); rintro e w8 ⟨rfl, hb⟩
  have hz := bC (bA (Below.refl _ _) _) hb
  clear cX0_0 cX0_1 sX0
  clear cX5_0 cX5_1 sX5
  clear cX6_0 cX6_1 sX6
  replace kk := bC kk hz
  clear hb hz
  go_wp2_with fail
  go_ret
  exact ⟨rfl, kk⟩

set_option maxHeartbeats 4000000 in
set_option maxRecDepth 100000 in
theorem square6_lo (s0 s1 s2 s3 m0 m1 m2 m3 z0 z1 z2 z3 ah al bh bl : Int) (i j k : Bool)
    (h0 : Hid (∀ w, Calls Try.prog 12 #[.agg #[.int .u64 ah, .int .u64 al], .agg #[.int .u64 ah, .int .u64 al]] w fun e w' => e = .returned (.agg #[.int .u64 s0, .int .u64 s1, .int .u64 s2, .int .u64 s3]) ∧ Below w.heap.size w w'))
    (h1 : Hid (∀ w, Calls Try.prog 9 #[.agg #[.int .u64 s0, .int .u64 s1, .int .u64 s2, .int .u64 s3]] w fun e w' => e = .returned (.tuple #[.agg #[.int .u64 ah, .int .u64 al], .bool true]) ∧ Below w.heap.size w w'))
    (h2 : Hid (∀ w, Calls Try.prog 15 #[.agg #[.int .u64 s0, .int .u64 s1, .int .u64 s2, .int .u64 s3], .agg #[.int .u64 1, .int .u64 0, .int .u64 0, .int .u64 0]] w fun e w' => e = .returned (.tuple #[.agg #[.int .u64 m0, .int .u64 m1, .int .u64 m2, .int .u64 m3], .bool k]) ∧ Below w.heap.size w w'))
    (h3 : Hid (∀ w, Calls Try.prog 16 #[.agg #[.int .u64 s0, .int .u64 s1, .int .u64 s2, .int .u64 s3], .agg #[.int .u64 1, .int .u64 0, .int .u64 0, .int .u64 0]] w fun e w' => e = .returned (.tuple #[.agg #[.int .u64 z0, .int .u64 z1, .int .u64 z2, .int .u64 z3], .bool j]) ∧ Below w.heap.size w w'))
    (h4 : Hid (∀ w, Calls Try.prog 9 #[.agg #[.int .u64 m0, .int .u64 m1, .int .u64 m2, .int .u64 m3]] w fun e w' => e = .returned (.tuple #[.agg #[.int .u64 ah, .int .u64 al], .bool false]) ∧ Below w.heap.size w w'))
    (h5 : Hid (∀ w, Calls Try.prog 9 #[.agg #[.int .u64 z0, .int .u64 z1, .int .u64 z2, .int .u64 z3]] w fun e w' => e = .returned (.tuple #[.agg #[.int .u64 bh, .int .u64 bl], .bool false]) ∧ Below w.heap.size w w'))
    (h6 : Hid (∀ w, Calls Try.prog 17 #[.agg #[.int .u64 ah, .int .u64 al], .agg #[.int .u64 0, .int .u64 1]] w fun e w' => e = .returned (.tuple #[.agg #[.int .u64 bh, .int .u64 bl], .bool i]) ∧ Below w.heap.size w w'))
    (h7 : Hid (∀ w, Calls Try.prog 11 #[] w fun e w' => e = .returned (.bool true) ∧ Below w.heap.size w w')) (hs : (ah == 0) = true) (ht : decide (al < 2) = false) (w : World) :
    Calls Try.prog 5 #[.agg #[.int .u64 ah, .int .u64 al]] w fun e w' => e = .returned (.bool true) ∧ Below w.heap.size w w' := by
  go_enter Try.func5, Try.ntmps5
  go_wp2_with fail
  (with_reducible refine (h0.out _).mono ?_); rintro e w1 ⟨rfl, hb⟩
  have hz := bC (bA (Below.refl _ _) _) hb
  have cX0_0 := cell_later hb (a := ⟨w.heap.size, 0, none⟩) (v := .int .u64 ah) (by go_simp)
  have cX0_1 := cell_later hb (a := ⟨w.heap.size, 1, none⟩) (v := .int .u64 al) (by go_simp)
  have sX0 : w.heap.size < w1.heap.size := World.block_lt_of_cell? _ _ cX0_0
  have kk := hz
  clear hb hz
  go_wp2_with fail
  (with_reducible refine (h1.out _).mono ?_); rintro e w2 ⟨rfl, hb⟩
  have hz := bC (bA (Below.refl _ _) _) hb
  replace cX0_0 := cell_later hz cX0_0; replace cX0_1 := cell_later hz cX0_1
  replace sX0 : w.heap.size < w2.heap.size := World.block_lt_of_cell? _ _ cX0_0
  have cX1_0 := cell_later hb (a := ⟨w1.heap.size, 0, none⟩) (v := .int .u64 s0) (by go_simp)
  have cX1_1 := cell_later hb (a := ⟨w1.heap.size, 1, none⟩) (v := .int .u64 s1) (by go_simp)
  have cX1_2 := cell_later hb (a := ⟨w1.heap.size, 2, none⟩) (v := .int .u64 s2) (by go_simp)
  have cX1_3 := cell_later hb (a := ⟨w1.heap.size, 3, none⟩) (v := .int .u64 s3) (by go_simp)
  have sX1 : w1.heap.size < w2.heap.size := World.block_lt_of_cell? _ _ cX1_0
  replace kk := bC kk hz
  clear hb hz
  go_wp2_with fail
  (with_reducible refine (h2.out _).mono ?_); rintro e w3 ⟨rfl, hb⟩
  have hz := bC (bA (Below.refl _ _) _) hb
  replace cX0_0 := cell_later hz cX0_0; replace cX0_1 := cell_later hz cX0_1
  replace sX0 : w.heap.size < w3.heap.size := World.block_lt_of_cell? _ _ cX0_0
  replace cX1_0 := cell_later hz cX1_0; replace cX1_1 := cell_later hz cX1_1; replace cX1_2 := cell_later hz cX1_2; replace cX1_3 := cell_later hz cX1_3
  replace sX1 : w1.heap.size < w3.heap.size := World.block_lt_of_cell? _ _ cX1_0
  replace kk := bC kk hz
  clear hb hz
  go_wp2_with fail
  (with_reducible refine (h3.out _).mono ?_); rintro e w4 ⟨rfl, hb⟩
  have hz := bC (bA (Below.refl _ _) _) hb
  replace cX0_0 := cell_later hz cX0_0; replace cX0_1 := cell_later hz cX0_1
  replace sX0 : w.heap.size < w4.heap.size := World.block_lt_of_cell? _ _ cX0_0
  clear cX1_0 cX1_1 cX1_2 cX1_3 sX1
  have cX3_0 := cell_later hb (a := ⟨w3.heap.size, 0, none⟩) (v := .int .u64 m0) (by go_simp)
  have cX3_1 := cell_later hb (a := ⟨w3.heap.size, 1, none⟩) (v := .int .u64 m1) (by go_simp)
  have cX3_2 := cell_later hb (a := ⟨w3.heap.size, 2, none⟩) (v := .int .u64 m2) (by go_simp)
  have cX3_3 := cell_later hb (a := ⟨w3.heap.size, 3, none⟩) (v := .int .u64 m3) (by go_simp)
  have sX3 : w3.heap.size < w4.heap.size := World.block_lt_of_cell? _ _ cX3_0
  replace kk := bC kk hz
  clear hb hz
  go_wp2_with fail
  (with_reducible refine (h4.out _).mono ?_); rintro e w5 ⟨rfl, hb⟩
  have hz := bC (bA (Below.refl _ _) _) hb
  replace cX0_0 := cell_later hz cX0_0; replace cX0_1 := cell_later hz cX0_1
  replace sX0 : w.heap.size < w5.heap.size := World.block_lt_of_cell? _ _ cX0_0
  clear cX3_0 cX3_1 cX3_2 cX3_3 sX3
  have cX4_0 := cell_later hb (a := ⟨w4.heap.size, 0, none⟩) (v := .int .u64 z0) (by go_simp)
  have cX4_1 := cell_later hb (a := ⟨w4.heap.size, 1, none⟩) (v := .int .u64 z1) (by go_simp)
  have cX4_2 := cell_later hb (a := ⟨w4.heap.size, 2, none⟩) (v := .int .u64 z2) (by go_simp)
  have cX4_3 := cell_later hb (a := ⟨w4.heap.size, 3, none⟩) (v := .int .u64 z3) (by go_simp)
  have sX4 : w4.heap.size < w5.heap.size := World.block_lt_of_cell? _ _ cX4_0
  replace kk := bC kk hz
  clear hb hz
  go_wp2_with fail
  (with_reducible refine (h5.out _).mono ?_); rintro e w6 ⟨rfl, hb⟩
  have hz := bC (bA (Below.refl _ _) _) hb
  replace cX0_0 := cell_later hz cX0_0; replace cX0_1 := cell_later hz cX0_1
  replace sX0 : w.heap.size < w6.heap.size := World.block_lt_of_cell? _ _ cX0_0
  clear cX4_0 cX4_1 cX4_2 cX4_3 sX4
  have cX5_0 := cell_later hb (a := ⟨w5.heap.size, 0, none⟩) (v := .int .u64 ah) (by go_simp)
  have cX5_1 := cell_later hb (a := ⟨w5.heap.size, 1, none⟩) (v := .int .u64 al) (by go_simp)
  have sX5 : w5.heap.size < w6.heap.size := World.block_lt_of_cell? _ _ cX5_0
  replace kk := bC kk hz
  clear hb hz
  go_wp2_with fail
  (with_reducible refine (h6.out _).mono ?_); rintro e w7 ⟨rfl, hb⟩
  have hz := bC (bA (Below.refl _ _) _) hb
  replace cX0_0 := cell_later hz cX0_0; replace cX0_1 := cell_later hz cX0_1
  replace sX0 : w.heap.size < w7.heap.size := World.block_lt_of_cell? _ _ cX0_0
  replace cX5_0 := cell_later hz cX5_0; replace cX5_1 := cell_later hz cX5_1
  replace sX5 : w5.heap.size < w7.heap.size := World.block_lt_of_cell? _ _ cX5_0
  have cX6_0 := cell_later hb (a := ⟨w6.heap.size, 0, none⟩) (v := .int .u64 bh) (by go_simp)
  have cX6_1 := cell_later hb (a := ⟨w6.heap.size, 1, none⟩) (v := .int .u64 bl) (by go_simp)
  have sX6 : w6.heap.size < w7.heap.size := World.block_lt_of_cell? _ _ cX6_0
  replace kk := bC kk hz
  clear hb hz
  go_wp2_with fail
  (with_reducible refine (h7.out _).mono ?_); rintro e w8 ⟨rfl, hb⟩
  have hz := bC (bA (Below.refl _ _) _) hb
  clear cX0_0 cX0_1 sX0
  clear cX5_0 cX5_1 sX5
  clear cX6_0 cX6_1 sX6
  replace kk := bC kk hz
  clear hb hz
  go_wp2_with fail
  go_ret
  exact ⟨rfl, kk⟩

end Go.Proofs.Ytbibinmjipcdjaa
