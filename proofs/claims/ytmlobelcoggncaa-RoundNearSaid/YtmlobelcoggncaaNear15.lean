/-
  The walk of the statement RoundNear.
-/
import Derived.Test.YtmlobelcoggncaaRound15M
import Derived.Test.YtmlobelcoggncaaGaA
set_option linter.unusedVariables false
set_option linter.unusedSimpArgs false
set_option maxRecDepth 100000
namespace Go.Proofs.Ytmlobelcoggncaa
open Go.RowKit
attribute [local go_sem ↓] Go.wp_at_zero Go.wp_at_succ

set_option maxHeartbeats 4000000 in
set_option maxRecDepth 100000 in
theorem near15_00_four (k8 k m mm c x0 x1 x2 x3 y0 y1 y2 y3 ah al fh fl : Int) (ng : Bool)
    (h0 : Hid (∀ w, Calls Try.prog 9 #[.agg #[.int .u64 x0, .int .u64 x1, .int .u64 x2, .int .u64 x3], .int .i64 k, .int .u8 mm, .bool ng] w fun e w' => e = .returned (.tuple #[.agg #[.int .u64 ah, .int .u64 al], .bool false]) ∧ Below w.heap.size w w'))
    (h1 : Hid (∀ w, Calls Try.prog 16 #[.agg #[.int .u64 x0, .int .u64 x1, .int .u64 x2, .int .u64 x3], .int .i64 c] w fun e w' => e = .returned (.agg #[.int .u64 y0, .int .u64 y1, .int .u64 y2, .int .u64 y3]) ∧ Below w.heap.size w w'))
    (h2 : Hid (∀ w, Calls Try.prog 15 #[.agg #[.int .u64 y0, .int .u64 y1, .int .u64 y2, .int .u64 y3]] w fun e w' => e = .returned (.agg #[.int .u64 fh, .int .u64 fl]) ∧ Below w.heap.size w w'))
    (h3 : Hid (∀ w, Calls Try.prog 17 #[.agg #[.int .u64 ah, .int .u64 al], .agg #[.int .u64 fh, .int .u64 fl]] w fun e w' => e = .returned (.tuple #[.agg #[.int .u64 0, .int .u64 0], .bool false]) ∧ Below w.heap.size w w'))
    (h4 : Hid (∀ w, Calls Try.prog 18 #[.agg #[.int .u64 x0, .int .u64 x1, .int .u64 x2, .int .u64 x3], .int .i64 c] w fun e w' => e = .returned (.bool false) ∧ Below w.heap.size w w'))
    (h5 : Hid (∀ w, Calls Try.prog 11 #[] w fun e w' => e = .returned (.bool true) ∧ Below w.heap.size w w')) (k0 : 0 ≤ k8) (k1 : k8 ≤ 255) (k2 : IntKind.i64.wrap k8 = k8) (k3 : k8 % 128 = k) (k4 : k8.tmod 128 = k) (m2 : m.tmod 5 = mm) (m3 : m % 5 = mm) (w1 : IntKind.i64.wrap (256 - k) = c) (w1x : wrap64 (256 - k) = c) (q4 : (mm == 4) = true) (q1 : decide (1 < mm) = true) (w : World) :
    Calls Try.prog 4 #[.agg #[.int .u64 x0, .int .u64 x1, .int .u64 x2, .int .u64 x3], .int .u8 k8, .int .u8 m, .bool ng] w fun e w' => e = .returned (.bool true) ∧ Below w.heap.size w w' := by
  go_enter Try.func4, Try.ntmps4
  go_wp2_with fail
  (with_reducible refine (h0.out _).mono ?_); rintro e w1 ⟨rfl, hb⟩
  have hz := bC (bA (Below.refl _ _) _) hb
  have cX0_0 := cell_later hb (a := ⟨w.heap.size, 0, none⟩) (v := .int .u64 x0) (by go_simp)
  have cX0_1 := cell_later hb (a := ⟨w.heap.size, 1, none⟩) (v := .int .u64 x1) (by go_simp)
  have cX0_2 := cell_later hb (a := ⟨w.heap.size, 2, none⟩) (v := .int .u64 x2) (by go_simp)
  have cX0_3 := cell_later hb (a := ⟨w.heap.size, 3, none⟩) (v := .int .u64 x3) (by go_simp)
  have sX0 : w.heap.size < w1.heap.size := World.block_lt_of_cell? _ _ cX0_0
  have kk := hz
  clear hb hz
  go_wp2_with fail
  (with_reducible refine (h1.out _).mono ?_); rintro e w2 ⟨rfl, hb⟩
  have hz := bC (bA (Below.refl _ _) _) hb
  replace cX0_0 := cell_later hz cX0_0; replace cX0_1 := cell_later hz cX0_1; replace cX0_2 := cell_later hz cX0_2; replace cX0_3 := cell_later hz cX0_3
  replace sX0 : w.heap.size < w2.heap.size := World.block_lt_of_cell? _ _ cX0_0
  have cX1_0 := cell_later hb (a := ⟨w1.heap.size, 0, none⟩) (v := .int .u64 ah) (by go_simp)
  have cX1_1 := cell_later hb (a := ⟨w1.heap.size, 1, none⟩) (v := .int .u64 al) (by go_simp)
  have sX1 : w1.heap.size < w2.heap.size := World.block_lt_of_cell? _ _ cX1_0
  replace kk := bC kk hz
  clear hb hz
  go_wp2_with fail
  (with_reducible refine (h2.out _).mono ?_); rintro e w3 ⟨rfl, hb⟩
  replace cX0_0 := cell_later hb cX0_0; replace cX0_1 := cell_later hb cX0_1; replace cX0_2 := cell_later hb cX0_2; replace cX0_3 := cell_later hb cX0_3
  replace sX0 : w.heap.size < w3.heap.size := World.block_lt_of_cell? _ _ cX0_0
  replace cX1_0 := cell_later hb cX1_0; replace cX1_1 := cell_later hb cX1_1
  replace sX1 : w1.heap.size < w3.heap.size := World.block_lt_of_cell? _ _ cX1_0
  replace kk := bC kk hb
  clear hb
  go_wp2_with fail
  (with_reducible refine (h3.out _).mono ?_); rintro e w4 ⟨rfl, hb⟩
  have hz := bC (bA (Below.refl _ _) _) hb
  replace cX0_0 := cell_later hz cX0_0; replace cX0_1 := cell_later hz cX0_1; replace cX0_2 := cell_later hz cX0_2; replace cX0_3 := cell_later hz cX0_3
  replace sX0 : w.heap.size < w4.heap.size := World.block_lt_of_cell? _ _ cX0_0
  clear cX1_0 cX1_1 sX1
  replace kk := bC kk hz
  clear hb hz
  go_wp2_with fail
  (with_reducible refine (h4.out _).mono ?_); rintro e w5 ⟨rfl, hb⟩
  have hz := bC (bA (Below.refl _ _) _) hb
  clear cX0_0 cX0_1 cX0_2 cX0_3 sX0
  replace kk := bC kk hz
  clear hb hz
  go_wp2_with fail
  (with_reducible refine (h5.out _).mono ?_); rintro e w6 ⟨rfl, hb⟩
  replace kk := bC kk hb
  clear hb
  go_wp2_with fail
  go_ret
  exact ⟨rfl, kk⟩

set_option maxHeartbeats 4000000 in
set_option maxRecDepth 100000 in
theorem near15_00_mid (k8 k m mm c x0 x1 x2 x3 y0 y1 y2 y3 ah al fh fl : Int) (ng : Bool)
    (h0 : Hid (∀ w, Calls Try.prog 9 #[.agg #[.int .u64 x0, .int .u64 x1, .int .u64 x2, .int .u64 x3], .int .i64 k, .int .u8 mm, .bool ng] w fun e w' => e = .returned (.tuple #[.agg #[.int .u64 ah, .int .u64 al], .bool false]) ∧ Below w.heap.size w w'))
    (h1 : Hid (∀ w, Calls Try.prog 16 #[.agg #[.int .u64 x0, .int .u64 x1, .int .u64 x2, .int .u64 x3], .int .i64 c] w fun e w' => e = .returned (.agg #[.int .u64 y0, .int .u64 y1, .int .u64 y2, .int .u64 y3]) ∧ Below w.heap.size w w'))
    (h2 : Hid (∀ w, Calls Try.prog 15 #[.agg #[.int .u64 y0, .int .u64 y1, .int .u64 y2, .int .u64 y3]] w fun e w' => e = .returned (.agg #[.int .u64 fh, .int .u64 fl]) ∧ Below w.heap.size w w'))
    (h3 : Hid (∀ w, Calls Try.prog 17 #[.agg #[.int .u64 ah, .int .u64 al], .agg #[.int .u64 fh, .int .u64 fl]] w fun e w' => e = .returned (.tuple #[.agg #[.int .u64 0, .int .u64 0], .bool false]) ∧ Below w.heap.size w w'))
    (h4 : Hid (∀ w, Calls Try.prog 18 #[.agg #[.int .u64 x0, .int .u64 x1, .int .u64 x2, .int .u64 x3], .int .i64 c] w fun e w' => e = .returned (.bool false) ∧ Below w.heap.size w w'))
    (h5 : Hid (∀ w, Calls Try.prog 11 #[] w fun e w' => e = .returned (.bool true) ∧ Below w.heap.size w w')) (k0 : 0 ≤ k8) (k1 : k8 ≤ 255) (k2 : IntKind.i64.wrap k8 = k8) (k3 : k8 % 128 = k) (k4 : k8.tmod 128 = k) (m2 : m.tmod 5 = mm) (m3 : m % 5 = mm) (w1 : IntKind.i64.wrap (256 - k) = c) (w1x : wrap64 (256 - k) = c) (q4 : (mm == 4) = false) (q1 : decide (1 < mm) = true) (w : World) :
    Calls Try.prog 4 #[.agg #[.int .u64 x0, .int .u64 x1, .int .u64 x2, .int .u64 x3], .int .u8 k8, .int .u8 m, .bool ng] w fun e w' => e = .returned (.bool true) ∧ Below w.heap.size w w' := by
  go_enter Try.func4, Try.ntmps4
  go_wp2_with fail
  (with_reducible refine (h0.out _).mono ?_); rintro e w1 ⟨rfl, hb⟩
  have hz := bC (bA (Below.refl _ _) _) hb
  have cX0_0 := cell_later hb (a := ⟨w.heap.size, 0, none⟩) (v := .int .u64 x0) (by go_simp)
  have cX0_1 := cell_later hb (a := ⟨w.heap.size, 1, none⟩) (v := .int .u64 x1) (by go_simp)
  have cX0_2 := cell_later hb (a := ⟨w.heap.size, 2, none⟩) (v := .int .u64 x2) (by go_simp)
  have cX0_3 := cell_later hb (a := ⟨w.heap.size, 3, none⟩) (v := .int .u64 x3) (by go_simp)
  have sX0 : w.heap.size < w1.heap.size := World.block_lt_of_cell? _ _ cX0_0
  have kk := hz
  clear hb hz
  go_wp2_with fail
  (with_reducible refine (h1.out _).mono ?_); rintro e w2 ⟨rfl, hb⟩
  have hz := bC (bA (Below.refl _ _) _) hb
  replace cX0_0 := cell_later hz cX0_0; replace cX0_1 := cell_later hz cX0_1; replace cX0_2 := cell_later hz cX0_2; replace cX0_3 := cell_later hz cX0_3
  replace sX0 : w.heap.size < w2.heap.size := World.block_lt_of_cell? _ _ cX0_0
  have cX1_0 := cell_later hb (a := ⟨w1.heap.size, 0, none⟩) (v := .int .u64 ah) (by go_simp)
  have cX1_1 := cell_later hb (a := ⟨w1.heap.size, 1, none⟩) (v := .int .u64 al) (by go_simp)
  have sX1 : w1.heap.size < w2.heap.size := World.block_lt_of_cell? _ _ cX1_0
  replace kk := bC kk hz
  clear hb hz
  go_wp2_with fail
  (with_reducible refine (h2.out _).mono ?_); rintro e w3 ⟨rfl, hb⟩
  replace cX0_0 := cell_later hb cX0_0; replace cX0_1 := cell_later hb cX0_1; replace cX0_2 := cell_later hb cX0_2; replace cX0_3 := cell_later hb cX0_3
  replace sX0 : w.heap.size < w3.heap.size := World.block_lt_of_cell? _ _ cX0_0
  replace cX1_0 := cell_later hb cX1_0; replace cX1_1 := cell_later hb cX1_1
  replace sX1 : w1.heap.size < w3.heap.size := World.block_lt_of_cell? _ _ cX1_0
  replace kk := bC kk hb
  clear hb
  go_wp2_with fail
  (with_reducible refine (h3.out _).mono ?_); rintro e w4 ⟨rfl, hb⟩
  have hz := bC (bA (Below.refl _ _) _) hb
  replace cX0_0 := cell_later hz cX0_0; replace cX0_1 := cell_later hz cX0_1; replace cX0_2 := cell_later hz cX0_2; replace cX0_3 := cell_later hz cX0_3
  replace sX0 : w.heap.size < w4.heap.size := World.block_lt_of_cell? _ _ cX0_0
  clear cX1_0 cX1_1 sX1
  replace kk := bC kk hz
  clear hb hz
  go_wp2_with fail
  (with_reducible refine (h4.out _).mono ?_); rintro e w5 ⟨rfl, hb⟩
  have hz := bC (bA (Below.refl _ _) _) hb
  clear cX0_0 cX0_1 cX0_2 cX0_3 sX0
  replace kk := bC kk hz
  clear hb hz
  go_wp2_with fail
  (with_reducible refine (h5.out _).mono ?_); rintro e w6 ⟨rfl, hb⟩
  replace kk := bC kk hb
  clear hb
  go_wp2_with fail
  go_ret
  exact ⟨rfl, kk⟩

set_option maxHeartbeats 4000000 in
set_option maxRecDepth 100000 in
theorem near15_00_low (k8 k m mm c x0 x1 x2 x3 y0 y1 y2 y3 ah al fh fl t0 t1 t2 t3 j : Int) (ng : Bool)
    (h0 : Hid (∀ w, Calls Try.prog 9 #[.agg #[.int .u64 x0, .int .u64 x1, .int .u64 x2, .int .u64 x3], .int .i64 k, .int .u8 mm, .bool ng] w fun e w' => e = .returned (.tuple #[.agg #[.int .u64 ah, .int .u64 al], .bool false]) ∧ Below w.heap.size w w'))
    (h1 : Hid (∀ w, Calls Try.prog 16 #[.agg #[.int .u64 x0, .int .u64 x1, .int .u64 x2, .int .u64 x3], .int .i64 c] w fun e w' => e = .returned (.agg #[.int .u64 y0, .int .u64 y1, .int .u64 y2, .int .u64 y3]) ∧ Below w.heap.size w w'))
    (h2 : Hid (∀ w, Calls Try.prog 15 #[.agg #[.int .u64 y0, .int .u64 y1, .int .u64 y2, .int .u64 y3]] w fun e w' => e = .returned (.agg #[.int .u64 fh, .int .u64 fl]) ∧ Below w.heap.size w w'))
    (h3 : Hid (∀ w, Calls Try.prog 17 #[.agg #[.int .u64 ah, .int .u64 al], .agg #[.int .u64 fh, .int .u64 fl]] w fun e w' => e = .returned (.tuple #[.agg #[.int .u64 0, .int .u64 0], .bool false]) ∧ Below w.heap.size w w'))
    (h4 : Hid (∀ w, Calls Try.prog 18 #[.agg #[.int .u64 x0, .int .u64 x1, .int .u64 x2, .int .u64 x3], .int .i64 c] w fun e w' => e = .returned (.bool false) ∧ Below w.heap.size w w'))
    (h5 : Hid (∀ w, Calls Try.prog 19 #[.agg #[.int .u64 x0, .int .u64 x1, .int .u64 x2, .int .u64 x3], .int .i64 k] w fun e w' => e = .returned (.agg #[.int .u64 t0, .int .u64 t1, .int .u64 t2, .int .u64 t3]) ∧ Below w.heap.size w w'))
    (h7 : Hid (∀ w, Calls Try.prog 20 #[.agg #[.int .u64 t0, .int .u64 t1, .int .u64 t2, .int .u64 t3], .agg #[.int .u64 0, .int .u64 0, .int .u64 0, .int .u64 9223372036854775808]] w fun e w' => e = .returned (.int .i64 j) ∧ Below w.heap.size w w'))
    (h8 : Hid (∀ w, Calls Try.prog 11 #[] w fun e w' => e = .returned (.bool true) ∧ Below w.heap.size w w')) (k0 : 0 ≤ k8) (k1 : k8 ≤ 255) (k2 : IntKind.i64.wrap k8 = k8) (k3 : k8 % 128 = k) (k4 : k8.tmod 128 = k) (m2 : m.tmod 5 = mm) (m3 : m % 5 = mm) (w1 : IntKind.i64.wrap (256 - k) = c) (w1x : wrap64 (256 - k) = c) (q4 : (mm == 4) = false) (q1 : decide (1 < mm) = false) (j1 : decide (j ≤ 0) = true) (w : World) :
    Calls Try.prog 4 #[.agg #[.int .u64 x0, .int .u64 x1, .int .u64 x2, .int .u64 x3], .int .u8 k8, .int .u8 m, .bool ng] w fun e w' => e = .returned (.bool true) ∧ Below w.heap.size w w' := by
  go_enter Try.func4, Try.ntmps4
  go_wp2_with fail
  (with_reducible refine (h0.out _).mono ?_); rintro e w1 ⟨rfl, hb⟩
  have hz := bC (bA (Below.refl _ _) _) hb
  have cX0_0 := cell_later hb (a := ⟨w.heap.size, 0, none⟩) (v := .int .u64 x0) (by go_simp)
  have cX0_1 := cell_later hb (a := ⟨w.heap.size, 1, none⟩) (v := .int .u64 x1) (by go_simp)
  have cX0_2 := cell_later hb (a := ⟨w.heap.size, 2, none⟩) (v := .int .u64 x2) (by go_simp)
  have cX0_3 := cell_later hb (a := ⟨w.heap.size, 3, none⟩) (v := .int .u64 x3) (by go_simp)
  have sX0 : w.heap.size < w1.heap.size := World.block_lt_of_cell? _ _ cX0_0
  have kk := hz
  clear hb hz
  go_wp2_with fail
  (with_reducible refine (h1.out _).mono ?_); rintro e w2 ⟨rfl, hb⟩
  have hz := bC (bA (Below.refl _ _) _) hb
  replace cX0_0 := cell_later hz cX0_0; replace cX0_1 := cell_later hz cX0_1; replace cX0_2 := cell_later hz cX0_2; replace cX0_3 := cell_later hz cX0_3
  replace sX0 : w.heap.size < w2.heap.size := World.block_lt_of_cell? _ _ cX0_0
  have cX1_0 := cell_later hb (a := ⟨w1.heap.size, 0, none⟩) (v := .int .u64 ah) (by go_simp)
  have cX1_1 := cell_later hb (a := ⟨w1.heap.size, 1, none⟩) (v := .int .u64 al) (by go_simp)
  have sX1 : w1.heap.size < w2.heap.size := World.block_lt_of_cell? _ _ cX1_0
  replace kk := bC kk hz
  clear hb hz
  go_wp2_with fail
  (with_reducible refine (h2.out _).mono ?_); rintro e w3 ⟨rfl, hb⟩
  replace cX0_0 := cell_later hb cX0_0; replace cX0_1 := cell_later hb cX0_1; replace cX0_2 := cell_later hb cX0_2; replace cX0_3 := cell_later hb cX0_3
  replace sX0 : w.heap.size < w3.heap.size := World.block_lt_of_cell? _ _ cX0_0
  replace cX1_0 := cell_later hb cX1_0; replace cX1_1 := cell_later hb cX1_1
  replace sX1 : w1.heap.size < w3.heap.size := World.block_lt_of_cell? _ _ cX1_0
  replace kk := bC kk hb
  clear hb
  go_wp2_with fail
  (with_reducible refine (h3.out _).mono ?_); rintro e w4 ⟨rfl, hb⟩
  have hz := bC (bA (Below.refl _ _) _) hb
  replace cX0_0 := cell_later hz cX0_0; replace cX0_1 := cell_later hz cX0_1; replace cX0_2 := cell_later hz cX0_2; replace cX0_3 := cell_later hz cX0_3
  replace sX0 : w.heap.size < w4.heap.size := World.block_lt_of_cell? _ _ cX0_0
  clear cX1_0 cX1_1 sX1
  replace kk := bC kk hz
  clear hb hz
  go_wp2_with fail
  (with_reducible refine (h4.out _).mono ?_); rintro e w5 ⟨rfl, hb⟩
  have hz := bC (bA (Below.refl _ _) _) hb
  replace cX0_0 := cell_later hz cX0_0; replace cX0_1 := cell_later hz cX0_1; replace cX0_2 := cell_later hz cX0_2; replace cX0_3 := cell_later hz cX0_3
  replace sX0 : w.heap.size < w5.heap.size := World.block_lt_of_cell? _ _ cX0_0
  have cX3_0 := cell_later hb (a := ⟨w4.heap.size, 0, none⟩) (v := .int .u64 0) (by go_simp)
  have cX3_1 := cell_later hb (a := ⟨w4.heap.size, 1, none⟩) (v := .int .u64 0) (by go_simp)
  have sX3 : w4.heap.size < w5.heap.size := World.block_lt_of_cell? _ _ cX3_0
  replace kk := bC kk hz
  clear hb hz
  go_wp2_with fail
  (with_reducible refine (h5.out _).mono ?_); rintro e w6 ⟨rfl, hb⟩
  clear cX0_0 cX0_1 cX0_2 cX0_3 sX0
  replace cX3_0 := cell_later hb cX3_0; replace cX3_1 := cell_later hb cX3_1
  replace sX3 : w4.heap.size < w6.heap.size := World.block_lt_of_cell? _ _ cX3_0
  replace kk := bC kk hb
  clear hb
  go_wp2_with fail
  (with_reducible refine (h7.out _).mono ?_); rintro e w7 ⟨rfl, hb⟩
  have hz := bC (bA (bA (Below.refl _ _) _) _) hb
  clear cX3_0 cX3_1 sX3
  replace kk := bC kk hz
  clear hb hz
  go_wp2_with fail
  (with_reducible refine (h8.out _).mono ?_); rintro e w8 ⟨rfl, hb⟩
  replace kk := bC kk hb
  clear hb
  go_wp2_with fail
  go_ret
  exact ⟨rfl, kk⟩

set_option maxHeartbeats 4000000 in
set_option maxRecDepth 100000 in
theorem near15_01_four (k8 k m mm c x0 x1 x2 x3 y0 y1 y2 y3 ah al fh fl : Int) (ng : Bool)
    (h0 : Hid (∀ w, Calls Try.prog 9 #[.agg #[.int .u64 x0, .int .u64 x1, .int .u64 x2, .int .u64 x3], .int .i64 k, .int .u8 mm, .bool ng] w fun e w' => e = .returned (.tuple #[.agg #[.int .u64 ah, .int .u64 al], .bool true]) ∧ Below w.heap.size w w'))
    (h1 : Hid (∀ w, Calls Try.prog 16 #[.agg #[.int .u64 x0, .int .u64 x1, .int .u64 x2, .int .u64 x3], .int .i64 c] w fun e w' => e = .returned (.agg #[.int .u64 y0, .int .u64 y1, .int .u64 y2, .int .u64 y3]) ∧ Below w.heap.size w w'))
    (h2 : Hid (∀ w, Calls Try.prog 15 #[.agg #[.int .u64 y0, .int .u64 y1, .int .u64 y2, .int .u64 y3]] w fun e w' => e = .returned (.agg #[.int .u64 fh, .int .u64 fl]) ∧ Below w.heap.size w w'))
    (h3 : Hid (∀ w, Calls Try.prog 17 #[.agg #[.int .u64 ah, .int .u64 al], .agg #[.int .u64 fh, .int .u64 fl]] w fun e w' => e = .returned (.tuple #[.agg #[.int .u64 0, .int .u64 0], .bool false]) ∧ Below w.heap.size w w'))
    (h4 : Hid (∀ w, Calls Try.prog 18 #[.agg #[.int .u64 x0, .int .u64 x1, .int .u64 x2, .int .u64 x3], .int .i64 c] w fun e w' => e = .returned (.bool true) ∧ Below w.heap.size w w'))
    (h5 : Hid (∀ w, Calls Try.prog 11 #[] w fun e w' => e = .returned (.bool true) ∧ Below w.heap.size w w')) (k0 : 0 ≤ k8) (k1 : k8 ≤ 255) (k2 : IntKind.i64.wrap k8 = k8) (k3 : k8 % 128 = k) (k4 : k8.tmod 128 = k) (m2 : m.tmod 5 = mm) (m3 : m % 5 = mm) (w1 : IntKind.i64.wrap (256 - k) = c) (w1x : wrap64 (256 - k) = c) (q4 : (mm == 4) = true) (q1 : decide (1 < mm) = true) (w : World) :
    Calls Try.prog 4 #[.agg #[.int .u64 x0, .int .u64 x1, .int .u64 x2, .int .u64 x3], .int .u8 k8, .int .u8 m, .bool ng] w fun e w' => e = .returned (.bool true) ∧ Below w.heap.size w w' := by
  go_enter Try.func4, Try.ntmps4
  go_wp2_with fail
  (with_reducible refine (h0.out _).mono ?_); rintro e w1 ⟨rfl, hb⟩
  have hz := bC (bA (Below.refl _ _) _) hb
  have cX0_0 := cell_later hb (a := ⟨w.heap.size, 0, none⟩) (v := .int .u64 x0) (by go_simp)
  have cX0_1 := cell_later hb (a := ⟨w.heap.size, 1, none⟩) (v := .int .u64 x1) (by go_simp)
  have cX0_2 := cell_later hb (a := ⟨w.heap.size, 2, none⟩) (v := .int .u64 x2) (by go_simp)
  have cX0_3 := cell_later hb (a := ⟨w.heap.size, 3, none⟩) (v := .int .u64 x3) (by go_simp)
  have sX0 : w.heap.size < w1.heap.size := World.block_lt_of_cell? _ _ cX0_0
  have kk := hz
  clear hb hz
  go_wp2_with fail
  (with_reducible refine (h1.out _).mono ?_); rintro e w2 ⟨rfl, hb⟩
  have hz := bC (bA (Below.refl _ _) _) hb
  replace cX0_0 := cell_later hz cX0_0; replace cX0_1 := cell_later hz cX0_1; replace cX0_2 := cell_later hz cX0_2; replace cX0_3 := cell_later hz cX0_3
  replace sX0 : w.heap.size < w2.heap.size := World.block_lt_of_cell? _ _ cX0_0
  have cX1_0 := cell_later hb (a := ⟨w1.heap.size, 0, none⟩) (v := .int .u64 ah) (by go_simp)
  have cX1_1 := cell_later hb (a := ⟨w1.heap.size, 1, none⟩) (v := .int .u64 al) (by go_simp)
  have sX1 : w1.heap.size < w2.heap.size := World.block_lt_of_cell? _ _ cX1_0
  replace kk := bC kk hz
  clear hb hz
  go_wp2_with fail
  (with_reducible refine (h2.out _).mono ?_); rintro e w3 ⟨rfl, hb⟩
  replace cX0_0 := cell_later hb cX0_0; replace cX0_1 := cell_later hb cX0_1; replace cX0_2 := cell_later hb cX0_2; replace cX0_3 := cell_later hb cX0_3
  replace sX0 : w.heap.size < w3.heap.size := World.block_lt_of_cell? _ _ cX0_0
  replace cX1_0 := cell_later hb cX1_0; replace cX1_1 := cell_later hb cX1_1
  replace sX1 : w1.heap.size < w3.heap.size := World.block_lt_of_cell? _ _ cX1_0
  replace kk := bC kk hb
  clear hb
  go_wp2_with fail
  (with_reducible refine (h3.out _).mono ?_); rintro e w4 ⟨rfl, hb⟩
  have hz := bC (bA (Below.refl _ _) _) hb
  replace cX0_0 := cell_later hz cX0_0; replace cX0_1 := cell_later hz cX0_1; replace cX0_2 := cell_later hz cX0_2; replace cX0_3 := cell_later hz cX0_3
  replace sX0 : w.heap.size < w4.heap.size := World.block_lt_of_cell? _ _ cX0_0
  clear cX1_0 cX1_1 sX1
  replace kk := bC kk hz
  clear hb hz
  go_wp2_with fail
  (with_reducible refine (h4.out _).mono ?_); rintro e w5 ⟨rfl, hb⟩
  have hz := bC (bA (Below.refl _ _) _) hb
  clear cX0_0 cX0_1 cX0_2 cX0_3 sX0
  replace kk := bC kk hz
  clear hb hz
  go_wp2_with fail
  (with_reducible refine (h5.out _).mono ?_); rintro e w6 ⟨rfl, hb⟩
  replace kk := bC kk hb
  clear hb
  go_wp2_with fail
  go_ret
  exact ⟨rfl, kk⟩

set_option maxHeartbeats 4000000 in
set_option maxRecDepth 100000 in
theorem near15_01_mid (k8 k m mm c x0 x1 x2 x3 y0 y1 y2 y3 ah al fh fl : Int) (ng : Bool)
    (h0 : Hid (∀ w, Calls Try.prog 9 #[.agg #[.int .u64 x0, .int .u64 x1, .int .u64 x2, .int .u64 x3], .int .i64 k, .int .u8 mm, .bool ng] w fun e w' => e = .returned (.tuple #[.agg #[.int .u64 ah, .int .u64 al], .bool true]) ∧ Below w.heap.size w w'))
    (h1 : Hid (∀ w, Calls Try.prog 16 #[.agg #[.int .u64 x0, .int .u64 x1, .int .u64 x2, .int .u64 x3], .int .i64 c] w fun e w' => e = .returned (.agg #[.int .u64 y0, .int .u64 y1, .int .u64 y2, .int .u64 y3]) ∧ Below w.heap.size w w'))
    (h2 : Hid (∀ w, Calls Try.prog 15 #[.agg #[.int .u64 y0, .int .u64 y1, .int .u64 y2, .int .u64 y3]] w fun e w' => e = .returned (.agg #[.int .u64 fh, .int .u64 fl]) ∧ Below w.heap.size w w'))
    (h3 : Hid (∀ w, Calls Try.prog 17 #[.agg #[.int .u64 ah, .int .u64 al], .agg #[.int .u64 fh, .int .u64 fl]] w fun e w' => e = .returned (.tuple #[.agg #[.int .u64 0, .int .u64 0], .bool false]) ∧ Below w.heap.size w w'))
    (h4 : Hid (∀ w, Calls Try.prog 18 #[.agg #[.int .u64 x0, .int .u64 x1, .int .u64 x2, .int .u64 x3], .int .i64 c] w fun e w' => e = .returned (.bool true) ∧ Below w.heap.size w w'))
    (h5 : Hid (∀ w, Calls Try.prog 11 #[] w fun e w' => e = .returned (.bool true) ∧ Below w.heap.size w w')) (k0 : 0 ≤ k8) (k1 : k8 ≤ 255) (k2 : IntKind.i64.wrap k8 = k8) (k3 : k8 % 128 = k) (k4 : k8.tmod 128 = k) (m2 : m.tmod 5 = mm) (m3 : m % 5 = mm) (w1 : IntKind.i64.wrap (256 - k) = c) (w1x : wrap64 (256 - k) = c) (q4 : (mm == 4) = false) (q1 : decide (1 < mm) = true) (w : World) :
    Calls Try.prog 4 #[.agg #[.int .u64 x0, .int .u64 x1, .int .u64 x2, .int .u64 x3], .int .u8 k8, .int .u8 m, .bool ng] w fun e w' => e = .returned (.bool true) ∧ Below w.heap.size w w' := by
  go_enter Try.func4, Try.ntmps4
  go_wp2_with fail
  (with_reducible refine (h0.out _).mono ?_); rintro e w1 ⟨rfl, hb⟩
  have hz := bC (bA (Below.refl _ _) _) hb
  have cX0_0 := cell_later hb (a := ⟨w.heap.size, 0, none⟩) (v := .int .u64 x0) (by go_simp)
  have cX0_1 := cell_later hb (a := ⟨w.heap.size, 1, none⟩) (v := .int .u64 x1) (by go_simp)
  have cX0_2 := cell_later hb (a := ⟨w.heap.size, 2, none⟩) (v := .int .u64 x2) (by go_simp)
  have cX0_3 := cell_later hb (a := ⟨w.heap.size, 3, none⟩) (v := .int .u64 x3) (by go_simp)
  have sX0 : w.heap.size < w1.heap.size := World.block_lt_of_cell? _ _ cX0_0
  have kk := hz
  clear hb hz
  go_wp2_with fail
  (with_reducible refine (h1.out _).mono ?_); rintro e w2 ⟨rfl, hb⟩
  have hz := bC (bA (Below.refl _ _) _) hb
  replace cX0_0 := cell_later hz cX0_0; replace cX0_1 := cell_later hz cX0_1; replace cX0_2 := cell_later hz cX0_2; replace cX0_3 := cell_later hz cX0_3
  replace sX0 : w.heap.size < w2.heap.size := World.block_lt_of_cell? _ _ cX0_0
  have cX1_0 := cell_later hb (a := ⟨w1.heap.size, 0, none⟩) (v := .int .u64 ah) (by go_simp)
  have cX1_1 := cell_later hb (a := ⟨w1.heap.size, 1, none⟩) (v := .int .u64 al) (by go_simp)
  have sX1 : w1.heap.size < w2.heap.size := World.block_lt_of_cell? _ _ cX1_0
  replace kk := bC kk hz
  clear hb hz
  go_wp2_with fail
  (with_reducible refine (h2.out _).mono ?_); rintro e w3 ⟨rfl, hb⟩
  replace cX0_0 := cell_later hb cX0_0; replace cX0_1 := cell_later hb cX0_1; replace cX0_2 := cell_later hb cX0_2; replace cX0_3 := cell_later hb cX0_3
  replace sX0 : w.heap.size < w3.heap.size := World.block_lt_of_cell? _ _ cX0_0
  replace cX1_0 := cell_later hb cX1_0; replace cX1_1 := cell_later hb cX1_1
  replace sX1 : w1.heap.size < w3.heap.size := World.block_lt_of_cell? _ _ cX1_0
  replace kk := bC kk hb
  clear hb
  go_wp2_with fail
  (with_reducible refine (h3.out _).mono ?_); rintro e w4 ⟨rfl, hb⟩
  have hz := bC (bA (Below.refl _ _) _) hb
  replace cX0_0 := cell_later hz cX0_0; replace cX0_1 := cell_later hz cX0_1; replace cX0_2 := cell_later hz cX0_2; replace cX0_3 := cell_later hz cX0_3
  replace sX0 : w.heap.size < w4.heap.size := World.block_lt_of_cell? _ _ cX0_0
  clear cX1_0 cX1_1 sX1
  replace kk := bC kk hz
  clear hb hz
  go_wp2_with fail
  (with_reducible refine (h4.out _).mono ?_); rintro e w5 ⟨rfl, hb⟩
  have hz := bC (bA (Below.refl _ _) _) hb
  clear cX0_0 cX0_1 cX0_2 cX0_3 sX0
  replace kk := bC kk hz
  clear hb hz
  go_wp2_with fail
  (with_reducible refine (h5.out _).mono ?_); rintro e w6 ⟨rfl, hb⟩
  replace kk := bC kk hb
  clear hb
  go_wp2_with fail
  go_ret
  exact ⟨rfl, kk⟩

set_option maxHeartbeats 4000000 in
set_option maxRecDepth 100000 in
theorem near15_01_low (k8 k m mm c x0 x1 x2 x3 y0 y1 y2 y3 ah al fh fl t0 t1 t2 t3 j : Int) (ng : Bool)
    (h0 : Hid (∀ w, Calls Try.prog 9 #[.agg #[.int .u64 x0, .int .u64 x1, .int .u64 x2, .int .u64 x3], .int .i64 k, .int .u8 mm, .bool ng] w fun e w' => e = .returned (.tuple #[.agg #[.int .u64 ah, .int .u64 al], .bool true]) ∧ Below w.heap.size w w'))
    (h1 : Hid (∀ w, Calls Try.prog 16 #[.agg #[.int .u64 x0, .int .u64 x1, .int .u64 x2, .int .u64 x3], .int .i64 c] w fun e w' => e = .returned (.agg #[.int .u64 y0, .int .u64 y1, .int .u64 y2, .int .u64 y3]) ∧ Below w.heap.size w w'))
    (h2 : Hid (∀ w, Calls Try.prog 15 #[.agg #[.int .u64 y0, .int .u64 y1, .int .u64 y2, .int .u64 y3]] w fun e w' => e = .returned (.agg #[.int .u64 fh, .int .u64 fl]) ∧ Below w.heap.size w w'))
    (h3 : Hid (∀ w, Calls Try.prog 17 #[.agg #[.int .u64 ah, .int .u64 al], .agg #[.int .u64 fh, .int .u64 fl]] w fun e w' => e = .returned (.tuple #[.agg #[.int .u64 0, .int .u64 0], .bool false]) ∧ Below w.heap.size w w'))
    (h4 : Hid (∀ w, Calls Try.prog 18 #[.agg #[.int .u64 x0, .int .u64 x1, .int .u64 x2, .int .u64 x3], .int .i64 c] w fun e w' => e = .returned (.bool true) ∧ Below w.heap.size w w'))
    (h5 : Hid (∀ w, Calls Try.prog 19 #[.agg #[.int .u64 x0, .int .u64 x1, .int .u64 x2, .int .u64 x3], .int .i64 k] w fun e w' => e = .returned (.agg #[.int .u64 t0, .int .u64 t1, .int .u64 t2, .int .u64 t3]) ∧ Below w.heap.size w w'))
    (h7 : Hid (∀ w, Calls Try.prog 20 #[.agg #[.int .u64 t0, .int .u64 t1, .int .u64 t2, .int .u64 t3], .agg #[.int .u64 0, .int .u64 0, .int .u64 0, .int .u64 9223372036854775808]] w fun e w' => e = .returned (.int .i64 j) ∧ Below w.heap.size w w'))
    (h8 : Hid (∀ w, Calls Try.prog 11 #[] w fun e w' => e = .returned (.bool true) ∧ Below w.heap.size w w')) (k0 : 0 ≤ k8) (k1 : k8 ≤ 255) (k2 : IntKind.i64.wrap k8 = k8) (k3 : k8 % 128 = k) (k4 : k8.tmod 128 = k) (m2 : m.tmod 5 = mm) (m3 : m % 5 = mm) (w1 : IntKind.i64.wrap (256 - k) = c) (w1x : wrap64 (256 - k) = c) (q4 : (mm == 4) = false) (q1 : decide (1 < mm) = false) (j1 : decide (j ≤ 0) = true) (w : World) :
    Calls Try.prog 4 #[.agg #[.int .u64 x0, .int .u64 x1, .int .u64 x2, .int .u64 x3], .int .u8 k8, .int .u8 m, .bool ng] w fun e w' => e = .returned (.bool true) ∧ Below w.heap.size w w' := by
  go_enter Try.func4, Try.ntmps4
  go_wp2_with fail
  (with_reducible refine (h0.out _).mono ?_); rintro e w1 ⟨rfl, hb⟩
  have hz := bC (bA (Below.refl _ _) _) hb
  have cX0_0 := cell_later hb (a := ⟨w.heap.size, 0, none⟩) (v := .int .u64 x0) (by go_simp)
  have cX0_1 := cell_later hb (a := ⟨w.heap.size, 1, none⟩) (v := .int .u64 x1) (by go_simp)
  have cX0_2 := cell_later hb (a := ⟨w.heap.size, 2, none⟩) (v := .int .u64 x2) (by go_simp)
  have cX0_3 := cell_later hb (a := ⟨w.heap.size, 3, none⟩) (v := .int .u64 x3) (by go_simp)
  have sX0 : w.heap.size < w1.heap.size := World.block_lt_of_cell? _ _ cX0_0
  have kk := hz
  clear hb hz
  go_wp2_with fail
  (with_reducible refine (h1.out _).mono ?_); rintro e w2 ⟨rfl, hb⟩
  have hz := bC (bA (Below.refl _ _) _) hb
  replace cX0_0 := cell_later hz cX0_0; replace cX0_1 := cell_later hz cX0_1; replace cX0_2 := cell_later hz cX0_2; replace cX0_3 := cell_later hz cX0_3
  replace sX0 : w.heap.size < w2.heap.size := World.block_lt_of_cell? _ _ cX0_0
  have cX1_0 := cell_later hb (a := ⟨w1.heap.size, 0, none⟩) (v := .int .u64 ah) (by go_simp)
  have cX1_1 := cell_later hb (a := ⟨w1.heap.size, 1, none⟩) (v := .int .u64 al) (by go_simp)
  have sX1 : w1.heap.size < w2.heap.size := World.block_lt_of_cell? _ _ cX1_0
  replace kk := bC kk hz
  clear hb hz
  go_wp2_with fail
  (with_reducible refine (h2.out _).mono ?_); rintro e w3 ⟨rfl, hb⟩
  replace cX0_0 := cell_later hb cX0_0; replace cX0_1 := cell_later hb cX0_1; replace cX0_2 := cell_later hb cX0_2; replace cX0_3 := cell_later hb cX0_3
  replace sX0 : w.heap.size < w3.heap.size := World.block_lt_of_cell? _ _ cX0_0
  replace cX1_0 := cell_later hb cX1_0; replace cX1_1 := cell_later hb cX1_1
  replace sX1 : w1.heap.size < w3.heap.size := World.block_lt_of_cell? _ _ cX1_0
  replace kk := bC kk hb
  clear hb
  go_wp2_with fail
  (with_reducible refine (h3.out _).mono ?_); rintro e w4 ⟨rfl, hb⟩
  have hz := bC (bA (Below.refl _ _) _) hb
  replace cX0_0 := cell_later hz cX0_0; replace cX0_1 := cell_later hz cX0_1; replace cX0_2 := cell_later hz cX0_2; replace cX0_3 := cell_later hz cX0_3
  replace sX0 : w.heap.size < w4.heap.size := World.block_lt_of_cell? _ _ cX0_0
  clear cX1_0 cX1_1 sX1
  replace kk := bC kk hz
  clear hb hz
  go_wp2_with fail
  (with_reducible refine (h4.out _).mono ?_); rintro e w5 ⟨rfl, hb⟩
  have hz := bC (bA (Below.refl _ _) _) hb
  replace cX0_0 := cell_later hz cX0_0; replace cX0_1 := cell_later hz cX0_1; replace cX0_2 := cell_later hz cX0_2; replace cX0_3 := cell_later hz cX0_3
  replace sX0 : w.heap.size < w5.heap.size := World.block_lt_of_cell? _ _ cX0_0
  have cX3_0 := cell_later hb (a := ⟨w4.heap.size, 0, none⟩) (v := .int .u64 0) (by go_simp)
  have cX3_1 := cell_later hb (a := ⟨w4.heap.size, 1, none⟩) (v := .int .u64 0) (by go_simp)
  have sX3 : w4.heap.size < w5.heap.size := World.block_lt_of_cell? _ _ cX3_0
  replace kk := bC kk hz
  clear hb hz
  go_wp2_with fail
  (with_reducible refine (h5.out _).mono ?_); rintro e w6 ⟨rfl, hb⟩
  clear cX0_0 cX0_1 cX0_2 cX0_3 sX0
  replace cX3_0 := cell_later hb cX3_0; replace cX3_1 := cell_later hb cX3_1
  replace sX3 : w4.heap.size < w6.heap.size := World.block_lt_of_cell? _ _ cX3_0
  replace kk := bC kk hb
  clear hb
  go_wp2_with fail
  (with_reducible refine (h7.out _).mono ?_); rintro e w7 ⟨rfl, hb⟩
  have hz := bC (bA (bA (Below.refl _ _) _) _) hb
  clear cX3_0 cX3_1 sX3
  replace kk := bC kk hz
  clear hb hz
  go_wp2_with fail
  (with_reducible refine (h8.out _).mono ?_); rintro e w8 ⟨rfl, hb⟩
  replace kk := bC kk hb
  clear hb
  go_wp2_with fail
  go_ret
  exact ⟨rfl, kk⟩

set_option maxHeartbeats 4000000 in
set_option maxRecDepth 100000 in
theorem near15_11_mid (k8 k m mm c x0 x1 x2 x3 y0 y1 y2 y3 ah al fh fl : Int) (ng : Bool)
    (h0 : Hid (∀ w, Calls Try.prog 9 #[.agg #[.int .u64 x0, .int .u64 x1, .int .u64 x2, .int .u64 x3], .int .i64 k, .int .u8 mm, .bool ng] w fun e w' => e = .returned (.tuple #[.agg #[.int .u64 ah, .int .u64 al], .bool true]) ∧ Below w.heap.size w w'))
    (h1 : Hid (∀ w, Calls Try.prog 16 #[.agg #[.int .u64 x0, .int .u64 x1, .int .u64 x2, .int .u64 x3], .int .i64 c] w fun e w' => e = .returned (.agg #[.int .u64 y0, .int .u64 y1, .int .u64 y2, .int .u64 y3]) ∧ Below w.heap.size w w'))
    (h2 : Hid (∀ w, Calls Try.prog 15 #[.agg #[.int .u64 y0, .int .u64 y1, .int .u64 y2, .int .u64 y3]] w fun e w' => e = .returned (.agg #[.int .u64 fh, .int .u64 fl]) ∧ Below w.heap.size w w'))
    (h3 : Hid (∀ w, Calls Try.prog 17 #[.agg #[.int .u64 ah, .int .u64 al], .agg #[.int .u64 fh, .int .u64 fl]] w fun e w' => e = .returned (.tuple #[.agg #[.int .u64 0, .int .u64 1], .bool false]) ∧ Below w.heap.size w w'))
    (h4 : Hid (∀ w, Calls Try.prog 18 #[.agg #[.int .u64 x0, .int .u64 x1, .int .u64 x2, .int .u64 x3], .int .i64 c] w fun e w' => e = .returned (.bool true) ∧ Below w.heap.size w w'))
    (h5 : Hid (∀ w, Calls Try.prog 11 #[] w fun e w' => e = .returned (.bool true) ∧ Below w.heap.size w w')) (k0 : 0 ≤ k8) (k1 : k8 ≤ 255) (k2 : IntKind.i64.wrap k8 = k8) (k3 : k8 % 128 = k) (k4 : k8.tmod 128 = k) (m2 : m.tmod 5 = mm) (m3 : m % 5 = mm) (w1 : IntKind.i64.wrap (256 - k) = c) (w1x : wrap64 (256 - k) = c) (q4 : (mm == 4) = false) (q1 : decide (1 < mm) = true) (w : World) :
    Calls Try.prog 4 #[.agg #[.int .u64 x0, .int .u64 x1, .int .u64 x2, .int .u64 x3], .int .u8 k8, .int .u8 m, .bool ng] w fun e w' => e = .returned (.bool true) ∧ Below w.heap.size w w' := by
  go_enter Try.func4, Try.ntmps4
  go_wp2_with fail
  (with_reducible refine (h0.out _).mono ?_); rintro e w1 ⟨rfl, hb⟩
  have hz := bC (bA (Below.refl _ _) _) hb
  have cX0_0 := cell_later hb (a := ⟨w.heap.size, 0, none⟩) (v := .int .u64 x0) (by go_simp)
  have cX0_1 := cell_later hb (a := ⟨w.heap.size, 1, none⟩) (v := .int .u64 x1) (by go_simp)
  have cX0_2 := cell_later hb (a := ⟨w.heap.size, 2, none⟩) (v := .int .u64 x2) (by go_simp)
  have cX0_3 := cell_later hb (a := ⟨w.heap.size, 3, none⟩) (v := .int .u64 x3) (by go_simp)
  have sX0 : w.heap.size < w1.heap.size := World.block_lt_of_cell? _ _ cX0_0
  have kk := hz
  clear hb hz
  go_wp2_with fail
  (with_reducible refine (h1.out _).mono ?_); rintro e w2 ⟨rfl, hb⟩
  have hz := bC (bA (Below.refl _ _) _) hb
  replace cX0_0 := cell_later hz cX0_0; replace cX0_1 := cell_later hz cX0_1; replace cX0_2 := cell_later hz cX0_2; replace cX0_3 := cell_later hz cX0_3
  replace sX0 : w.heap.size < w2.heap.size := World.block_lt_of_cell? _ _ cX0_0
  have cX1_0 := cell_later hb (a := ⟨w1.heap.size, 0, none⟩) (v := .int .u64 ah) (by go_simp)
  have cX1_1 := cell_later hb (a := ⟨w1.heap.size, 1, none⟩) (v := .int .u64 al) (by go_simp)
  have sX1 : w1.heap.size < w2.heap.size := World.block_lt_of_cell? _ _ cX1_0
  replace kk := bC kk hz
  clear hb hz
  go_wp2_with fail
  (with_reducible refine (h2.out _).mono ?_); rintro e w3 ⟨rfl, hb⟩
  replace cX0_0 := cell_later hb cX0_0; replace cX0_1 := cell_later hb cX0_1; replace cX0_2 := cell_later hb cX0_2; replace cX0_3 := cell_later hb cX0_3
  replace sX0 : w.heap.size < w3.heap.size := World.block_lt_of_cell? _ _ cX0_0
  replace cX1_0 := cell_later hb cX1_0; replace cX1_1 := cell_later hb cX1_1
  replace sX1 : w1.heap.size < w3.heap.size := World.block_lt_of_cell? _ _ cX1_0
  replace kk := bC kk hb
  clear hb
  go_wp2_with fail
  (with_reducible refine (h3.out _).mono ?_); rintro e w4 ⟨rfl, hb⟩
  have hz := bC (bA (Below.refl _ _) _) hb
  replace cX0_0 := cell_later hz cX0_0; replace cX0_1 := cell_later hz cX0_1; replace cX0_2 := cell_later hz cX0_2; replace cX0_3 := cell_later hz cX0_3
  replace sX0 : w.heap.size < w4.heap.size := World.block_lt_of_cell? _ _ cX0_0
  clear cX1_0 cX1_1 sX1
  replace kk := bC kk hz
  clear hb hz
  go_wp2_with fail
  (with_reducible refine (h4.out _).mono ?_); rintro e w5 ⟨rfl, hb⟩
  have hz := bC (bA (Below.refl _ _) _) hb
  clear cX0_0 cX0_1 cX0_2 cX0_3 sX0
  replace kk := bC kk hz
  clear hb hz
  go_wp2_with fail
  (with_reducible refine (h5.out _).mono ?_); rintro e w6 ⟨rfl, hb⟩
  replace kk := bC kk hb
  clear hb
  go_wp2_with fail
  go_ret
  exact ⟨rfl, kk⟩

set_option maxHeartbeats 4000000 in
set_option maxRecDepth 100000 in
theorem near15_11_low (k8 k m mm c x0 x1 x2 x3 y0 y1 y2 y3 ah al fh fl t0 t1 t2 t3 j : Int) (ng : Bool)
    (h0 : Hid (∀ w, Calls Try.prog 9 #[.agg #[.int .u64 x0, .int .u64 x1, .int .u64 x2, .int .u64 x3], .int .i64 k, .int .u8 mm, .bool ng] w fun e w' => e = .returned (.tuple #[.agg #[.int .u64 ah, .int .u64 al], .bool true]) ∧ Below w.heap.size w w'))
    (h1 : Hid (∀ w, Calls Try.prog 16 #[.agg #[.int .u64 x0, .int .u64 x1, .int .u64 x2, .int .u64 x3], .int .i64 c] w fun e w' => e = .returned (.agg #[.int .u64 y0, .int .u64 y1, .int .u64 y2, .int .u64 y3]) ∧ Below w.heap.size w w'))
    (h2 : Hid (∀ w, Calls Try.prog 15 #[.agg #[.int .u64 y0, .int .u64 y1, .int .u64 y2, .int .u64 y3]] w fun e w' => e = .returned (.agg #[.int .u64 fh, .int .u64 fl]) ∧ Below w.heap.size w w'))
    (h3 : Hid (∀ w, Calls Try.prog 17 #[.agg #[.int .u64 ah, .int .u64 al], .agg #[.int .u64 fh, .int .u64 fl]] w fun e w' => e = .returned (.tuple #[.agg #[.int .u64 0, .int .u64 1], .bool false]) ∧ Below w.heap.size w w'))
    (h4 : Hid (∀ w, Calls Try.prog 18 #[.agg #[.int .u64 x0, .int .u64 x1, .int .u64 x2, .int .u64 x3], .int .i64 c] w fun e w' => e = .returned (.bool true) ∧ Below w.heap.size w w'))
    (h5 : Hid (∀ w, Calls Try.prog 19 #[.agg #[.int .u64 x0, .int .u64 x1, .int .u64 x2, .int .u64 x3], .int .i64 k] w fun e w' => e = .returned (.agg #[.int .u64 t0, .int .u64 t1, .int .u64 t2, .int .u64 t3]) ∧ Below w.heap.size w w'))
    (h6 : Hid (∀ w, Calls Try.prog 20 #[.agg #[.int .u64 t0, .int .u64 t1, .int .u64 t2, .int .u64 t3], .agg #[.int .u64 0, .int .u64 0, .int .u64 0, .int .u64 9223372036854775808]] w fun e w' => e = .returned (.int .i64 j) ∧ Below w.heap.size w w'))
    (h8 : Hid (∀ w, Calls Try.prog 11 #[] w fun e w' => e = .returned (.bool true) ∧ Below w.heap.size w w')) (k0 : 0 ≤ k8) (k1 : k8 ≤ 255) (k2 : IntKind.i64.wrap k8 = k8) (k3 : k8 % 128 = k) (k4 : k8.tmod 128 = k) (m2 : m.tmod 5 = mm) (m3 : m % 5 = mm) (w1 : IntKind.i64.wrap (256 - k) = c) (w1x : wrap64 (256 - k) = c) (q4 : (mm == 4) = false) (q1 : decide (1 < mm) = false) (j1 : decide (0 ≤ j) = true) (w : World) :
    Calls Try.prog 4 #[.agg #[.int .u64 x0, .int .u64 x1, .int .u64 x2, .int .u64 x3], .int .u8 k8, .int .u8 m, .bool ng] w fun e w' => e = .returned (.bool true) ∧ Below w.heap.size w w' := by
  go_enter Try.func4, Try.ntmps4
  go_wp2_with fail
  (with_reducible refine (h0.out _).mono ?_); rintro e w1 ⟨rfl, hb⟩
  have hz := bC (bA (Below.refl _ _) _) hb
  have cX0_0 := cell_later hb (a := ⟨w.heap.size, 0, none⟩) (v := .int .u64 x0) (by go_simp)
  have cX0_1 := cell_later hb (a := ⟨w.heap.size, 1, none⟩) (v := .int .u64 x1) (by go_simp)
  have cX0_2 := cell_later hb (a := ⟨w.heap.size, 2, none⟩) (v := .int .u64 x2) (by go_simp)
  have cX0_3 := cell_later hb (a := ⟨w.heap.size, 3, none⟩) (v := .int .u64 x3) (by go_simp)
  have sX0 : w.heap.size < w1.heap.size := World.block_lt_of_cell? _ _ cX0_0
  have kk := hz
  clear hb hz
  go_wp2_with fail
  (with_reducible refine (h1.out _).mono ?_); rintro e w2 ⟨rfl, hb⟩
  have hz := bC (bA (Below.refl _ _) _) hb
  replace cX0_0 := cell_later hz cX0_0; replace cX0_1 := cell_later hz cX0_1; replace cX0_2 := cell_later hz cX0_2; replace cX0_3 := cell_later hz cX0_3
  replace sX0 : w.heap.size < w2.heap.size := World.block_lt_of_cell? _ _ cX0_0
  have cX1_0 := cell_later hb (a := ⟨w1.heap.size, 0, none⟩) (v := .int .u64 ah) (by go_simp)
  have cX1_1 := cell_later hb (a := ⟨w1.heap.size, 1, none⟩) (v := .int .u64 al) (by go_simp)
  have sX1 : w1.heap.size < w2.heap.size := World.block_lt_of_cell? _ _ cX1_0
  replace kk := bC kk hz
  clear hb hz
  go_wp2_with fail
  (with_reducible refine (h2.out _).mono ?_); rintro e w3 ⟨rfl, hb⟩
  replace cX0_0 := cell_later hb cX0_0; replace cX0_1 := cell_later hb cX0_1; replace cX0_2 := cell_later hb cX0_2; replace cX0_3 := cell_later hb cX0_3
  replace sX0 : w.heap.size < w3.heap.size := World.block_lt_of_cell? _ _ cX0_0
  replace cX1_0 := cell_later hb cX1_0; replace cX1_1 := cell_later hb cX1_1
  replace sX1 : w1.heap.size < w3.heap.size := World.block_lt_of_cell? _ _ cX1_0
  replace kk := bC kk hb
  clear hb
  go_wp2_with fail
  (with_reducible refine (h3.out _).mono ?_); rintro e w4 ⟨rfl, hb⟩
  have hz := bC (bA (Below.refl _ _) _) hb
  replace cX0_0 := cell_later hz cX0_0; replace cX0_1 := cell_later hz cX0_1; replace cX0_2 := cell_later hz cX0_2; replace cX0_3 := cell_later hz cX0_3
  replace sX0 : w.heap.size < w4.heap.size := World.block_lt_of_cell? _ _ cX0_0
  clear cX1_0 cX1_1 sX1
  replace kk := bC kk hz
  clear hb hz
  go_wp2_with fail
  (with_reducible refine (h4.out _).mono ?_); rintro e w5 ⟨rfl, hb⟩
  have hz := bC (bA (Below.refl _ _) _) hb
  replace cX0_0 := cell_later hz cX0_0; replace cX0_1 := cell_later hz cX0_1; replace cX0_2 := cell_later hz cX0_2; replace cX0_3 := cell_later hz cX0_3
  replace sX0 : w.heap.size < w5.heap.size := World.block_lt_of_cell? _ _ cX0_0
  have cX3_0 := cell_later hb (a := ⟨w4.heap.size, 0, none⟩) (v := .int .u64 0) (by go_simp)
  have cX3_1 := cell_later hb (a := ⟨w4.heap.size, 1, none⟩) (v := .int .u64 1) (by go_simp)
  have sX3 : w4.heap.size < w5.heap.size := World.block_lt_of_cell? _ _ cX3_0
  replace kk := bC kk hz
  clear hb hz
  go_wp2_with fail
  (with_reducible refine (h5.out _).mono ?_); rintro e w6 ⟨rfl, hb⟩
  clear cX0_0 cX0_1 cX0_2 cX0_3 sX0
  replace cX3_0 := cell_later hb cX3_0; replace cX3_1 := cell_later hb cX3_1
  replace sX3 : w4.heap.size < w6.heap.size := World.block_lt_of_cell? _ _ cX3_0
  replace kk := bC kk hb
  clear hb
  go_wp2_with fail
  (with_reducible refine (h6.out _).mono ?_); rintro e w7 ⟨rfl, hb⟩
  have hz := bC (bA (bA (Below.refl _ _) _) _) hb
  replace cX3_0 := cell_later hz cX3_0; replace cX3_1 := cell_later hz cX3_1
  replace sX3 : w4.heap.size < w7.heap.size := World.block_lt_of_cell? _ _ cX3_0
  have cX4_0 := cell_later hb (a := ⟨w6.heap.size, 0, none⟩) (v := .int .u64 t0) (by go_simp)
  have cX4_1 := cell_later hb (a := ⟨w6.heap.size, 1, none⟩) (v := .int .u64 t1) (by go_simp)
  have cX4_2 := cell_later hb (a := ⟨w6.heap.size, 2, none⟩) (v := .int .u64 t2) (by go_simp)
  have cX4_3 := cell_later hb (a := ⟨w6.heap.size, 3, none⟩) (v := .int .u64 t3) (by go_simp)
  have sX4 : w6.heap.size < w7.heap.size := World.block_lt_of_cell? _ _ cX4_0
  have cX5_0 := cell_later hb (a := ⟨w6.heap.size + 1, 0, none⟩) (v := .int .u64 0) (by go_simp)
  have cX5_1 := cell_later hb (a := ⟨w6.heap.size + 1, 1, none⟩) (v := .int .u64 0) (by go_simp)
  have cX5_2 := cell_later hb (a := ⟨w6.heap.size + 1, 2, none⟩) (v := .int .u64 0) (by go_simp)
  have cX5_3 := cell_later hb (a := ⟨w6.heap.size + 1, 3, none⟩) (v := .int .u64 9223372036854775808) (by go_simp)
  have sX5 : w6.heap.size + 1 < w7.heap.size := World.block_lt_of_cell? _ _ cX5_0
  replace kk := bC kk hz
  clear hb hz
  go_wp2_with fail
  (with_reducible refine (h8.out _).mono ?_); rintro e w8 ⟨rfl, hb⟩
  clear cX3_0 cX3_1 sX3
  clear cX4_0 cX4_1 cX4_2 cX4_3 sX4
  clear cX5_0 cX5_1 cX5_2 cX5_3 sX5
  replace kk := bC kk hb
  clear hb
  go_wp2_with fail
  go_ret
  exact ⟨rfl, kk⟩

end Go.Proofs.Ytmlobelcoggncaa
