/-
  The walk of the statement PackKnown.
-/
import Derived.Test.YtbcjboaihahemaaDoorPack16M
import Derived.Test.YtbcjboaihahemaaDoorGfA
import Derived.Test.YtbcjboaihahemaaDoorGaA
import Derived.Test.YtbcjboaihahemaaDoorGdA
import Derived.Test.YtbcjboaihahemaaDoorGoes16
set_option linter.unusedVariables false
set_option linter.unusedSimpArgs false
set_option maxRecDepth 100000
namespace Go.Proofs.YtbcjboaihahemaaDoor
open Go.RowKit
attribute [local go_sem ↓] Go.wp_at_zero Go.wp_at_succ

set_option maxHeartbeats 4000000 in
set_option maxRecDepth 100000 in
theorem known16_core 
    (h0 : Hid (∀ w, FTab w → Calls Tryd.prog 12 #[.int .u8 0, .agg #[.int .u8 0, .bool false], .bool false, .int .i64 (-15), .agg #[.int .u64 18446744073709551615, .int .u64 18446744073709551615, .int .u64 18446744073709551615, .int .u64 18446744073709551615]] w fun e w' => e = .returned (.agg #[.int .u64 0, .int .u64 1024, .int .u8 24]) ∧ Below w.heap.size w w'))
    (h1 : Hid (∀ w, FTab w → Calls Tryd.prog 12 #[.int .u8 0, .agg #[.int .u8 0, .bool true], .bool false, .int .i64 (-15), .agg #[.int .u64 18446744073709551615, .int .u64 18446744073709551615, .int .u64 18446744073709551615, .int .u64 18446744073709551615]] w fun e w' => e = .returned (.agg #[.int .u64 0, .int .u64 1024, .int .u8 16]) ∧ Below w.heap.size w w'))
    (h2 : Hid (∀ w, Calls Tryd.prog 23 #[.agg #[.int .u64 0, .int .u64 0, .int .u64 0, .int .u64 0]] w fun e w' => e = .returned (.agg #[.int .u64 0, .int .u64 0, .int .u64 0, .int .u64 9223372036854775808]) ∧ Below w.heap.size w w'))
    (h3 : Hid (∀ w, FTab w → Calls Tryd.prog 12 #[.int .u8 0, .agg #[.int .u8 0, .bool false], .bool true, .int .i64 (-26), .agg #[.int .u64 0, .int .u64 0, .int .u64 0, .int .u64 9223372036854775808]] w fun e w' => e = .returned (.agg #[.int .u64 0, .int .u64 32768, .int .u8 24]) ∧ Below w.heap.size w w'))
    (h5 : Hid (∀ w, FTab w → Calls Tryd.prog 12 #[.int .u8 0, .agg #[.int .u8 0, .bool false], .bool false, .int .i64 (-25), .agg #[.int .u64 0, .int .u64 0, .int .u64 0, .int .u64 9223372036854775808]] w fun e w' => e = .returned (.agg #[.int .u64 0, .int .u64 0, .int .u8 24]) ∧ Below w.heap.size w w'))
    (h6 : Hid (∀ w, Calls Tryd.prog 23 #[.agg #[.int .u64 1, .int .u64 0, .int .u64 0, .int .u64 0]] w fun e w' => e = .returned (.agg #[.int .u64 1, .int .u64 0, .int .u64 0, .int .u64 9223372036854775808]) ∧ Below w.heap.size w w'))
    (h7 : Hid (∀ w, FTab w → Calls Tryd.prog 12 #[.int .u8 0, .agg #[.int .u8 0, .bool false], .bool false, .int .i64 (-25), .agg #[.int .u64 1, .int .u64 0, .int .u64 0, .int .u64 9223372036854775808]] w fun e w' => e = .returned (.agg #[.int .u64 0, .int .u64 1, .int .u8 24]) ∧ Below w.heap.size w w'))
    (h8 : Hid (∀ w, FTab w → Calls Tryd.prog 12 #[.int .u8 3, .agg #[.int .u8 2, .bool false], .bool false, .int .i64 (-4611686018427387904), .agg #[.int .u64 1, .int .u64 0, .int .u64 0, .int .u64 0]] w fun e w' => e = .returned (.agg #[.int .u64 0, .int .u64 1, .int .u8 24]) ∧ Below w.heap.size w w'))
    (h9 : Hid (∀ w, FTab w → Calls Tryd.prog 12 #[.int .u8 2, .agg #[.int .u8 3, .bool false], .bool true, .int .i64 4611686018427387904, .agg #[.int .u64 1, .int .u64 0, .int .u64 0, .int .u64 0]] w fun e w' => e = .returned (.agg #[.int .u64 0, .int .u64 18442240474082181120, .int .u8 20]) ∧ Below w.heap.size w w'))
    (h10 : Hid (∀ w, FTab w → Calls Tryd.prog 12 #[.int .u8 4, .agg #[.int .u8 0, .bool false], .bool false, .int .i64 0, .agg #[.int .u64 18446744073709551615, .int .u64 18446744073709551615, .int .u64 18446744073709551615, .int .u64 18446744073709551615]] w fun e w' => e = .returned (.agg #[.int .u64 0, .int .u64 0, .int .u8 0]) ∧ Below w.heap.size w w'))
    (h11 : Hid (∀ w, FTab w → Calls Tryd.prog 12 #[.int .u8 0, .agg #[.int .u8 5, .bool false], .bool false, .int .i64 0, .agg #[.int .u64 18446744073709551615, .int .u64 18446744073709551615, .int .u64 18446744073709551615, .int .u64 18446744073709551615]] w fun e w' => e = .returned (.agg #[.int .u64 0, .int .u64 0, .int .u8 0]) ∧ Below w.heap.size w w'))
    (h12 : Hid (∀ w, FTab w → Calls Tryd.prog 12 #[.int .u8 1, .agg #[.int .u8 0, .bool false], .bool true, .int .i64 0, .agg #[.int .u64 0, .int .u64 0, .int .u64 0, .int .u64 0]] w fun e w' => e = .returned (.agg #[.int .u64 0, .int .u64 2147483648, .int .u8 0]) ∧ Below w.heap.size w w'))
    (h13 : Hid (∀ w, FTab w → Calls Tryd.prog 24 #[.int .u8 0, .bool true, .int .i64 255, .agg #[.int .u64 3, .int .u64 0, .int .u64 0, .int .u64 0]] w fun e w' => e = .returned (.tuple #[.agg #[.int .u64 0, .int .u64 49664], .bool true]) ∧ Below w.heap.size w w'))
    (h15 : Hid (∀ w, FTab w → Calls Tryd.prog 24 #[.int .u8 0, .bool false, .int .i64 0, .agg #[.int .u64 1, .int .u64 0, .int .u64 0, .int .u64 9223372036854775808]] w fun e w' => e = .returned (.tuple #[.agg #[.int .u64 0, .int .u64 0], .bool false]) ∧ Below w.heap.size w w'))
    (h16 : Hid (∀ w, FTab w → Calls Tryd.prog 11 #[] w fun e w' => e = .returned (.bool true) ∧ Below w.heap.size w w')) (w : World) (ft : FTab w) :
    Calls Tryd.prog 8 #[] w fun e w' => e = .returned (.bool true) ∧ Below w.heap.size w w' := by
  go_enter Tryd.func8, Tryd.ntmps8
  go_wp2_with fail
  (with_reducible refine (h0.out _ (ft.later (bA (Below.refl _ _) _))).mono ?_); rintro e w1 ⟨rfl, hb⟩
  have hz := bC (bA (Below.refl _ _) _) hb
  have cX0_0 := cell_later hb (a := ⟨w.heap.size, 0, none⟩) (v := .int .u64 18446744073709551615) (by go_simp)
  have cX0_1 := cell_later hb (a := ⟨w.heap.size, 1, none⟩) (v := .int .u64 18446744073709551615) (by go_simp)
  have cX0_2 := cell_later hb (a := ⟨w.heap.size, 2, none⟩) (v := .int .u64 18446744073709551615) (by go_simp)
  have cX0_3 := cell_later hb (a := ⟨w.heap.size, 3, none⟩) (v := .int .u64 18446744073709551615) (by go_simp)
  have sX0 : w.heap.size < w1.heap.size := World.block_lt_of_cell? _ _ cX0_0
  have kk := hz
  clear hb hz
  go_wp2_with fail
  (with_reducible refine (h1.out _ (ft.later (bC kk (bA (Below.refl _ _) _)))).mono ?_); rintro e w2 ⟨rfl, hb⟩
  have hz := bC (bA (Below.refl _ _) _) hb
  replace cX0_0 := cell_later hz cX0_0; replace cX0_1 := cell_later hz cX0_1; replace cX0_2 := cell_later hz cX0_2; replace cX0_3 := cell_later hz cX0_3
  replace sX0 : w.heap.size < w2.heap.size := World.block_lt_of_cell? _ _ cX0_0
  have cX1_0 := cell_later hb (a := ⟨w1.heap.size, 0, none⟩) (v := .int .u64 0) (by go_simp)
  have cX1_1 := cell_later hb (a := ⟨w1.heap.size, 1, none⟩) (v := .int .u64 1024) (by go_simp)
  have cX1_2 := cell_later hb (a := ⟨w1.heap.size, 2, none⟩) (v := .int .u8 24) (by go_simp)
  have sX1 : w1.heap.size < w2.heap.size := World.block_lt_of_cell? _ _ cX1_0
  replace kk := bC kk hz
  clear hb hz
  go_wp2_with fail
  (with_reducible refine (h2.out _).mono ?_); rintro e w3 ⟨rfl, hb⟩
  have hz := bC (bA (Below.refl _ _) _) hb
  replace cX0_0 := cell_later hz cX0_0; replace cX0_1 := cell_later hz cX0_1; replace cX0_2 := cell_later hz cX0_2; replace cX0_3 := cell_later hz cX0_3
  replace sX0 : w.heap.size < w3.heap.size := World.block_lt_of_cell? _ _ cX0_0
  replace cX1_0 := cell_later hz cX1_0; replace cX1_1 := cell_later hz cX1_1; replace cX1_2 := cell_later hz cX1_2
  replace sX1 : w1.heap.size < w3.heap.size := World.block_lt_of_cell? _ _ cX1_0
  have cX2_0 := cell_later hb (a := ⟨w2.heap.size, 0, none⟩) (v := .int .u64 0) (by go_simp)
  have cX2_1 := cell_later hb (a := ⟨w2.heap.size, 1, none⟩) (v := .int .u64 1024) (by go_simp)
  have cX2_2 := cell_later hb (a := ⟨w2.heap.size, 2, none⟩) (v := .int .u8 16) (by go_simp)
  have sX2 : w2.heap.size < w3.heap.size := World.block_lt_of_cell? _ _ cX2_0
  replace kk := bC kk hz
  clear hb hz
  go_wp2_with fail
  (with_reducible refine (h3.out _ (ft.later kk)).mono ?_); rintro e w4 ⟨rfl, hb⟩
  replace cX0_0 := cell_later hb cX0_0; replace cX0_1 := cell_later hb cX0_1; replace cX0_2 := cell_later hb cX0_2; replace cX0_3 := cell_later hb cX0_3
  replace sX0 : w.heap.size < w4.heap.size := World.block_lt_of_cell? _ _ cX0_0
  replace cX1_0 := cell_later hb cX1_0; replace cX1_1 := cell_later hb cX1_1; replace cX1_2 := cell_later hb cX1_2
  replace sX1 : w1.heap.size < w4.heap.size := World.block_lt_of_cell? _ _ cX1_0
  replace cX2_0 := cell_later hb cX2_0; replace cX2_1 := cell_later hb cX2_1; replace cX2_2 := cell_later hb cX2_2
  replace sX2 : w2.heap.size < w4.heap.size := World.block_lt_of_cell? _ _ cX2_0
  replace kk := bC kk hb
  clear hb
  go_wp2_with fail
  (with_reducible refine (h2.out _).mono ?_); rintro e w5 ⟨rfl, hb⟩
  have hz := bC (bA (Below.refl _ _) _) hb
  replace cX0_0 := cell_later hz cX0_0; replace cX0_1 := cell_later hz cX0_1; replace cX0_2 := cell_later hz cX0_2; replace cX0_3 := cell_later hz cX0_3
  replace sX0 : w.heap.size < w5.heap.size := World.block_lt_of_cell? _ _ cX0_0
  replace cX1_0 := cell_later hz cX1_0; replace cX1_1 := cell_later hz cX1_1; replace cX1_2 := cell_later hz cX1_2
  replace sX1 : w1.heap.size < w5.heap.size := World.block_lt_of_cell? _ _ cX1_0
  replace cX2_0 := cell_later hz cX2_0; replace cX2_1 := cell_later hz cX2_1; replace cX2_2 := cell_later hz cX2_2
  replace sX2 : w2.heap.size < w5.heap.size := World.block_lt_of_cell? _ _ cX2_0
  have cX3_0 := cell_later hb (a := ⟨w4.heap.size, 0, none⟩) (v := .int .u64 0) (by go_simp)
  have cX3_1 := cell_later hb (a := ⟨w4.heap.size, 1, none⟩) (v := .int .u64 32768) (by go_simp)
  have cX3_2 := cell_later hb (a := ⟨w4.heap.size, 2, none⟩) (v := .int .u8 24) (by go_simp)
  have sX3 : w4.heap.size < w5.heap.size := World.block_lt_of_cell? _ _ cX3_0
  replace kk := bC kk hz
  clear hb hz
  go_wp2_with fail
  (with_reducible refine (h5.out _ (ft.later kk)).mono ?_); rintro e w6 ⟨rfl, hb⟩
  replace cX0_0 := cell_later hb cX0_0; replace cX0_1 := cell_later hb cX0_1; replace cX0_2 := cell_later hb cX0_2; replace cX0_3 := cell_later hb cX0_3
  replace sX0 : w.heap.size < w6.heap.size := World.block_lt_of_cell? _ _ cX0_0
  replace cX1_0 := cell_later hb cX1_0; replace cX1_1 := cell_later hb cX1_1; replace cX1_2 := cell_later hb cX1_2
  replace sX1 : w1.heap.size < w6.heap.size := World.block_lt_of_cell? _ _ cX1_0
  replace cX2_0 := cell_later hb cX2_0; replace cX2_1 := cell_later hb cX2_1; replace cX2_2 := cell_later hb cX2_2
  replace sX2 : w2.heap.size < w6.heap.size := World.block_lt_of_cell? _ _ cX2_0
  replace cX3_0 := cell_later hb cX3_0; replace cX3_1 := cell_later hb cX3_1; replace cX3_2 := cell_later hb cX3_2
  replace sX3 : w4.heap.size < w6.heap.size := World.block_lt_of_cell? _ _ cX3_0
  replace kk := bC kk hb
  clear hb
  go_wp2_with fail
  (with_reducible refine (h6.out _).mono ?_); rintro e w7 ⟨rfl, hb⟩
  have hz := bC (bA (Below.refl _ _) _) hb
  replace cX0_0 := cell_later hz cX0_0; replace cX0_1 := cell_later hz cX0_1; replace cX0_2 := cell_later hz cX0_2; replace cX0_3 := cell_later hz cX0_3
  replace sX0 : w.heap.size < w7.heap.size := World.block_lt_of_cell? _ _ cX0_0
  replace cX1_0 := cell_later hz cX1_0; replace cX1_1 := cell_later hz cX1_1; replace cX1_2 := cell_later hz cX1_2
  replace sX1 : w1.heap.size < w7.heap.size := World.block_lt_of_cell? _ _ cX1_0
  replace cX2_0 := cell_later hz cX2_0; replace cX2_1 := cell_later hz cX2_1; replace cX2_2 := cell_later hz cX2_2
  replace sX2 : w2.heap.size < w7.heap.size := World.block_lt_of_cell? _ _ cX2_0
  replace cX3_0 := cell_later hz cX3_0; replace cX3_1 := cell_later hz cX3_1; replace cX3_2 := cell_later hz cX3_2
  replace sX3 : w4.heap.size < w7.heap.size := World.block_lt_of_cell? _ _ cX3_0
  have cX4_0 := cell_later hb (a := ⟨w6.heap.size, 0, none⟩) (v := .int .u64 0) (by go_simp)
  have cX4_1 := cell_later hb (a := ⟨w6.heap.size, 1, none⟩) (v := .int .u64 0) (by go_simp)
  have cX4_2 := cell_later hb (a := ⟨w6.heap.size, 2, none⟩) (v := .int .u8 24) (by go_simp)
  have sX4 : w6.heap.size < w7.heap.size := World.block_lt_of_cell? _ _ cX4_0
  replace kk := bC kk hz
  clear hb hz
  go_wp2_with fail
  (with_reducible refine (h7.out _ (ft.later kk)).mono ?_); rintro e w8 ⟨rfl, hb⟩
  replace cX0_0 := cell_later hb cX0_0; replace cX0_1 := cell_later hb cX0_1; replace cX0_2 := cell_later hb cX0_2; replace cX0_3 := cell_later hb cX0_3
  replace sX0 : w.heap.size < w8.heap.size := World.block_lt_of_cell? _ _ cX0_0
  replace cX1_0 := cell_later hb cX1_0; replace cX1_1 := cell_later hb cX1_1; replace cX1_2 := cell_later hb cX1_2
  replace sX1 : w1.heap.size < w8.heap.size := World.block_lt_of_cell? _ _ cX1_0
  replace cX2_0 := cell_later hb cX2_0; replace cX2_1 := cell_later hb cX2_1; replace cX2_2 := cell_later hb cX2_2
  replace sX2 : w2.heap.size < w8.heap.size := World.block_lt_of_cell? _ _ cX2_0
  replace cX3_0 := cell_later hb cX3_0; replace cX3_1 := cell_later hb cX3_1; replace cX3_2 := cell_later hb cX3_2
  replace sX3 : w4.heap.size < w8.heap.size := World.block_lt_of_cell? _ _ cX3_0
  replace cX4_0 := cell_later hb cX4_0; replace cX4_1 := cell_later hb cX4_1; replace cX4_2 := cell_later hb cX4_2
  replace sX4 : w6.heap.size < w8.heap.size := World.block_lt_of_cell? _ _ cX4_0
  replace kk := bC kk hb
  clear hb
  go_wp2_with fail
  (with_reducible refine (h8.out _ (ft.later (bC kk (bA (Below.refl _ _) _)))).mono ?_); rintro e w9 ⟨rfl, hb⟩
  have hz := bC (bA (Below.refl _ _) _) hb
  replace cX0_0 := cell_later hz cX0_0; replace cX0_1 := cell_later hz cX0_1; replace cX0_2 := cell_later hz cX0_2; replace cX0_3 := cell_later hz cX0_3
  replace sX0 : w.heap.size < w9.heap.size := World.block_lt_of_cell? _ _ cX0_0
  replace cX1_0 := cell_later hz cX1_0; replace cX1_1 := cell_later hz cX1_1; replace cX1_2 := cell_later hz cX1_2
  replace sX1 : w1.heap.size < w9.heap.size := World.block_lt_of_cell? _ _ cX1_0
  replace cX2_0 := cell_later hz cX2_0; replace cX2_1 := cell_later hz cX2_1; replace cX2_2 := cell_later hz cX2_2
  replace sX2 : w2.heap.size < w9.heap.size := World.block_lt_of_cell? _ _ cX2_0
  replace cX3_0 := cell_later hz cX3_0; replace cX3_1 := cell_later hz cX3_1; replace cX3_2 := cell_later hz cX3_2
  replace sX3 : w4.heap.size < w9.heap.size := World.block_lt_of_cell? _ _ cX3_0
  replace cX4_0 := cell_later hz cX4_0; replace cX4_1 := cell_later hz cX4_1; replace cX4_2 := cell_later hz cX4_2
  replace sX4 : w6.heap.size < w9.heap.size := World.block_lt_of_cell? _ _ cX4_0
  have cX5_0 := cell_later hb (a := ⟨w8.heap.size, 0, none⟩) (v := .int .u64 0) (by go_simp)
  have cX5_1 := cell_later hb (a := ⟨w8.heap.size, 1, none⟩) (v := .int .u64 1) (by go_simp)
  have cX5_2 := cell_later hb (a := ⟨w8.heap.size, 2, none⟩) (v := .int .u8 24) (by go_simp)
  have sX5 : w8.heap.size < w9.heap.size := World.block_lt_of_cell? _ _ cX5_0
  replace kk := bC kk hz
  clear hb hz
  go_wp2_with fail
  (with_reducible refine (h9.out _ (ft.later (bC kk (bA (Below.refl _ _) _)))).mono ?_); rintro e w10 ⟨rfl, hb⟩
  have hz := bC (bA (Below.refl _ _) _) hb
  replace cX0_0 := cell_later hz cX0_0; replace cX0_1 := cell_later hz cX0_1; replace cX0_2 := cell_later hz cX0_2; replace cX0_3 := cell_later hz cX0_3
  replace sX0 : w.heap.size < w10.heap.size := World.block_lt_of_cell? _ _ cX0_0
  replace cX1_0 := cell_later hz cX1_0; replace cX1_1 := cell_later hz cX1_1; replace cX1_2 := cell_later hz cX1_2
  replace sX1 : w1.heap.size < w10.heap.size := World.block_lt_of_cell? _ _ cX1_0
  replace cX2_0 := cell_later hz cX2_0; replace cX2_1 := cell_later hz cX2_1; replace cX2_2 := cell_later hz cX2_2
  replace sX2 : w2.heap.size < w10.heap.size := World.block_lt_of_cell? _ _ cX2_0
  replace cX3_0 := cell_later hz cX3_0; replace cX3_1 := cell_later hz cX3_1; replace cX3_2 := cell_later hz cX3_2
  replace sX3 : w4.heap.size < w10.heap.size := World.block_lt_of_cell? _ _ cX3_0
  replace cX4_0 := cell_later hz cX4_0; replace cX4_1 := cell_later hz cX4_1; replace cX4_2 := cell_later hz cX4_2
  replace sX4 : w6.heap.size < w10.heap.size := World.block_lt_of_cell? _ _ cX4_0
  replace cX5_0 := cell_later hz cX5_0; replace cX5_1 := cell_later hz cX5_1; replace cX5_2 := cell_later hz cX5_2
  replace sX5 : w8.heap.size < w10.heap.size := World.block_lt_of_cell? _ _ cX5_0
  have cX6_0 := cell_later hb (a := ⟨w9.heap.size, 0, none⟩) (v := .int .u64 0) (by go_simp)
  have cX6_1 := cell_later hb (a := ⟨w9.heap.size, 1, none⟩) (v := .int .u64 1) (by go_simp)
  have cX6_2 := cell_later hb (a := ⟨w9.heap.size, 2, none⟩) (v := .int .u8 24) (by go_simp)
  have sX6 : w9.heap.size < w10.heap.size := World.block_lt_of_cell? _ _ cX6_0
  replace kk := bC kk hz
  clear hb hz
  go_wp2_with fail
  (with_reducible refine (h10.out _ (ft.later (bC kk (bA (Below.refl _ _) _)))).mono ?_); rintro e w11 ⟨rfl, hb⟩
  have hz := bC (bA (Below.refl _ _) _) hb
  replace cX0_0 := cell_later hz cX0_0; replace cX0_1 := cell_later hz cX0_1; replace cX0_2 := cell_later hz cX0_2; replace cX0_3 := cell_later hz cX0_3
  replace sX0 : w.heap.size < w11.heap.size := World.block_lt_of_cell? _ _ cX0_0
  replace cX1_0 := cell_later hz cX1_0; replace cX1_1 := cell_later hz cX1_1; replace cX1_2 := cell_later hz cX1_2
  replace sX1 : w1.heap.size < w11.heap.size := World.block_lt_of_cell? _ _ cX1_0
  replace cX2_0 := cell_later hz cX2_0; replace cX2_1 := cell_later hz cX2_1; replace cX2_2 := cell_later hz cX2_2
  replace sX2 : w2.heap.size < w11.heap.size := World.block_lt_of_cell? _ _ cX2_0
  replace cX3_0 := cell_later hz cX3_0; replace cX3_1 := cell_later hz cX3_1; replace cX3_2 := cell_later hz cX3_2
  replace sX3 : w4.heap.size < w11.heap.size := World.block_lt_of_cell? _ _ cX3_0
  replace cX4_0 := cell_later hz cX4_0; replace cX4_1 := cell_later hz cX4_1; replace cX4_2 := cell_later hz cX4_2
  replace sX4 : w6.heap.size < w11.heap.size := World.block_lt_of_cell? _ _ cX4_0
  replace cX5_0 := cell_later hz cX5_0; replace cX5_1 := cell_later hz cX5_1; replace cX5_2 := cell_later hz cX5_2
  replace sX5 : w8.heap.size < w11.heap.size := World.block_lt_of_cell? _ _ cX5_0
  replace cX6_0 := cell_later hz cX6_0; replace cX6_1 := cell_later hz cX6_1; replace cX6_2 := cell_later hz cX6_2
  replace sX6 : w9.heap.size < w11.heap.size := World.block_lt_of_cell? _ _ cX6_0
  have cX7_0 := cell_later hb (a := ⟨w10.heap.size, 0, none⟩) (v := .int .u64 0) (by go_simp)
  have cX7_1 := cell_later hb (a := ⟨w10.heap.size, 1, none⟩) (v := .int .u64 18442240474082181120) (by go_simp)
  have cX7_2 := cell_later hb (a := ⟨w10.heap.size, 2, none⟩) (v := .int .u8 20) (by go_simp)
  have sX7 : w10.heap.size < w11.heap.size := World.block_lt_of_cell? _ _ cX7_0
  replace kk := bC kk hz
  clear hb hz
  go_wp2_with fail
  (with_reducible refine (h11.out _ (ft.later (bC kk (bA (Below.refl _ _) _)))).mono ?_); rintro e w12 ⟨rfl, hb⟩
  have hz := bC (bA (Below.refl _ _) _) hb
  clear cX0_0 cX0_1 cX0_2 cX0_3 sX0
  replace cX1_0 := cell_later hz cX1_0; replace cX1_1 := cell_later hz cX1_1; replace cX1_2 := cell_later hz cX1_2
  replace sX1 : w1.heap.size < w12.heap.size := World.block_lt_of_cell? _ _ cX1_0
  replace cX2_0 := cell_later hz cX2_0; replace cX2_1 := cell_later hz cX2_1; replace cX2_2 := cell_later hz cX2_2
  replace sX2 : w2.heap.size < w12.heap.size := World.block_lt_of_cell? _ _ cX2_0
  replace cX3_0 := cell_later hz cX3_0; replace cX3_1 := cell_later hz cX3_1; replace cX3_2 := cell_later hz cX3_2
  replace sX3 : w4.heap.size < w12.heap.size := World.block_lt_of_cell? _ _ cX3_0
  replace cX4_0 := cell_later hz cX4_0; replace cX4_1 := cell_later hz cX4_1; replace cX4_2 := cell_later hz cX4_2
  replace sX4 : w6.heap.size < w12.heap.size := World.block_lt_of_cell? _ _ cX4_0
  replace cX5_0 := cell_later hz cX5_0; replace cX5_1 := cell_later hz cX5_1; replace cX5_2 := cell_later hz cX5_2
  replace sX5 : w8.heap.size < w12.heap.size := World.block_lt_of_cell? _ _ cX5_0
  replace cX6_0 := cell_later hz cX6_0; replace cX6_1 := cell_later hz cX6_1; replace cX6_2 := cell_later hz cX6_2
  replace sX6 : w9.heap.size < w12.heap.size := World.block_lt_of_cell? _ _ cX6_0
  replace cX7_0 := cell_later hz cX7_0; replace cX7_1 := cell_later hz cX7_1; replace cX7_2 := cell_later hz cX7_2
  replace sX7 : w10.heap.size < w12.heap.size := World.block_lt_of_cell? _ _ cX7_0
  have cX8_0 := cell_later hb (a := ⟨w11.heap.size, 0, none⟩) (v := .int .u64 0) (by go_simp)
  have cX8_1 := cell_later hb (a := ⟨w11.heap.size, 1, none⟩) (v := .int .u64 0) (by go_simp)
  have cX8_2 := cell_later hb (a := ⟨w11.heap.size, 2, none⟩) (v := .int .u8 0) (by go_simp)
  have sX8 : w11.heap.size < w12.heap.size := World.block_lt_of_cell? _ _ cX8_0
  replace kk := bC kk hz
  clear hb hz
  go_wp2_with fail
  (with_reducible refine (h12.out _ (ft.later (bC kk (bA (Below.refl _ _) _)))).mono ?_); rintro e w13 ⟨rfl, hb⟩
  have hz := bC (bA (Below.refl _ _) _) hb
  replace cX1_0 := cell_later hz cX1_0; replace cX1_1 := cell_later hz cX1_1; replace cX1_2 := cell_later hz cX1_2
  replace sX1 : w1.heap.size < w13.heap.size := World.block_lt_of_cell? _ _ cX1_0
  replace cX2_0 := cell_later hz cX2_0; replace cX2_1 := cell_later hz cX2_1; replace cX2_2 := cell_later hz cX2_2
  replace sX2 : w2.heap.size < w13.heap.size := World.block_lt_of_cell? _ _ cX2_0
  replace cX3_0 := cell_later hz cX3_0; replace cX3_1 := cell_later hz cX3_1; replace cX3_2 := cell_later hz cX3_2
  replace sX3 : w4.heap.size < w13.heap.size := World.block_lt_of_cell? _ _ cX3_0
  replace cX4_0 := cell_later hz cX4_0; replace cX4_1 := cell_later hz cX4_1; replace cX4_2 := cell_later hz cX4_2
  replace sX4 : w6.heap.size < w13.heap.size := World.block_lt_of_cell? _ _ cX4_0
  replace cX5_0 := cell_later hz cX5_0; replace cX5_1 := cell_later hz cX5_1; replace cX5_2 := cell_later hz cX5_2
  replace sX5 : w8.heap.size < w13.heap.size := World.block_lt_of_cell? _ _ cX5_0
  replace cX6_0 := cell_later hz cX6_0; replace cX6_1 := cell_later hz cX6_1; replace cX6_2 := cell_later hz cX6_2
  replace sX6 : w9.heap.size < w13.heap.size := World.block_lt_of_cell? _ _ cX6_0
  replace cX7_0 := cell_later hz cX7_0; replace cX7_1 := cell_later hz cX7_1; replace cX7_2 := cell_later hz cX7_2
  replace sX7 : w10.heap.size < w13.heap.size := World.block_lt_of_cell? _ _ cX7_0
  replace cX8_0 := cell_later hz cX8_0; replace cX8_1 := cell_later hz cX8_1; replace cX8_2 := cell_later hz cX8_2
  replace sX8 : w11.heap.size < w13.heap.size := World.block_lt_of_cell? _ _ cX8_0
  have cX9_0 := cell_later hb (a := ⟨w12.heap.size, 0, none⟩) (v := .int .u64 0) (by go_simp)
  have cX9_1 := cell_later hb (a := ⟨w12.heap.size, 1, none⟩) (v := .int .u64 0) (by go_simp)
  have cX9_2 := cell_later hb (a := ⟨w12.heap.size, 2, none⟩) (v := .int .u8 0) (by go_simp)
  have sX9 : w12.heap.size < w13.heap.size := World.block_lt_of_cell? _ _ cX9_0
  replace kk := bC kk hz
  clear hb hz
  go_wp2_with fail
  (with_reducible refine (h13.out _ (ft.later (bC kk (bA (Below.refl _ _) _)))).mono ?_); rintro e w14 ⟨rfl, hb⟩
  have hz := bC (bA (Below.refl _ _) _) hb
  replace cX1_0 := cell_later hz cX1_0; replace cX1_1 := cell_later hz cX1_1; replace cX1_2 := cell_later hz cX1_2
  replace sX1 : w1.heap.size < w14.heap.size := World.block_lt_of_cell? _ _ cX1_0
  replace cX2_0 := cell_later hz cX2_0; replace cX2_1 := cell_later hz cX2_1; replace cX2_2 := cell_later hz cX2_2
  replace sX2 : w2.heap.size < w14.heap.size := World.block_lt_of_cell? _ _ cX2_0
  replace cX3_0 := cell_later hz cX3_0; replace cX3_1 := cell_later hz cX3_1; replace cX3_2 := cell_later hz cX3_2
  replace sX3 : w4.heap.size < w14.heap.size := World.block_lt_of_cell? _ _ cX3_0
  replace cX4_0 := cell_later hz cX4_0; replace cX4_1 := cell_later hz cX4_1; replace cX4_2 := cell_later hz cX4_2
  replace sX4 : w6.heap.size < w14.heap.size := World.block_lt_of_cell? _ _ cX4_0
  replace cX5_0 := cell_later hz cX5_0; replace cX5_1 := cell_later hz cX5_1; replace cX5_2 := cell_later hz cX5_2
  replace sX5 : w8.heap.size < w14.heap.size := World.block_lt_of_cell? _ _ cX5_0
  replace cX6_0 := cell_later hz cX6_0; replace cX6_1 := cell_later hz cX6_1; replace cX6_2 := cell_later hz cX6_2
  replace sX6 : w9.heap.size < w14.heap.size := World.block_lt_of_cell? _ _ cX6_0
  replace cX7_0 := cell_later hz cX7_0; replace cX7_1 := cell_later hz cX7_1; replace cX7_2 := cell_later hz cX7_2
  replace sX7 : w10.heap.size < w14.heap.size := World.block_lt_of_cell? _ _ cX7_0
  replace cX8_0 := cell_later hz cX8_0; replace cX8_1 := cell_later hz cX8_1; replace cX8_2 := cell_later hz cX8_2
  replace sX8 : w11.heap.size < w14.heap.size := World.block_lt_of_cell? _ _ cX8_0
  replace cX9_0 := cell_later hz cX9_0; replace cX9_1 := cell_later hz cX9_1; replace cX9_2 := cell_later hz cX9_2
  replace sX9 : w12.heap.size < w14.heap.size := World.block_lt_of_cell? _ _ cX9_0
  have cX10_0 := cell_later hb (a := ⟨w13.heap.size, 0, none⟩) (v := .int .u64 0) (by go_simp)
  have cX10_1 := cell_later hb (a := ⟨w13.heap.size, 1, none⟩) (v := .int .u64 2147483648) (by go_simp)
  have cX10_2 := cell_later hb (a := ⟨w13.heap.size, 2, none⟩) (v := .int .u8 0) (by go_simp)
  have sX10 : w13.heap.size < w14.heap.size := World.block_lt_of_cell? _ _ cX10_0
  replace kk := bC kk hz
  clear hb hz
  go_wp2_with fail
  (with_reducible refine (h6.out _).mono ?_); rintro e w15 ⟨rfl, hb⟩
  have hz := bC (bA (Below.refl _ _) _) hb
  replace cX1_0 := cell_later hz cX1_0; replace cX1_1 := cell_later hz cX1_1; replace cX1_2 := cell_later hz cX1_2
  replace sX1 : w1.heap.size < w15.heap.size := World.block_lt_of_cell? _ _ cX1_0
  replace cX2_0 := cell_later hz cX2_0; replace cX2_1 := cell_later hz cX2_1; replace cX2_2 := cell_later hz cX2_2
  replace sX2 : w2.heap.size < w15.heap.size := World.block_lt_of_cell? _ _ cX2_0
  replace cX3_0 := cell_later hz cX3_0; replace cX3_1 := cell_later hz cX3_1; replace cX3_2 := cell_later hz cX3_2
  replace sX3 : w4.heap.size < w15.heap.size := World.block_lt_of_cell? _ _ cX3_0
  replace cX4_0 := cell_later hz cX4_0; replace cX4_1 := cell_later hz cX4_1; replace cX4_2 := cell_later hz cX4_2
  replace sX4 : w6.heap.size < w15.heap.size := World.block_lt_of_cell? _ _ cX4_0
  replace cX5_0 := cell_later hz cX5_0; replace cX5_1 := cell_later hz cX5_1; replace cX5_2 := cell_later hz cX5_2
  replace sX5 : w8.heap.size < w15.heap.size := World.block_lt_of_cell? _ _ cX5_0
  replace cX6_0 := cell_later hz cX6_0; replace cX6_1 := cell_later hz cX6_1; replace cX6_2 := cell_later hz cX6_2
  replace sX6 : w9.heap.size < w15.heap.size := World.block_lt_of_cell? _ _ cX6_0
  replace cX7_0 := cell_later hz cX7_0; replace cX7_1 := cell_later hz cX7_1; replace cX7_2 := cell_later hz cX7_2
  replace sX7 : w10.heap.size < w15.heap.size := World.block_lt_of_cell? _ _ cX7_0
  replace cX8_0 := cell_later hz cX8_0; replace cX8_1 := cell_later hz cX8_1; replace cX8_2 := cell_later hz cX8_2
  replace sX8 : w11.heap.size < w15.heap.size := World.block_lt_of_cell? _ _ cX8_0
  replace cX9_0 := cell_later hz cX9_0; replace cX9_1 := cell_later hz cX9_1; replace cX9_2 := cell_later hz cX9_2
  replace sX9 : w12.heap.size < w15.heap.size := World.block_lt_of_cell? _ _ cX9_0
  replace cX10_0 := cell_later hz cX10_0; replace cX10_1 := cell_later hz cX10_1; replace cX10_2 := cell_later hz cX10_2
  replace sX10 : w13.heap.size < w15.heap.size := World.block_lt_of_cell? _ _ cX10_0
  have cX11_0 := cell_later hb (a := ⟨w14.heap.size, 0, none⟩) (v := .int .u64 0) (by go_simp)
  have cX11_1 := cell_later hb (a := ⟨w14.heap.size, 1, none⟩) (v := .int .u64 49664) (by go_simp)
  have sX11 : w14.heap.size < w15.heap.size := World.block_lt_of_cell? _ _ cX11_0
  replace kk := bC kk hz
  clear hb hz
  go_wp2_with fail
  (with_reducible refine (h15.out _ (ft.later kk)).mono ?_); rintro e w16 ⟨rfl, hb⟩
  replace cX1_0 := cell_later hb cX1_0; replace cX1_1 := cell_later hb cX1_1; replace cX1_2 := cell_later hb cX1_2
  replace sX1 : w1.heap.size < w16.heap.size := World.block_lt_of_cell? _ _ cX1_0
  replace cX2_0 := cell_later hb cX2_0; replace cX2_1 := cell_later hb cX2_1; replace cX2_2 := cell_later hb cX2_2
  replace sX2 : w2.heap.size < w16.heap.size := World.block_lt_of_cell? _ _ cX2_0
  replace cX3_0 := cell_later hb cX3_0; replace cX3_1 := cell_later hb cX3_1; replace cX3_2 := cell_later hb cX3_2
  replace sX3 : w4.heap.size < w16.heap.size := World.block_lt_of_cell? _ _ cX3_0
  replace cX4_0 := cell_later hb cX4_0; replace cX4_1 := cell_later hb cX4_1; replace cX4_2 := cell_later hb cX4_2
  replace sX4 : w6.heap.size < w16.heap.size := World.block_lt_of_cell? _ _ cX4_0
  replace cX5_0 := cell_later hb cX5_0; replace cX5_1 := cell_later hb cX5_1; replace cX5_2 := cell_later hb cX5_2
  replace sX5 : w8.heap.size < w16.heap.size := World.block_lt_of_cell? _ _ cX5_0
  replace cX6_0 := cell_later hb cX6_0; replace cX6_1 := cell_later hb cX6_1; replace cX6_2 := cell_later hb cX6_2
  replace sX6 : w9.heap.size < w16.heap.size := World.block_lt_of_cell? _ _ cX6_0
  replace cX7_0 := cell_later hb cX7_0; replace cX7_1 := cell_later hb cX7_1; replace cX7_2 := cell_later hb cX7_2
  replace sX7 : w10.heap.size < w16.heap.size := World.block_lt_of_cell? _ _ cX7_0
  replace cX8_0 := cell_later hb cX8_0; replace cX8_1 := cell_later hb cX8_1; replace cX8_2 := cell_later hb cX8_2
  replace sX8 : w11.heap.size < w16.heap.size := World.block_lt_of_cell? _ _ cX8_0
  replace cX9_0 := cell_later hb cX9_0; replace cX9_1 := cell_later hb cX9_1; replace cX9_2 := cell_later hb cX9_2
  replace sX9 : w12.heap.size < w16.heap.size := World.block_lt_of_cell? _ _ cX9_0
  replace cX10_0 := cell_later hb cX10_0; replace cX10_1 := cell_later hb cX10_1; replace cX10_2 := cell_later hb cX10_2
  replace sX10 : w13.heap.size < w16.heap.size := World.block_lt_of_cell? _ _ cX10_0
  replace cX11_0 := cell_later hb cX11_0; replace cX11_1 := cell_later hb cX11_1
  replace sX11 : w14.heap.size < w16.heap.size := World.block_lt_of_cell? _ _ cX11_0
  replace kk := bC kk hb
  clear hb
  go_wp2_with fail
  (with_reducible refine (h16.out _ (ft.later (bC kk (bA (Below.refl _ _) _)))).mono ?_); rintro e w17 ⟨rfl, hb⟩
  have hz := bC (bA (Below.refl _ _) _) hb
  clear cX1_0 cX1_1 cX1_2 sX1
  clear cX2_0 cX2_1 cX2_2 sX2
  clear cX3_0 cX3_1 cX3_2 sX3
  clear cX4_0 cX4_1 cX4_2 sX4
  clear cX5_0 cX5_1 cX5_2 sX5
  clear cX6_0 cX6_1 cX6_2 sX6
  clear cX7_0 cX7_1 cX7_2 sX7
  clear cX8_0 cX8_1 cX8_2 sX8
  clear cX9_0 cX9_1 cX9_2 sX9
  clear cX10_0 cX10_1 cX10_2 sX10
  clear cX11_0 cX11_1 sX11
  replace kk := bC kk hz
  clear hb hz
  go_wp2_with fail
  go_ret
  exact ⟨rfl, kk⟩



end Go.Proofs.YtbcjboaihahemaaDoor
