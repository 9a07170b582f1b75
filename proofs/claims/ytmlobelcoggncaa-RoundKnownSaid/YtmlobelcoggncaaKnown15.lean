/-
  The walk of the statement RoundKnown.
-/
import Derived.Test.YtmlobelcoggncaaRound15M
import Derived.Test.YtmlobelcoggncaaGaA
set_option linter.unusedVariables false
set_option linter.unusedSimpArgs false
set_option maxRecDepth 100000
namespace Go.Proofs.Ytmlobelcoggncaa
open Go.RowKit
attribute [local go_sem ↓] Go.wp_at_zero Go.wp_at_succ

set_option maxHeartbeats 4000000 in
set_option maxRecDepth 100000 in
theorem known15_core 
    (h0 : Hid (∀ w, Calls Try.prog 25 #[] w fun e w' => e = .returned (.agg #[.int .u64 18446744073709551615, .int .u64 18446744073709551615, .int .u64 18446744073709551615, .int .u64 18446744073709551615]) ∧ Below w.heap.size w w'))
    (h1 : Hid (∀ w, Calls Try.prog 9 #[.agg #[.int .u64 18446744073709551615, .int .u64 18446744073709551615, .int .u64 18446744073709551615, .int .u64 18446744073709551615], .int .i64 128, .int .u8 0, .bool false] w fun e w' => e = .returned (.tuple #[.agg #[.int .u64 0, .int .u64 0], .bool false]) ∧ Below w.heap.size w w'))
    (h3 : Hid (∀ w, Calls Try.prog 9 #[.agg #[.int .u64 18446744073709551615, .int .u64 18446744073709551615, .int .u64 18446744073709551615, .int .u64 18446744073709551615], .int .i64 (-1), .int .u8 0, .bool false] w fun e w' => e = .returned (.tuple #[.agg #[.int .u64 0, .int .u64 0], .bool false]) ∧ Below w.heap.size w w'))
    (h5 : Hid (∀ w, Calls Try.prog 9 #[.agg #[.int .u64 18446744073709551615, .int .u64 18446744073709551615, .int .u64 18446744073709551615, .int .u64 18446744073709551615], .int .i64 8, .int .u8 5, .bool false] w fun e w' => e = .returned (.tuple #[.agg #[.int .u64 0, .int .u64 0], .bool false]) ∧ Below w.heap.size w w'))
    (h7 : Hid (∀ w, Calls Try.prog 9 #[.agg #[.int .u64 18446744073709551615, .int .u64 18446744073709551615, .int .u64 18446744073709551615, .int .u64 18446744073709551615], .int .i64 0, .int .u8 0, .bool true] w fun e w' => e = .returned (.tuple #[.agg #[.int .u64 0, .int .u64 1], .bool true]) ∧ Below w.heap.size w w'))
    (h9 : Hid (∀ w, Calls Try.prog 9 #[.agg #[.int .u64 18446744073709551615, .int .u64 18446744073709551615, .int .u64 18446744073709551615, .int .u64 18446744073709551615], .int .i64 127, .int .u8 2, .bool false] w fun e w' => e = .returned (.tuple #[.agg #[.int .u64 9223372036854775808, .int .u64 0], .bool true]) ∧ Below w.heap.size w w'))
    (h10 : Hid (∀ w, Calls Try.prog 9 #[.agg #[.int .u64 1, .int .u64 0, .int .u64 0, .int .u64 0], .int .i64 113, .int .u8 3, .bool true] w fun e w' => e = .returned (.tuple #[.agg #[.int .u64 0, .int .u64 1], .bool true]) ∧ Below w.heap.size w w'))
    (h11 : Hid (∀ w, Calls Try.prog 10 #[.agg #[.int .u64 0, .int .u64 0, .int .u64 0, .int .u64 4611686018427387904], .int .i64 0] w fun e w' => e = .returned (.int .u8 1) ∧ Below w.heap.size w w'))
    (h13 : Hid (∀ w, Calls Try.prog 10 #[.agg #[.int .u64 18446744073709551615, .int .u64 18446744073709551615, .int .u64 18446744073709551615, .int .u64 18446744073709551615], .int .i64 127] w fun e w' => e = .returned (.int .u8 3) ∧ Below w.heap.size w w'))
    (h15 : Hid (∀ w, Calls Try.prog 10 #[.agg #[.int .u64 18446744073709551615, .int .u64 18446744073709551615, .int .u64 18446744073709551615, .int .u64 18446744073709551615], .int .i64 128] w fun e w' => e = .returned (.int .u8 0) ∧ Below w.heap.size w w'))
    (h16 : Hid (∀ w, Calls Try.prog 10 #[.agg #[.int .u64 0, .int .u64 0, .int .u64 0, .int .u64 0], .int .i64 5] w fun e w' => e = .returned (.int .u8 0) ∧ Below w.heap.size w w'))
    (h17 : Hid (∀ w, Calls Try.prog 11 #[] w fun e w' => e = .returned (.bool true) ∧ Below w.heap.size w w')) (w : World) :
    Calls Try.prog 8 #[] w fun e w' => e = .returned (.bool true) ∧ Below w.heap.size w w' := by
  go_enter Try.func8, Try.ntmps8
  go_wp2_with fail
  (with_reducible refine (h0.out _).mono ?_); rintro e w1 ⟨rfl, hb⟩
  have kk := hb
  clear hb
  go_wp2_with fail
  (with_reducible refine (h1.out _).mono ?_); rintro e w2 ⟨rfl, hb⟩
  replace kk := bC kk hb
  clear hb
  go_wp2_with fail
  (with_reducible refine (h0.out _).mono ?_); rintro e w3 ⟨rfl, hb⟩
  have hz := bC (bA (Below.refl _ _) _) hb
  have cX0_0 := cell_later hb (a := ⟨w2.heap.size, 0, none⟩) (v := .int .u64 0) (by go_simp)
  have cX0_1 := cell_later hb (a := ⟨w2.heap.size, 1, none⟩) (v := .int .u64 0) (by go_simp)
  have sX0 : w2.heap.size < w3.heap.size := World.block_lt_of_cell? _ _ cX0_0
  replace kk := bC kk hz
  clear hb hz
  go_wp2_with fail
  (with_reducible refine (h3.out _).mono ?_); rintro e w4 ⟨rfl, hb⟩
  replace cX0_0 := cell_later hb cX0_0; replace cX0_1 := cell_later hb cX0_1
  replace sX0 : w2.heap.size < w4.heap.size := World.block_lt_of_cell? _ _ cX0_0
  replace kk := bC kk hb
  clear hb
  go_wp2_with fail
  (with_reducible refine (h0.out _).mono ?_); rintro e w5 ⟨rfl, hb⟩
  have hz := bC (bA (Below.refl _ _) _) hb
  replace cX0_0 := cell_later hz cX0_0; replace cX0_1 := cell_later hz cX0_1
  replace sX0 : w2.heap.size < w5.heap.size := World.block_lt_of_cell? _ _ cX0_0
  have cX1_0 := cell_later hb (a := ⟨w4.heap.size, 0, none⟩) (v := .int .u64 0) (by go_simp)
  have cX1_1 := cell_later hb (a := ⟨w4.heap.size, 1, none⟩) (v := .int .u64 0) (by go_simp)
  have sX1 : w4.heap.size < w5.heap.size := World.block_lt_of_cell? _ _ cX1_0
  replace kk := bC kk hz
  clear hb hz
  go_wp2_with fail
  (with_reducible refine (h5.out _).mono ?_); rintro e w6 ⟨rfl, hb⟩
  replace cX0_0 := cell_later hb cX0_0; replace cX0_1 := cell_later hb cX0_1
  replace sX0 : w2.heap.size < w6.heap.size := World.block_lt_of_cell? _ _ cX0_0
  replace cX1_0 := cell_later hb cX1_0; replace cX1_1 := cell_later hb cX1_1
  replace sX1 : w4.heap.size < w6.heap.size := World.block_lt_of_cell? _ _ cX1_0
  replace kk := bC kk hb
  clear hb
  go_wp2_with fail
  (with_reducible refine (h0.out _).mono ?_); rintro e w7 ⟨rfl, hb⟩
  have hz := bC (bA (Below.refl _ _) _) hb
  replace cX0_0 := cell_later hz cX0_0; replace cX0_1 := cell_later hz cX0_1
  replace sX0 : w2.heap.size < w7.heap.size := World.block_lt_of_cell? _ _ cX0_0
  replace cX1_0 := cell_later hz cX1_0; replace cX1_1 := cell_later hz cX1_1
  replace sX1 : w4.heap.size < w7.heap.size := World.block_lt_of_cell? _ _ cX1_0
  have cX2_0 := cell_later hb (a := ⟨w6.heap.size, 0, none⟩) (v := .int .u64 0) (by go_simp)
  have cX2_1 := cell_later hb (a := ⟨w6.heap.size, 1, none⟩) (v := .int .u64 0) (by go_simp)
  have sX2 : w6.heap.size < w7.heap.size := World.block_lt_of_cell? _ _ cX2_0
  replace kk := bC kk hz
  clear hb hz
  go_wp2_with fail
  (with_reducible refine (h7.out _).mono ?_); rintro e w8 ⟨rfl, hb⟩
  replace cX0_0 := cell_later hb cX0_0; replace cX0_1 := cell_later hb cX0_1
  replace sX0 : w2.heap.size < w8.heap.size := World.block_lt_of_cell? _ _ cX0_0
  replace cX1_0 := cell_later hb cX1_0; replace cX1_1 := cell_later hb cX1_1
  replace sX1 : w4.heap.size < w8.heap.size := World.block_lt_of_cell? _ _ cX1_0
  replace cX2_0 := cell_later hb cX2_0; replace cX2_1 := cell_later hb cX2_1
  replace sX2 : w6.heap.size < w8.heap.size := World.block_lt_of_cell? _ _ cX2_0
  replace kk := bC kk hb
  clear hb
  go_wp2_with fail
  (with_reducible refine (h0.out _).mono ?_); rintro e w9 ⟨rfl, hb⟩
  have hz := bC (bA (Below.refl _ _) _) hb
  replace cX0_0 := cell_later hz cX0_0; replace cX0_1 := cell_later hz cX0_1
  replace sX0 : w2.heap.size < w9.heap.size := World.block_lt_of_cell? _ _ cX0_0
  replace cX1_0 := cell_later hz cX1_0; replace cX1_1 := cell_later hz cX1_1
  replace sX1 : w4.heap.size < w9.heap.size := World.block_lt_of_cell? _ _ cX1_0
  replace cX2_0 := cell_later hz cX2_0; replace cX2_1 := cell_later hz cX2_1
  replace sX2 : w6.heap.size < w9.heap.size := World.block_lt_of_cell? _ _ cX2_0
  have cX3_0 := cell_later hb (a := ⟨w8.heap.size, 0, none⟩) (v := .int .u64 0) (by go_simp)
  have cX3_1 := cell_later hb (a := ⟨w8.heap.size, 1, none⟩) (v := .int .u64 1) (by go_simp)
  have sX3 : w8.heap.size < w9.heap.size := World.block_lt_of_cell? _ _ cX3_0
  replace kk := bC kk hz
  clear hb hz
  go_wp2_with fail
  (with_reducible refine (h9.out _).mono ?_); rintro e w10 ⟨rfl, hb⟩
  replace cX0_0 := cell_later hb cX0_0; replace cX0_1 := cell_later hb cX0_1
  replace sX0 : w2.heap.size < w10.heap.size := World.block_lt_of_cell? _ _ cX0_0
  replace cX1_0 := cell_later hb cX1_0; replace cX1_1 := cell_later hb cX1_1
  replace sX1 : w4.heap.size < w10.heap.size := World.block_lt_of_cell? _ _ cX1_0
  replace cX2_0 := cell_later hb cX2_0; replace cX2_1 := cell_later hb cX2_1
  replace sX2 : w6.heap.size < w10.heap.size := World.block_lt_of_cell? _ _ cX2_0
  replace cX3_0 := cell_later hb cX3_0; replace cX3_1 := cell_later hb cX3_1
  replace sX3 : w8.heap.size < w10.heap.size := World.block_lt_of_cell? _ _ cX3_0
  replace kk := bC kk hb
  clear hb
  go_wp2_with fail
  (with_reducible refine (h10.out _).mono ?_); rintro e w11 ⟨rfl, hb⟩
  have hz := bC (bA (Below.refl _ _) _) hb
  replace cX0_0 := cell_later hz cX0_0; replace cX0_1 := cell_later hz cX0_1
  replace sX0 : w2.heap.size < w11.heap.size := World.block_lt_of_cell? _ _ cX0_0
  replace cX1_0 := cell_later hz cX1_0; replace cX1_1 := cell_later hz cX1_1
  replace sX1 : w4.heap.size < w11.heap.size := World.block_lt_of_cell? _ _ cX1_0
  replace cX2_0 := cell_later hz cX2_0; replace cX2_1 := cell_later hz cX2_1
  replace sX2 : w6.heap.size < w11.heap.size := World.block_lt_of_cell? _ _ cX2_0
  replace cX3_0 := cell_later hz cX3_0; replace cX3_1 := cell_later hz cX3_1
  replace sX3 : w8.heap.size < w11.heap.size := World.block_lt_of_cell? _ _ cX3_0
  have cX4_0 := cell_later hb (a := ⟨w10.heap.size, 0, none⟩) (v := .int .u64 9223372036854775808) (by go_simp)
  have cX4_1 := cell_later hb (a := ⟨w10.heap.size, 1, none⟩) (v := .int .u64 0) (by go_simp)
  have sX4 : w10.heap.size < w11.heap.size := World.block_lt_of_cell? _ _ cX4_0
  replace kk := bC kk hz
  clear hb hz
  go_wp2_with fail
  (with_reducible refine (h11.out _).mono ?_); rintro e w12 ⟨rfl, hb⟩
  have hz := bC (bA (Below.refl _ _) _) hb
  clear cX0_0 cX0_1 sX0
  clear cX1_0 cX1_1 sX1
  clear cX2_0 cX2_1 sX2
  clear cX3_0 cX3_1 sX3
  clear cX4_0 cX4_1 sX4
  replace kk := bC kk hz
  clear hb hz
  go_wp2_with fail
  (with_reducible refine (h0.out _).mono ?_); rintro e w13 ⟨rfl, hb⟩
  replace kk := bC kk hb
  clear hb
  go_wp2_with fail
  (with_reducible refine (h13.out _).mono ?_); rintro e w14 ⟨rfl, hb⟩
  replace kk := bC kk hb
  clear hb
  go_wp2_with fail
  (with_reducible refine (h0.out _).mono ?_); rintro e w15 ⟨rfl, hb⟩
  replace kk := bC kk hb
  clear hb
  go_wp2_with fail
  (with_reducible refine (h15.out _).mono ?_); rintro e w16 ⟨rfl, hb⟩
  replace kk := bC kk hb
  clear hb
  go_wp2_with fail
  (with_reducible refine (h16.out _).mono ?_); rintro e w17 ⟨rfl, hb⟩
  replace kk := bC kk hb
  clear hb
  go_wp2_with fail
  (with_reducible refine (h17.out _).mono ?_); rintro e w18 ⟨rfl, hb⟩
  replace kk := bC kk hb
  clear hb
  go_wp2_with fail
  go_ret
  exact ⟨rfl, kk⟩

end Go.Proofs.Ytmlobelcoggncaa
