/-
  The walk of the example that every statement of stage 16 asks.
-/
import Derived.Test.YtbcjboaihahemaaGreatDoorPack16M
import Derived.Test.YtbcjboaihahemaaGreatDoorGfA
import Derived.Test.YtbcjboaihahemaaGreatDoorGaA
import Derived.Test.YtbcjboaihahemaaGreatDoorGdA
set_option linter.unusedVariables false
set_option linter.unusedSimpArgs false
set_option maxRecDepth 100000
namespace Go.Proofs.YtbcjboaihahemaaGreatDoor
open Go.RowKit
attribute [local go_sem ↓] Go.wp_at_zero Go.wp_at_succ

theorem eqr16 (h l c : Int) (w : World) : (binOp .eql 33 (.agg #[.int .u64 h, .int .u64 l, .int .u8 c]) (.agg #[.int .u64 h, .int .u64 l, .int .u8 c])).run Tryz.prog w = .ok (.bool true) w := by
  go_simp
theorem neqr16 (h l c : Int) (w : World) : (binOp .neq 33 (.agg #[.int .u64 h, .int .u64 l, .int .u8 c]) (.agg #[.int .u64 h, .int .u64 l, .int .u8 c])).run Tryz.prog w = .ok (.bool false) w := by
  go_simp
theorem neqb16 (h l : Int) (w : World) : (binOp .neq 30 (.agg #[.int .u64 h, .int .u64 l]) (.agg #[.int .u64 h, .int .u64 l])).run Tryz.prog w = .ok (.bool false) w := by
  go_simp
theorem eqb16 (h l : Int) (w : World) : (binOp .eql 30 (.agg #[.int .u64 h, .int .u64 l]) (.agg #[.int .u64 h, .int .u64 l])).run Tryz.prog w = .ok (.bool true) w := by
  go_simp
theorem nb16 (a b c d : Int) (h : ¬ (a = c ∧ b = d)) (w : World) : (binOp .neq 30 (.agg #[.int .u64 a, .int .u64 b]) (.agg #[.int .u64 c, .int .u64 d])).run Tryz.prog w = .ok (.bool true) w := by
  by_cases h1 : a = c
  · subst h1
    by_cases h2 : b = d
    · exact absurd ⟨rfl, h2⟩ h
    · go_simp
  · go_simp

set_option maxHeartbeats 4000000 in
set_option maxRecDepth 100000 in
theorem top16 (y3 x0 x1 x2 x3 : Int)
     (b1 : bits .or .u64 x3 9223372036854775808 = y3) (w : World) :
    Calls Tryz.prog 29 #[.agg #[.int .u64 x0, .int .u64 x1, .int .u64 x2, .int .u64 x3]] w fun e w' => e = .returned (.agg #[.int .u64 x0, .int .u64 x1, .int .u64 x2, .int .u64 y3]) ∧ Below w.heap.size w w' := by
  go_enter Tryz.func29, Tryz.ntmps29
  go_wp2_with fail
  refine bodyPost_ret (v := .agg #[.int .u64 x0, .int .u64 x1, .int .u64 x2, .int .u64 y3]) (by simp [results, Tryz.results29, go_sem]) rfl ⟨rfl, (bA (bA (Below.refl _ _) _) _)⟩

set_option maxHeartbeats 4000000 in
set_option maxRecDepth 100000 in
theorem goes16_core 
    (h0 : Hid (∀ w, Calls Tryz.prog 29 #[.agg #[.int .u64 0, .int .u64 0, .int .u64 0, .int .u64 4503599627370496]] w fun e w' => e = .returned (.agg #[.int .u64 0, .int .u64 0, .int .u64 0, .int .u64 9227875636482146304]) ∧ Below w.heap.size w w'))
    (h1 : Hid (∀ w, Calls Tryz.prog 29 #[.agg #[.int .u64 0, .int .u64 0, .int .u64 0, .int .u64 0]] w fun e w' => e = .returned (.agg #[.int .u64 0, .int .u64 0, .int .u64 0, .int .u64 9223372036854775808]) ∧ Below w.heap.size w w'))
    (h2 : Hid (∀ w, FTab w → Calls Tryz.prog 6 #[.int .u8 0, .agg #[.int .u8 0, .bool false], .bool false, .int .i64 0, .agg #[.int .u64 0, .int .u64 0, .int .u64 0, .int .u64 9223372036854775808]] w fun e w' => e = .returned (.agg #[.int .u64 0, .int .u64 15360, .int .u8 0]) ∧ Below w.heap.size w w'))
    (h3 : Hid (∀ w, FTab w → Calls Tryz.prog 6 #[.int .u8 0, .agg #[.int .u8 0, .bool false], .bool false, .int .i64 0, .agg #[.int .u64 0, .int .u64 0, .int .u64 0, .int .u64 9227875636482146304]] w fun e w' => e = .returned (.agg #[.int .u64 0, .int .u64 15360, .int .u8 16]) ∧ Below w.heap.size w w'))
    (h4 : Hid (∀ w, FTab w → Calls Tryz.prog 6 #[.int .u8 0, .agg #[.int .u8 2, .bool false], .bool false, .int .i64 0, .agg #[.int .u64 0, .int .u64 0, .int .u64 0, .int .u64 9227875636482146304]] w fun e w' => e = .returned (.agg #[.int .u64 0, .int .u64 15361, .int .u8 16]) ∧ Below w.heap.size w w'))
    (h5 : Hid (∀ w, FTab w → Calls Tryz.prog 6 #[.int .u8 0, .agg #[.int .u8 4, .bool false], .bool false, .int .i64 16, .agg #[.int .u64 0, .int .u64 0, .int .u64 0, .int .u64 9227875636482146304]] w fun e w' => e = .returned (.agg #[.int .u64 0, .int .u64 31743, .int .u8 20]) ∧ Below w.heap.size w w'))
    (h6 : Hid (∀ w, FTab w → Calls Tryz.prog 6 #[.int .u8 0, .agg #[.int .u8 2, .bool false], .bool false, .int .i64 (-25), .agg #[.int .u64 0, .int .u64 0, .int .u64 0, .int .u64 9227875636482146304]] w fun e w' => e = .returned (.agg #[.int .u64 0, .int .u64 1, .int .u8 24]) ∧ Below w.heap.size w w')) (w : World) (ft : FTab w) :
    Calls Tryz.prog 9 #[] w fun e w' => e = .returned (.bool true) ∧ Below w.heap.size w w' := by
  go_enter Tryz.func9, Tryz.ntmps9
  go_wp2_with fail
  (with_reducible refine (h0.out _).mono ?_); rintro e w1 ⟨rfl, hb⟩
  have kk := hb
  clear hb
  go_wp2_with fail
  (with_reducible refine (h1.out _).mono ?_); rintro e w2 ⟨rfl, hb⟩
  have hz := bC (bA (Below.refl _ _) _) hb
  have cX0_0 := cell_later hb (a := ⟨w1.heap.size, 0, none⟩) (v := .int .u64 0) (by go_simp)
  have cX0_1 := cell_later hb (a := ⟨w1.heap.size, 1, none⟩) (v := .int .u64 0) (by go_simp)
  have cX0_2 := cell_later hb (a := ⟨w1.heap.size, 2, none⟩) (v := .int .u64 0) (by go_simp)
  have cX0_3 := cell_later hb (a := ⟨w1.heap.size, 3, none⟩) (v := .int .u64 9227875636482146304) (by go_simp)
  have sX0 : w1.heap.size < w2.heap.size := World.block_lt_of_cell? _ _ cX0_0
  replace kk := bC kk hz
  clear hb hz
  go_wp2_with fail
  (with_reducible refine (h2.out _ (ft.later kk)).mono ?_); rintro e w3 ⟨rfl, hb⟩
  replace cX0_0 := cell_later hb cX0_0; replace cX0_1 := cell_later hb cX0_1; replace cX0_2 := cell_later hb cX0_2; replace cX0_3 := cell_later hb cX0_3
  replace sX0 : w1.heap.size < w3.heap.size := World.block_lt_of_cell? _ _ cX0_0
  replace kk := bC kk hb
  clear hb
  go_wp2_with fail
  (with_reducible refine (h3.out _ (ft.later (bC kk (bA (Below.refl _ _) _)))).mono ?_); rintro e w4 ⟨rfl, hb⟩
  have hz := bC (bA (Below.refl _ _) _) hb
  replace cX0_0 := cell_later hz cX0_0; replace cX0_1 := cell_later hz cX0_1; replace cX0_2 := cell_later hz cX0_2; replace cX0_3 := cell_later hz cX0_3
  replace sX0 : w1.heap.size < w4.heap.size := World.block_lt_of_cell? _ _ cX0_0
  have cX1_0 := cell_later hb (a := ⟨w3.heap.size, 0, none⟩) (v := .int .u64 0) (by go_simp)
  have cX1_1 := cell_later hb (a := ⟨w3.heap.size, 1, none⟩) (v := .int .u64 15360) (by go_simp)
  have cX1_2 := cell_later hb (a := ⟨w3.heap.size, 2, none⟩) (v := .int .u8 0) (by go_simp)
  have sX1 : w3.heap.size < w4.heap.size := World.block_lt_of_cell? _ _ cX1_0
  replace kk := bC kk hz
  clear hb hz
  go_wp2_with fail
  (with_reducible refine (h4.out _ (ft.later (bC kk (bA (Below.refl _ _) _)))).mono ?_); rintro e w5 ⟨rfl, hb⟩
  have hz := bC (bA (Below.refl _ _) _) hb
  replace cX0_0 := cell_later hz cX0_0; replace cX0_1 := cell_later hz cX0_1; replace cX0_2 := cell_later hz cX0_2; replace cX0_3 := cell_later hz cX0_3
  replace sX0 : w1.heap.size < w5.heap.size := World.block_lt_of_cell? _ _ cX0_0
  replace cX1_0 := cell_later hz cX1_0; replace cX1_1 := cell_later hz cX1_1; replace cX1_2 := cell_later hz cX1_2
  replace sX1 : w3.heap.size < w5.heap.size := World.block_lt_of_cell? _ _ cX1_0
  have cX2_0 := cell_later hb (a := ⟨w4.heap.size, 0, none⟩) (v := .int .u64 0) (by go_simp)
  have cX2_1 := cell_later hb (a := ⟨w4.heap.size, 1, none⟩) (v := .int .u64 15360) (by go_simp)
  have cX2_2 := cell_later hb (a := ⟨w4.heap.size, 2, none⟩) (v := .int .u8 16) (by go_simp)
  have sX2 : w4.heap.size < w5.heap.size := World.block_lt_of_cell? _ _ cX2_0
  replace kk := bC kk hz
  clear hb hz
  go_wp2_with fail
  (with_reducible refine (h5.out _ (ft.later (bC kk (bA (Below.refl _ _) _)))).mono ?_); rintro e w6 ⟨rfl, hb⟩
  have hz := bC (bA (Below.refl _ _) _) hb
  replace cX0_0 := cell_later hz cX0_0; replace cX0_1 := cell_later hz cX0_1; replace cX0_2 := cell_later hz cX0_2; replace cX0_3 := cell_later hz cX0_3
  replace sX0 : w1.heap.size < w6.heap.size := World.block_lt_of_cell? _ _ cX0_0
  replace cX1_0 := cell_later hz cX1_0; replace cX1_1 := cell_later hz cX1_1; replace cX1_2 := cell_later hz cX1_2
  replace sX1 : w3.heap.size < w6.heap.size := World.block_lt_of_cell? _ _ cX1_0
  replace cX2_0 := cell_later hz cX2_0; replace cX2_1 := cell_later hz cX2_1; replace cX2_2 := cell_later hz cX2_2
  replace sX2 : w4.heap.size < w6.heap.size := World.block_lt_of_cell? _ _ cX2_0
  have cX3_0 := cell_later hb (a := ⟨w5.heap.size, 0, none⟩) (v := .int .u64 0) (by go_simp)
  have cX3_1 := cell_later hb (a := ⟨w5.heap.size, 1, none⟩) (v := .int .u64 15361) (by go_simp)
  have cX3_2 := cell_later hb (a := ⟨w5.heap.size, 2, none⟩) (v := .int .u8 16) (by go_simp)
  have sX3 : w5.heap.size < w6.heap.size := World.block_lt_of_cell? _ _ cX3_0
  replace kk := bC kk hz
  clear hb hz
  go_wp2_with fail
  (with_reducible refine (h6.out _ (ft.later (bC kk (bA (Below.refl _ _) _)))).mono ?_); rintro e w7 ⟨rfl, hb⟩
  have hz := bC (bA (Below.refl _ _) _) hb
  clear cX0_0 cX0_1 cX0_2 cX0_3 sX0
  replace cX1_0 := cell_later hz cX1_0; replace cX1_1 := cell_later hz cX1_1; replace cX1_2 := cell_later hz cX1_2
  replace sX1 : w3.heap.size < w7.heap.size := World.block_lt_of_cell? _ _ cX1_0
  replace cX2_0 := cell_later hz cX2_0; replace cX2_1 := cell_later hz cX2_1; replace cX2_2 := cell_later hz cX2_2
  replace sX2 : w4.heap.size < w7.heap.size := World.block_lt_of_cell? _ _ cX2_0
  replace cX3_0 := cell_later hz cX3_0; replace cX3_1 := cell_later hz cX3_1; replace cX3_2 := cell_later hz cX3_2
  replace sX3 : w5.heap.size < w7.heap.size := World.block_lt_of_cell? _ _ cX3_0
  have cX4_0 := cell_later hb (a := ⟨w6.heap.size, 0, none⟩) (v := .int .u64 0) (by go_simp)
  have cX4_1 := cell_later hb (a := ⟨w6.heap.size, 1, none⟩) (v := .int .u64 31743) (by go_simp)
  have cX4_2 := cell_later hb (a := ⟨w6.heap.size, 2, none⟩) (v := .int .u8 20) (by go_simp)
  have sX4 : w6.heap.size < w7.heap.size := World.block_lt_of_cell? _ _ cX4_0
  replace kk := bC kk hz
  clear hb hz
  go_wp2_with fail
  go_ret
  exact ⟨rfl, (bA kk _)⟩



end Go.Proofs.YtbcjboaihahemaaGreatDoor
