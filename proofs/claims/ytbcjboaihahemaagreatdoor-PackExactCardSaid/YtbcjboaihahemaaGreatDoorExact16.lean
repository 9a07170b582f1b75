/-
  The walk of the statement PackExact.
-/
import Derived.Test.YtbcjboaihahemaaGreatDoorPack16M
import Derived.Test.YtbcjboaihahemaaGreatDoorGfA
import Derived.Test.YtbcjboaihahemaaGreatDoorGaA
import Derived.Test.YtbcjboaihahemaaGreatDoorGdA
import Derived.Test.YtbcjboaihahemaaGreatDoorGoes16
set_option linter.unusedVariables false
set_option linter.unusedSimpArgs false
set_option maxRecDepth 100000
namespace Go.Proofs.YtbcjboaihahemaaGreatDoor
open Go.RowKit
attribute [local go_sem ↓] Go.wp_at_zero Go.wp_at_succ

set_option maxHeartbeats 4000000 in
set_option maxRecDepth 100000 in
theorem exact16_big (f ex E X zh zl fl x0 x1 x2 x3 : Int) (ng : Bool)
    (h0 : Hid (∀ w, FTab w → Calls Tryz.prog 10 #[.int .u8 f, .bool ng, .int .i64 ex, .agg #[.int .u64 x0, .int .u64 x1, .int .u64 x2, .int .u64 x3]] w fun e w' => e = .returned (.tuple #[.agg #[.int .u64 0, .int .u64 0], .bool false]) ∧ Below w.heap.size w w'))
    (h3 : Hid (∀ w, FTab w → Calls Tryz.prog 9 #[] w fun e w' => e = .returned (.bool true) ∧ Below w.heap.size w w')) (VL : Hid (∀ w, Calls Tryz.prog 8 #[.bool ng, .int .i64 ex, .agg #[.int .u64 x0, .int .u64 x1, .int .u64 x2, .int .u64 x3]] w fun e w' => ∃ v, e = .returned (.agg #[.bool ng, v, .int .i64 E, .bool false]) ∧ IsNum w' v X ∧ Below w.heap.size w w')) (RR : Hid (∀ w v, IsNum w v X → Calls Tryz.prog 7 #[.int .u8 f, .agg #[.int .u8 4, .bool false], .agg #[.bool ng, v, .int .i64 E, .bool false]] w fun e w' => e = .returned (.agg #[.int .u64 zh, .int .u64 zl, .int .u8 fl]) ∧ Below w.heap.size w w')) (g1 : decide (3 < f) = true) (w : World) (ft : FTab w) :
    Calls Tryz.prog 4 #[.int .u8 f, .bool ng, .int .i64 ex, .agg #[.int .u64 x0, .int .u64 x1, .int .u64 x2, .int .u64 x3]] w fun e w' => e = .returned (.bool true) ∧ Below w.heap.size w w' := by
  have EB := eqb16 0 0
  go_enter Tryz.func4, Tryz.ntmps4
  go_wp2_with fail
  (with_reducible refine (h0.out _ (ft.later (bA (Below.refl _ _) _))).mono ?_); rintro e w1 ⟨rfl, hb⟩
  have hz := bC (bA (Below.refl _ _) _) hb
  have cX0_0 := cell_later hb (a := ⟨w.heap.size, 0, none⟩) (v := .int .u64 x0) (by go_simp)
  have cX0_1 := cell_later hb (a := ⟨w.heap.size, 1, none⟩) (v := .int .u64 x1) (by go_simp)
  have cX0_2 := cell_later hb (a := ⟨w.heap.size, 2, none⟩) (v := .int .u64 x2) (by go_simp)
  have cX0_3 := cell_later hb (a := ⟨w.heap.size, 3, none⟩) (v := .int .u64 x3) (by go_simp)
  have sX0 : w.heap.size < w1.heap.size := World.block_lt_of_cell? _ _ cX0_0
  have kk := hz
  clear hb hz
  go_wp2_with fail
  (with_reducible refine (VL.out _).mono ?_); rintro e w2 ⟨v1, rfl, nv1, hb⟩
  have hz := bC (bA (Below.refl _ _) _) hb
  clear cX0_0 cX0_1 cX0_2 cX0_3 sX0
  have cX1_0 := cell_later hb (a := ⟨w1.heap.size, 0, none⟩) (v := .int .u64 0) (by go_simp)
  have cX1_1 := cell_later hb (a := ⟨w1.heap.size, 1, none⟩) (v := .int .u64 0) (by go_simp)
  have sX1 : w1.heap.size < w2.heap.size := World.block_lt_of_cell? _ _ cX1_0
  replace kk := bC kk hz
  clear hb hz
  go_wp2_with fail
  (with_reducible refine (RR.out _ v1 nv1).mono ?_); rintro e w3 ⟨rfl, hb⟩
  replace nv1 := nv1.later hb
  replace cX1_0 := cell_later hb cX1_0; replace cX1_1 := cell_later hb cX1_1
  replace sX1 : w1.heap.size < w3.heap.size := World.block_lt_of_cell? _ _ cX1_0
  replace kk := bC kk hb
  clear hb
  clear nv1
  go_wp2_with fail
  (with_reducible refine (h3.out _ (ft.later (bC kk (bA (Below.refl _ _) _)))).mono ?_); rintro e w4 ⟨rfl, hb⟩
  have hz := bC (bA (Below.refl _ _) _) hb
  clear cX1_0 cX1_1 sX1
  replace kk := bC kk hz
  clear hb hz
  go_wp2_with fail
  go_ret
  exact ⟨rfl, kk⟩

set_option maxHeartbeats 4000000 in
set_option maxRecDepth 100000 in
theorem exact16_flag (f ex E X zh zl fl x0 x1 x2 x3 : Int) (ng : Bool)
    (h0 : Hid (∀ w, FTab w → Calls Tryz.prog 10 #[.int .u8 f, .bool ng, .int .i64 ex, .agg #[.int .u64 x0, .int .u64 x1, .int .u64 x2, .int .u64 x3]] w fun e w' => e = .returned (.tuple #[.agg #[.int .u64 0, .int .u64 0], .bool false]) ∧ Below w.heap.size w w'))
    (h3 : Hid (∀ w, FTab w → Calls Tryz.prog 9 #[] w fun e w' => e = .returned (.bool true) ∧ Below w.heap.size w w')) (VL : Hid (∀ w, Calls Tryz.prog 8 #[.bool ng, .int .i64 ex, .agg #[.int .u64 x0, .int .u64 x1, .int .u64 x2, .int .u64 x3]] w fun e w' => ∃ v, e = .returned (.agg #[.bool ng, v, .int .i64 E, .bool false]) ∧ IsNum w' v X ∧ Below w.heap.size w w')) (RR : Hid (∀ w v, IsNum w v X → Calls Tryz.prog 7 #[.int .u8 f, .agg #[.int .u8 4, .bool false], .agg #[.bool ng, v, .int .i64 E, .bool false]] w fun e w' => e = .returned (.agg #[.int .u64 zh, .int .u64 zl, .int .u8 fl]) ∧ Below w.heap.size w w')) (g1 : decide (3 < f) = false) (g2 : (fl != 0) = true) (w : World) (ft : FTab w) :
    Calls Tryz.prog 4 #[.int .u8 f, .bool ng, .int .i64 ex, .agg #[.int .u64 x0, .int .u64 x1, .int .u64 x2, .int .u64 x3]] w fun e w' => e = .returned (.bool true) ∧ Below w.heap.size w w' := by
  have EB := eqb16 0 0
  go_enter Tryz.func4, Tryz.ntmps4
  go_wp2_with fail
  (with_reducible refine (h0.out _ (ft.later (bA (Below.refl _ _) _))).mono ?_); rintro e w1 ⟨rfl, hb⟩
  have hz := bC (bA (Below.refl _ _) _) hb
  have cX0_0 := cell_later hb (a := ⟨w.heap.size, 0, none⟩) (v := .int .u64 x0) (by go_simp)
  have cX0_1 := cell_later hb (a := ⟨w.heap.size, 1, none⟩) (v := .int .u64 x1) (by go_simp)
  have cX0_2 := cell_later hb (a := ⟨w.heap.size, 2, none⟩) (v := .int .u64 x2) (by go_simp)
  have cX0_3 := cell_later hb (a := ⟨w.heap.size, 3, none⟩) (v := .int .u64 x3) (by go_simp)
  have sX0 : w.heap.size < w1.heap.size := World.block_lt_of_cell? _ _ cX0_0
  have kk := hz
  clear hb hz
  go_wp2_with fail
  (with_reducible refine (VL.out _).mono ?_); rintro e w2 ⟨v1, rfl, nv1, hb⟩
  have hz := bC (bA (Below.refl _ _) _) hb
  clear cX0_0 cX0_1 cX0_2 cX0_3 sX0
  have cX1_0 := cell_later hb (a := ⟨w1.heap.size, 0, none⟩) (v := .int .u64 0) (by go_simp)
  have cX1_1 := cell_later hb (a := ⟨w1.heap.size, 1, none⟩) (v := .int .u64 0) (by go_simp)
  have sX1 : w1.heap.size < w2.heap.size := World.block_lt_of_cell? _ _ cX1_0
  replace kk := bC kk hz
  clear hb hz
  go_wp2_with fail
  (with_reducible refine (RR.out _ v1 nv1).mono ?_); rintro e w3 ⟨rfl, hb⟩
  replace nv1 := nv1.later hb
  replace cX1_0 := cell_later hb cX1_0; replace cX1_1 := cell_later hb cX1_1
  replace sX1 : w1.heap.size < w3.heap.size := World.block_lt_of_cell? _ _ cX1_0
  replace kk := bC kk hb
  clear hb
  clear nv1
  go_wp2_with fail
  (with_reducible refine (h3.out _ (ft.later (bC kk (bA (Below.refl _ _) _)))).mono ?_); rintro e w4 ⟨rfl, hb⟩
  have hz := bC (bA (Below.refl _ _) _) hb
  clear cX1_0 cX1_1 sX1
  replace kk := bC kk hz
  clear hb hz
  go_wp2_with fail
  go_ret
  exact ⟨rfl, kk⟩

set_option maxHeartbeats 4000000 in
set_option maxRecDepth 100000 in
theorem exact16_yes (f ex E X rh rl x0 x1 x2 x3 : Int) (ng : Bool)
    (h0 : Hid (∀ w, FTab w → Calls Tryz.prog 10 #[.int .u8 f, .bool ng, .int .i64 ex, .agg #[.int .u64 x0, .int .u64 x1, .int .u64 x2, .int .u64 x3]] w fun e w' => e = .returned (.tuple #[.agg #[.int .u64 rh, .int .u64 rl], .bool true]) ∧ Below w.heap.size w w'))
    (h3 : Hid (∀ w, FTab w → Calls Tryz.prog 9 #[] w fun e w' => e = .returned (.bool true) ∧ Below w.heap.size w w')) (VL : Hid (∀ w, Calls Tryz.prog 8 #[.bool ng, .int .i64 ex, .agg #[.int .u64 x0, .int .u64 x1, .int .u64 x2, .int .u64 x3]] w fun e w' => ∃ v, e = .returned (.agg #[.bool ng, v, .int .i64 E, .bool false]) ∧ IsNum w' v X ∧ Below w.heap.size w w')) (RR : Hid (∀ w v, IsNum w v X → Calls Tryz.prog 7 #[.int .u8 f, .agg #[.int .u8 4, .bool false], .agg #[.bool ng, v, .int .i64 E, .bool false]] w fun e w' => e = .returned (.agg #[.int .u64 rh, .int .u64 rl, .int .u8 0]) ∧ Below w.heap.size w w')) (g1 : decide (3 < f) = false) (w : World) (ft : FTab w) :
    Calls Tryz.prog 4 #[.int .u8 f, .bool ng, .int .i64 ex, .agg #[.int .u64 x0, .int .u64 x1, .int .u64 x2, .int .u64 x3]] w fun e w' => e = .returned (.bool true) ∧ Below w.heap.size w w' := by
  have EB := eqb16 rh rl
  go_enter Tryz.func4, Tryz.ntmps4
  go_wp2_with fail
  (with_reducible refine (h0.out _ (ft.later (bA (Below.refl _ _) _))).mono ?_); rintro e w1 ⟨rfl, hb⟩
  have hz := bC (bA (Below.refl _ _) _) hb
  have cX0_0 := cell_later hb (a := ⟨w.heap.size, 0, none⟩) (v := .int .u64 x0) (by go_simp)
  have cX0_1 := cell_later hb (a := ⟨w.heap.size, 1, none⟩) (v := .int .u64 x1) (by go_simp)
  have cX0_2 := cell_later hb (a := ⟨w.heap.size, 2, none⟩) (v := .int .u64 x2) (by go_simp)
  have cX0_3 := cell_later hb (a := ⟨w.heap.size, 3, none⟩) (v := .int .u64 x3) (by go_simp)
  have sX0 : w.heap.size < w1.heap.size := World.block_lt_of_cell? _ _ cX0_0
  have kk := hz
  clear hb hz
  go_wp2_with fail
  (with_reducible refine (VL.out _).mono ?_); rintro e w2 ⟨v1, rfl, nv1, hb⟩
  have hz := bC (bA (Below.refl _ _) _) hb
  clear cX0_0 cX0_1 cX0_2 cX0_3 sX0
  have cX1_0 := cell_later hb (a := ⟨w1.heap.size, 0, none⟩) (v := .int .u64 rh) (by go_simp)
  have cX1_1 := cell_later hb (a := ⟨w1.heap.size, 1, none⟩) (v := .int .u64 rl) (by go_simp)
  have sX1 : w1.heap.size < w2.heap.size := World.block_lt_of_cell? _ _ cX1_0
  replace kk := bC kk hz
  clear hb hz
  go_wp2_with fail
  (with_reducible refine (RR.out _ v1 nv1).mono ?_); rintro e w3 ⟨rfl, hb⟩
  replace nv1 := nv1.later hb
  replace cX1_0 := cell_later hb cX1_0; replace cX1_1 := cell_later hb cX1_1
  replace sX1 : w1.heap.size < w3.heap.size := World.block_lt_of_cell? _ _ cX1_0
  replace kk := bC kk hb
  clear hb
  clear nv1
  go_wp2_with fail
  (with_reducible refine (h3.out _ (ft.later (bC kk (bA (Below.refl _ _) _)))).mono ?_); rintro e w4 ⟨rfl, hb⟩
  have hz := bC (bA (Below.refl _ _) _) hb
  clear cX1_0 cX1_1 sX1
  replace kk := bC kk hz
  clear hb hz
  go_wp2_with fail
  go_ret
  exact ⟨rfl, kk⟩



end Go.Proofs.YtbcjboaihahemaaGreatDoor
