/-
  The walk of the example that every statement of stage 9 asks.
-/
import Derived.Test.YtelfjbdpmiopdaaDoorForm7T
import Derived.Test.YtelfjbdpmiopdaaDoorGaA
import Derived.Test.YtelfjbdpmiopdaaDoorLater4
import Derived.Test.YtelfjbdpmiopdaaDoorNum9
set_option linter.unusedVariables false
set_option linter.unusedSimpArgs false
set_option maxRecDepth 100000
namespace Go.Proofs.YtelfjbdpmiopdaaDoor
open Go.RowKit
attribute [local go_sem ↓] Go.wp_at_zero Go.wp_at_succ

set_option maxHeartbeats 4000000 in
set_option maxRecDepth 100000 in
theorem goes9_core 
    (h0 : Hid (∀ w, FTab w → Calls Tryd.prog 10 #[.int .u8 0, .agg #[.int .u64 0, .int .u64 15360]] w fun e w' => e = .returned (.agg #[.bool false, .int .u8 2, .int .i64 0, .int .u64 9223372036854775808, .int .u64 0]) ∧ Below w.heap.size w w'))
    (h1 : Hid (∀ w, FTab w → Calls Tryd.prog 10 #[.int .u8 0, .agg #[.int .u64 0, .int .u64 1]] w fun e w' => e = .returned (.agg #[.bool false, .int .u8 1, .int .i64 (-24), .int .u64 9223372036854775808, .int .u64 0]) ∧ Below w.heap.size w w'))
    (h2 : Hid (∀ w, FTab w → Calls Tryd.prog 13 #[.int .u8 0, .agg #[.bool false, .int .u8 1, .int .i64 (-24), .int .u64 9223372036854775808, .int .u64 0]] w fun e w' => e = .returned (.tuple #[.agg #[.int .u64 0, .int .u64 1], .bool true]) ∧ Below w.heap.size w w'))
    (h3 : Hid (∀ w, FTab w → Calls Tryd.prog 13 #[.int .u8 0, .agg #[.bool false, .int .u8 2, .int .i64 0, .int .u64 9223372036854775808, .int .u64 1]] w fun e w' => e = .returned (.tuple #[.agg #[.int .u64 0, .int .u64 0], .bool false]) ∧ Below w.heap.size w w')) (w : World) (ft : FTab w) :
    Calls Tryd.prog 12 #[] w fun e w' => e = .returned (.bool true) ∧ Below w.heap.size w w' := by
  go_enter Tryd.func12, Tryd.ntmps12
  go_wp2_with fail
  (with_reducible refine (h0.out _ (ft.later (Below.refl _ _))).mono ?_); rintro e w1 ⟨rfl, hb⟩
  have kk := hb
  clear hb
  go_wp2_with fail
  (with_reducible refine (h1.out _ (ft.later (bC kk (bA (Below.refl _ _) _)))).mono ?_); rintro e w2 ⟨rfl, hb⟩
  have hz := bC (bA (Below.refl _ _) _) hb
  have gX0 : w.heap.size ≤ w1.heap.size := by have := kk.size; omega
  have cX0_0 := cell_later hb (a := ⟨w1.heap.size, 0, none⟩) (v := .bool false) (by go_simp)
  have cX0_1 := cell_later hb (a := ⟨w1.heap.size, 1, none⟩) (v := .int .u8 2) (by go_simp)
  have cX0_2 := cell_later hb (a := ⟨w1.heap.size, 2, none⟩) (v := .int .i64 0) (by go_simp)
  have cX0_3 := cell_later hb (a := ⟨w1.heap.size, 3, none⟩) (v := .int .u64 9223372036854775808) (by go_simp)
  have cX0_4 := cell_later hb (a := ⟨w1.heap.size, 4, none⟩) (v := .int .u64 0) (by go_simp)
  have sX0 : w1.heap.size < w2.heap.size := World.block_lt_of_cell? _ _ cX0_0
  have fX0_0 := frozen_later hb (a := ⟨w1.heap.size, 0, none⟩) (v := .bool false) (by go_simp) (by go_simp)
  have fX0_1 := frozen_later hb (a := ⟨w1.heap.size, 1, none⟩) (v := .int .u8 2) (by go_simp) (by go_simp)
  have fX0_2 := frozen_later hb (a := ⟨w1.heap.size, 2, none⟩) (v := .int .i64 0) (by go_simp) (by go_simp)
  have fX0_3 := frozen_later hb (a := ⟨w1.heap.size, 3, none⟩) (v := .int .u64 9223372036854775808) (by go_simp) (by go_simp)
  have fX0_4 := frozen_later hb (a := ⟨w1.heap.size, 4, none⟩) (v := .int .u64 0) (by go_simp) (by go_simp)
  replace kk := bC kk hz
  clear hb hz
  go_wp2_with fail
  (with_reducible refine (h2.out _ (ft.later (bC kk (bA (Below.refl _ _) _)))).mono ?_); rintro e w3 ⟨rfl, hb⟩
  have hz := bC (bA (Below.refl _ _) _) hb
  have nX0_X1 : w1.heap.size < w2.heap.size := by omega
  replace fX0_0 := frozen_later hz cX0_0 fX0_0; replace fX0_1 := frozen_later hz cX0_1 fX0_1; replace fX0_2 := frozen_later hz cX0_2 fX0_2; replace fX0_3 := frozen_later hz cX0_3 fX0_3; replace fX0_4 := frozen_later hz cX0_4 fX0_4
  replace cX0_0 := cell_later hz cX0_0; replace cX0_1 := cell_later hz cX0_1; replace cX0_2 := cell_later hz cX0_2; replace cX0_3 := cell_later hz cX0_3; replace cX0_4 := cell_later hz cX0_4
  replace sX0 : w1.heap.size < w3.heap.size := World.block_lt_of_cell? _ _ cX0_0
  have cX1_0 := cell_later hb (a := ⟨w2.heap.size, 0, none⟩) (v := .bool false) (by go_simp)
  have cX1_1 := cell_later hb (a := ⟨w2.heap.size, 1, none⟩) (v := .int .u8 1) (by go_simp)
  have cX1_2 := cell_later hb (a := ⟨w2.heap.size, 2, none⟩) (v := .int .i64 (-24)) (by go_simp)
  have cX1_3 := cell_later hb (a := ⟨w2.heap.size, 3, none⟩) (v := .int .u64 9223372036854775808) (by go_simp)
  have cX1_4 := cell_later hb (a := ⟨w2.heap.size, 4, none⟩) (v := .int .u64 0) (by go_simp)
  have sX1 : w2.heap.size < w3.heap.size := World.block_lt_of_cell? _ _ cX1_0
  replace kk := bC kk hz
  clear hb hz
  go_wp2_with fail
  (with_reducible refine (h3.out _ (ft.later (bC ((kk).setCell (p := ⟨w1.heap.size, 4, none⟩) gX0 _) (bA (Below.refl _ _) _)))).mono ?_); rintro e w4 ⟨rfl, hb⟩
  have nX0_X2 : w1.heap.size < w3.heap.size := by omega
  replace kk := bC (bC (kk.setCell (p := ⟨w1.heap.size, 4, none⟩) gX0 _) (bA (Below.refl _ _) _)) hb
  have ncX0_0 := cell_later hb (a := ⟨w1.heap.size, 0, none⟩) (v := .bool false) (by go_simp)
  have ncX0_1 := cell_later hb (a := ⟨w1.heap.size, 1, none⟩) (v := .int .u8 2) (by go_simp)
  have ncX0_2 := cell_later hb (a := ⟨w1.heap.size, 2, none⟩) (v := .int .i64 0) (by go_simp)
  have ncX0_3 := cell_later hb (a := ⟨w1.heap.size, 3, none⟩) (v := .int .u64 9223372036854775808) (by go_simp)
  have ncX0_4 := cell_later hb (a := ⟨w1.heap.size, 4, none⟩) (v := .int .u64 1) (by go_simp)
  have nfX0_0 := frozen_later hb (a := ⟨w1.heap.size, 0, none⟩) (v := .bool false) (by go_simp) (by go_simp)
  have nfX0_1 := frozen_later hb (a := ⟨w1.heap.size, 1, none⟩) (v := .int .u8 2) (by go_simp) (by go_simp)
  have nfX0_2 := frozen_later hb (a := ⟨w1.heap.size, 2, none⟩) (v := .int .i64 0) (by go_simp) (by go_simp)
  have nfX0_3 := frozen_later hb (a := ⟨w1.heap.size, 3, none⟩) (v := .int .u64 9223372036854775808) (by go_simp) (by go_simp)
  have nfX0_4 := frozen_later hb (a := ⟨w1.heap.size, 4, none⟩) (v := .int .u64 1) (by go_simp) (by go_simp)
  have ncX1_0 := cell_later hb (a := ⟨w2.heap.size, 0, none⟩) (v := .bool false) (by go_simp)
  have ncX1_1 := cell_later hb (a := ⟨w2.heap.size, 1, none⟩) (v := .int .u8 1) (by go_simp)
  have ncX1_2 := cell_later hb (a := ⟨w2.heap.size, 2, none⟩) (v := .int .i64 (-24)) (by go_simp)
  have ncX1_3 := cell_later hb (a := ⟨w2.heap.size, 3, none⟩) (v := .int .u64 9223372036854775808) (by go_simp)
  have ncX1_4 := cell_later hb (a := ⟨w2.heap.size, 4, none⟩) (v := .int .u64 0) (by go_simp)
  have ncX2_0 := cell_later hb (a := ⟨w3.heap.size, 0, none⟩) (v := .int .u64 0) (by go_simp)
  have ncX2_1 := cell_later hb (a := ⟨w3.heap.size, 1, none⟩) (v := .int .u64 1) (by go_simp)
  clear cX0_0 cX0_1 cX0_2 cX0_3 cX0_4 sX0 fX0_0 fX0_1 fX0_2 fX0_3 fX0_4
  have cX0_0 := ncX0_0; clear ncX0_0
  have fX0_0 := nfX0_0; clear nfX0_0
  have cX0_1 := ncX0_1; clear ncX0_1
  have fX0_1 := nfX0_1; clear nfX0_1
  have cX0_2 := ncX0_2; clear ncX0_2
  have fX0_2 := nfX0_2; clear nfX0_2
  have cX0_3 := ncX0_3; clear ncX0_3
  have fX0_3 := nfX0_3; clear nfX0_3
  have cX0_4 := ncX0_4; clear ncX0_4
  have fX0_4 := nfX0_4; clear nfX0_4
  have sX0 : w1.heap.size < w4.heap.size := World.block_lt_of_cell? _ _ cX0_0
  clear cX1_0 cX1_1 cX1_2 cX1_3 cX1_4 sX1
  have cX1_0 := ncX1_0; clear ncX1_0
  have cX1_1 := ncX1_1; clear ncX1_1
  have cX1_2 := ncX1_2; clear ncX1_2
  have cX1_3 := ncX1_3; clear ncX1_3
  have cX1_4 := ncX1_4; clear ncX1_4
  have sX1 : w2.heap.size < w4.heap.size := World.block_lt_of_cell? _ _ cX1_0
  have cX2_0 := ncX2_0; clear ncX2_0
  have cX2_1 := ncX2_1; clear ncX2_1
  have sX2 : w3.heap.size < w4.heap.size := World.block_lt_of_cell? _ _ cX2_0
  clear hb
  go_wp2_with fail
  go_ret
  exact ⟨rfl, (bA kk _)⟩

end Go.Proofs.YtelfjbdpmiopdaaDoor
