/-
  The walk of the statement PayloadKnown.
-/
import Derived.Test.YthnikhhgnogibaaDoorGfA
import Derived.Test.YthnikhhgnogibaaDoorGaA
import Derived.Test.YthnikhhgnogibaaDoorGdA
import Derived.Test.YthnikhhgnogibaaDoorRef11
set_option linter.unusedVariables false
set_option linter.unusedSimpArgs false
set_option maxRecDepth 100000
namespace Go.Proofs.YthnikhhgnogibaaDoor
open Go.RowKit
attribute [local go_sem ↓] Go.wp_at_zero Go.wp_at_succ

set_option maxHeartbeats 4000000 in
set_option maxRecDepth 100000 in
theorem known11_core 
    (h0 : Hid (∀ w, FTab w → Calls Tryd.prog 8 #[.int .u8 1, .int .u8 0, .agg #[.int .u64 0, .int .u64 2143297536]] w fun e w' => e = .returned (.tuple #[.agg #[.int .u64 0, .int .u64 32257, .int .u8 0], .bool true]) ∧ Below w.heap.size w w'))
    (h1 : Hid (∀ w, FTab w → Calls Tryd.prog 8 #[.int .u8 2, .int .u8 3, .agg #[.int .u64 0, .int .u64 18442240474082181121]] w fun e w' => e = .returned (.tuple #[.agg #[.int .u64 18446603336221196288, .int .u64 1152921504606846976, .int .u8 1], .bool true]) ∧ Below w.heap.size w w'))
    (h2 : Hid (∀ w, FTab w → Calls Tryd.prog 8 #[.int .u8 3, .int .u8 0, .agg #[.int .u64 9223372036854775807, .int .u64 18446744073709551615]] w fun e w' => e = .returned (.tuple #[.agg #[.int .u64 0, .int .u64 32767, .int .u8 0], .bool true]) ∧ Below w.heap.size w w'))
    (h3 : Hid (∀ w, FTab w → Calls Tryd.prog 8 #[.int .u8 4, .int .u8 0, .agg #[.int .u64 0, .int .u64 32256]] w fun e w' => e = .returned (.tuple #[.agg #[.int .u64 0, .int .u64 0, .int .u8 0], .bool false]) ∧ Below w.heap.size w w'))
    (h4 : Hid (∀ w, FTab w → Calls Tryd.prog 8 #[.int .u8 0, .int .u8 4, .agg #[.int .u64 0, .int .u64 32256]] w fun e w' => e = .returned (.tuple #[.agg #[.int .u64 0, .int .u64 0, .int .u8 0], .bool false]) ∧ Below w.heap.size w w'))
    (h5 : Hid (∀ w, FTab w → Calls Tryd.prog 10 #[] w fun e w' => e = .returned (.bool true) ∧ Below w.heap.size w w')) (w : World) (ft : FTab w) :
    Calls Tryd.prog 7 #[] w fun e w' => e = .returned (.bool true) ∧ Below w.heap.size w w' := by
  go_enter Tryd.func7, Tryd.ntmps7
  go_wp2_with fail
  (with_reducible refine (h0.out _ (ft.later (Below.refl _ _))).mono ?_); rintro e w1 ⟨rfl, hb⟩
  have kk := hb
  clear hb
  go_wp2_with fail
  (with_reducible refine (h1.out _ (ft.later (bC kk (bA (Below.refl _ _) _)))).mono ?_); rintro e w2 ⟨rfl, hb⟩
  have hz := bC (bA (Below.refl _ _) _) hb
  have cX0_0 := cell_later hb (a := ⟨w1.heap.size, 0, none⟩) (v := .int .u64 0) (by go_simp)
  have cX0_1 := cell_later hb (a := ⟨w1.heap.size, 1, none⟩) (v := .int .u64 32257) (by go_simp)
  have cX0_2 := cell_later hb (a := ⟨w1.heap.size, 2, none⟩) (v := .int .u8 0) (by go_simp)
  have sX0 : w1.heap.size < w2.heap.size := World.block_lt_of_cell? _ _ cX0_0
  replace kk := bC kk hz
  clear hb hz
  go_wp2_with fail
  (with_reducible refine (h2.out _ (ft.later (bC kk (bA (Below.refl _ _) _)))).mono ?_); rintro e w3 ⟨rfl, hb⟩
  have hz := bC (bA (Below.refl _ _) _) hb
  replace cX0_0 := cell_later hz cX0_0; replace cX0_1 := cell_later hz cX0_1; replace cX0_2 := cell_later hz cX0_2
  replace sX0 : w1.heap.size < w3.heap.size := World.block_lt_of_cell? _ _ cX0_0
  have cX1_0 := cell_later hb (a := ⟨w2.heap.size, 0, none⟩) (v := .int .u64 18446603336221196288) (by go_simp)
  have cX1_1 := cell_later hb (a := ⟨w2.heap.size, 1, none⟩) (v := .int .u64 1152921504606846976) (by go_simp)
  have cX1_2 := cell_later hb (a := ⟨w2.heap.size, 2, none⟩) (v := .int .u8 1) (by go_simp)
  have sX1 : w2.heap.size < w3.heap.size := World.block_lt_of_cell? _ _ cX1_0
  replace kk := bC kk hz
  clear hb hz
  go_wp2_with fail
  (with_reducible refine (h3.out _ (ft.later (bC kk (bA (Below.refl _ _) _)))).mono ?_); rintro e w4 ⟨rfl, hb⟩
  have hz := bC (bA (Below.refl _ _) _) hb
  replace cX0_0 := cell_later hz cX0_0; replace cX0_1 := cell_later hz cX0_1; replace cX0_2 := cell_later hz cX0_2
  replace sX0 : w1.heap.size < w4.heap.size := World.block_lt_of_cell? _ _ cX0_0
  replace cX1_0 := cell_later hz cX1_0; replace cX1_1 := cell_later hz cX1_1; replace cX1_2 := cell_later hz cX1_2
  replace sX1 : w2.heap.size < w4.heap.size := World.block_lt_of_cell? _ _ cX1_0
  have cX2_0 := cell_later hb (a := ⟨w3.heap.size, 0, none⟩) (v := .int .u64 0) (by go_simp)
  have cX2_1 := cell_later hb (a := ⟨w3.heap.size, 1, none⟩) (v := .int .u64 32767) (by go_simp)
  have cX2_2 := cell_later hb (a := ⟨w3.heap.size, 2, none⟩) (v := .int .u8 0) (by go_simp)
  have sX2 : w3.heap.size < w4.heap.size := World.block_lt_of_cell? _ _ cX2_0
  replace kk := bC kk hz
  clear hb hz
  go_wp2_with fail
  (with_reducible refine (h4.out _ (ft.later (bC kk (bA (Below.refl _ _) _)))).mono ?_); rintro e w5 ⟨rfl, hb⟩
  have hz := bC (bA (Below.refl _ _) _) hb
  replace cX0_0 := cell_later hz cX0_0; replace cX0_1 := cell_later hz cX0_1; replace cX0_2 := cell_later hz cX0_2
  replace sX0 : w1.heap.size < w5.heap.size := World.block_lt_of_cell? _ _ cX0_0
  replace cX1_0 := cell_later hz cX1_0; replace cX1_1 := cell_later hz cX1_1; replace cX1_2 := cell_later hz cX1_2
  replace sX1 : w2.heap.size < w5.heap.size := World.block_lt_of_cell? _ _ cX1_0
  replace cX2_0 := cell_later hz cX2_0; replace cX2_1 := cell_later hz cX2_1; replace cX2_2 := cell_later hz cX2_2
  replace sX2 : w3.heap.size < w5.heap.size := World.block_lt_of_cell? _ _ cX2_0
  replace kk := bC kk hz
  clear hb hz
  go_wp2_with fail
  (with_reducible refine (h5.out _ (ft.later (bC kk (bA (Below.refl _ _) _)))).mono ?_); rintro e w6 ⟨rfl, hb⟩
  have hz := bC (bA (Below.refl _ _) _) hb
  clear cX0_0 cX0_1 cX0_2 sX0
  clear cX1_0 cX1_1 cX1_2 sX1
  clear cX2_0 cX2_1 cX2_2 sX2
  replace kk := bC kk hz
  clear hb hz
  go_wp2_with fail
  go_ret
  exact ⟨rfl, kk⟩

end Go.Proofs.YthnikhhgnogibaaDoor
