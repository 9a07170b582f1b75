/-
  The walk of the example that every statement of stage 11 asks.
-/
import Derived.Test.YthnikhhgnogibaaDoorGfA
import Derived.Test.YthnikhhgnogibaaDoorGaA
import Derived.Test.YthnikhhgnogibaaDoorGdA
import Derived.Test.YthnikhhgnogibaaDoorRef11
set_option linter.unusedVariables false
set_option linter.unusedSimpArgs false
set_option maxRecDepth 100000
namespace Go.Proofs.YthnikhhgnogibaaDoor
open Go.RowKit
attribute [local go_sem ↓] Go.wp_at_zero Go.wp_at_succ

set_option maxHeartbeats 4000000 in
set_option maxRecDepth 100000 in
theorem goes11_core 
    (h0 : Hid (∀ w, FTab w → Calls Tryd.prog 8 #[.int .u8 0, .int .u8 1, .agg #[.int .u64 0, .int .u64 32257]] w fun e w' => e = .returned (.tuple #[.agg #[.int .u64 0, .int .u64 2143297536, .int .u8 0], .bool true]) ∧ Below w.heap.size w w'))
    (h1 : Hid (∀ w, FTab w → Calls Tryd.prog 8 #[.int .u8 1, .int .u8 0, .agg #[.int .u64 0, .int .u64 4286578689]] w fun e w' => e = .returned (.tuple #[.agg #[.int .u64 0, .int .u64 65024, .int .u8 1], .bool true]) ∧ Below w.heap.size w w'))
    (h2 : Hid (∀ w, FTab w → Calls Tryd.prog 8 #[.int .u8 0, .int .u8 1, .agg #[.int .u64 0, .int .u64 15360]] w fun e w' => e = .returned (.tuple #[.agg #[.int .u64 0, .int .u64 0, .int .u8 0], .bool false]) ∧ Below w.heap.size w w')) (w : World) (ft : FTab w) :
    Calls Tryd.prog 10 #[] w fun e w' => e = .returned (.bool true) ∧ Below w.heap.size w w' := by
  go_enter Tryd.func10, Tryd.ntmps10
  go_wp2_with fail
  (with_reducible refine (h0.out _ (ft.later (Below.refl _ _))).mono ?_); rintro e w1 ⟨rfl, hb⟩
  have kk := hb
  clear hb
  go_wp2_with fail
  (with_reducible refine (h1.out _ (ft.later (bC kk (bA (Below.refl _ _) _)))).mono ?_); rintro e w2 ⟨rfl, hb⟩
  have hz := bC (bA (Below.refl _ _) _) hb
  have cX0_0 := cell_later hb (a := ⟨w1.heap.size, 0, none⟩) (v := .int .u64 0) (by go_simp)
  have cX0_1 := cell_later hb (a := ⟨w1.heap.size, 1, none⟩) (v := .int .u64 2143297536) (by go_simp)
  have cX0_2 := cell_later hb (a := ⟨w1.heap.size, 2, none⟩) (v := .int .u8 0) (by go_simp)
  have sX0 : w1.heap.size < w2.heap.size := World.block_lt_of_cell? _ _ cX0_0
  replace kk := bC kk hz
  clear hb hz
  go_wp2_with fail
  (with_reducible refine (h2.out _ (ft.later (bC kk (bA (Below.refl _ _) _)))).mono ?_); rintro e w3 ⟨rfl, hb⟩
  have hz := bC (bA (Below.refl _ _) _) hb
  replace cX0_0 := cell_later hz cX0_0; replace cX0_1 := cell_later hz cX0_1; replace cX0_2 := cell_later hz cX0_2
  replace sX0 : w1.heap.size < w3.heap.size := World.block_lt_of_cell? _ _ cX0_0
  have cX1_0 := cell_later hb (a := ⟨w2.heap.size, 0, none⟩) (v := .int .u64 0) (by go_simp)
  have cX1_1 := cell_later hb (a := ⟨w2.heap.size, 1, none⟩) (v := .int .u64 65024) (by go_simp)
  have cX1_2 := cell_later hb (a := ⟨w2.heap.size, 2, none⟩) (v := .int .u8 1) (by go_simp)
  have sX1 : w2.heap.size < w3.heap.size := World.block_lt_of_cell? _ _ cX1_0
  replace kk := bC kk hz
  clear hb hz
  go_wp2_with fail
  go_ret
  exact ⟨rfl, (bA kk _)⟩

end Go.Proofs.YthnikhhgnogibaaDoor
