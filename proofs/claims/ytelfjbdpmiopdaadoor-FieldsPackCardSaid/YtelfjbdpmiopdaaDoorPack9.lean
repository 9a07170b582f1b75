/-
  The walk of the statement FieldsPack.
-/
import Derived.Test.YtelfjbdpmiopdaaDoorForm7T
import Derived.Test.YtelfjbdpmiopdaaDoorGaA
import Derived.Test.YtelfjbdpmiopdaaDoorLater4
import Derived.Test.YtelfjbdpmiopdaaDoorNum9
set_option linter.unusedVariables false
set_option linter.unusedSimpArgs false
set_option maxRecDepth 100000
namespace Go.Proofs.YtelfjbdpmiopdaaDoor
open Go.RowKit
attribute [local go_sem ↓] Go.wp_at_zero Go.wp_at_succ

set_option maxHeartbeats 4000000 in
set_option maxRecDepth 100000 in
theorem pack9_core (f nc ne nh nl dh dl : Int) (ng ok : Bool)
    (h0 : Hid (∀ w, FTab w → Calls Tryd.prog 13 #[.int .u8 f, .agg #[.bool ng, .int .u8 nc, .int .i64 ne, .int .u64 nh, .int .u64 nl]] w fun e w' => e = .returned (.tuple #[.agg #[.int .u64 dh, .int .u64 dl], .bool ok]) ∧ Below w.heap.size w w'))
    (h1 : Hid (∀ w, Calls Tryd.prog 14 #[.int .u8 f, .agg #[.bool ng, .int .u8 nc, .int .i64 ne, .int .u64 nh, .int .u64 nl]] w fun e w' => e = .returned (.tuple #[.agg #[.int .u64 dh, .int .u64 dl], .bool ok]) ∧ Below w.heap.size w w'))
    (h2 : Hid (∀ w, FTab w → Calls Tryd.prog 12 #[] w fun e w' => e = .returned (.bool true) ∧ Below w.heap.size w w')) (w : World) (ft : FTab w) :
    Calls Tryd.prog 4 #[.int .u8 f, .agg #[.bool ng, .int .u8 nc, .int .i64 ne, .int .u64 nh, .int .u64 nl]] w fun e w' => e = .returned (.bool true) ∧ Below w.heap.size w w' := by
  go_enter Tryd.func4, Tryd.ntmps4
  go_wp2_with fail
  (with_reducible refine (h0.out _ (ft.later (bA (Below.refl _ _) _))).mono ?_); rintro e w1 ⟨rfl, hb⟩
  have hz := bC (bA (Below.refl _ _) _) hb
  have cX0_0 := cell_later hb (a := ⟨w.heap.size, 0, none⟩) (v := .bool ng) (by go_simp)
  have cX0_1 := cell_later hb (a := ⟨w.heap.size, 1, none⟩) (v := .int .u8 nc) (by go_simp)
  have cX0_2 := cell_later hb (a := ⟨w.heap.size, 2, none⟩) (v := .int .i64 ne) (by go_simp)
  have cX0_3 := cell_later hb (a := ⟨w.heap.size, 3, none⟩) (v := .int .u64 nh) (by go_simp)
  have cX0_4 := cell_later hb (a := ⟨w.heap.size, 4, none⟩) (v := .int .u64 nl) (by go_simp)
  have sX0 : w.heap.size < w1.heap.size := World.block_lt_of_cell? _ _ cX0_0
  have kk := hz
  clear hb hz
  go_wp2_with fail
  (with_reducible refine (h1.out _).mono ?_); rintro e w2 ⟨rfl, hb⟩
  have hz := bC (bA (Below.refl _ _) _) hb
  clear cX0_0 cX0_1 cX0_2 cX0_3 cX0_4 sX0
  have cX1_0 := cell_later hb (a := ⟨w1.heap.size, 0, none⟩) (v := .int .u64 dh) (by go_simp)
  have cX1_1 := cell_later hb (a := ⟨w1.heap.size, 1, none⟩) (v := .int .u64 dl) (by go_simp)
  have sX1 : w1.heap.size < w2.heap.size := World.block_lt_of_cell? _ _ cX1_0
  replace kk := bC kk hz
  clear hb hz
  go_wp2_with fail
  (with_reducible refine (h2.out _ (ft.later (bC kk (bA (Below.refl _ _) _)))).mono ?_); rintro e w3 ⟨rfl, hb⟩
  have hz := bC (bA (Below.refl _ _) _) hb
  clear cX1_0 cX1_1 sX1
  replace kk := bC kk hz
  clear hb hz
  go_wp2_with fail
  go_ret
  exact ⟨rfl, kk⟩

end Go.Proofs.YtelfjbdpmiopdaaDoor
