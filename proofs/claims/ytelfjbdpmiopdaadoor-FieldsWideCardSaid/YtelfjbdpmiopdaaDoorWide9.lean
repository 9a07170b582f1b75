/-
  The walk of the statement FieldsWide.
-/
import Derived.Test.YtelfjbdpmiopdaaDoorForm7T
import Derived.Test.YtelfjbdpmiopdaaDoorGaA
import Derived.Test.YtelfjbdpmiopdaaDoorLater4
import Derived.Test.YtelfjbdpmiopdaaDoorNum9
set_option linter.unusedVariables false
set_option linter.unusedSimpArgs false
set_option maxRecDepth 100000
namespace Go.Proofs.YtelfjbdpmiopdaaDoor
open Go.RowKit
attribute [local go_sem ↓] Go.wp_at_zero Go.wp_at_succ

set_option maxHeartbeats 4000000 in
set_option maxRecDepth 100000 in
theorem wide9_great (f bh bl : Int)
    (h1 : Hid (∀ w, FTab w → Calls Tryd.prog 12 #[] w fun e w' => e = .returned (.bool true) ∧ Below w.heap.size w w')) (g : decide (2 < f) = true) (w : World) (ft : FTab w) :
    Calls Tryd.prog 8 #[.int .u8 f, .agg #[.int .u64 bh, .int .u64 bl]] w fun e w' => e = .returned (.bool true) ∧ Below w.heap.size w w' := by
  go_enter Tryd.func8, Tryd.ntmps8
  go_wp2_with fail
  (with_reducible refine (h1.out _ (ft.later (bA (Below.refl _ _) _))).mono ?_); rintro e w1 ⟨rfl, hb⟩
  have hz := bC (bA (Below.refl _ _) _) hb
  have kk := hz
  clear hb hz
  go_wp2_with fail
  go_ret
  exact ⟨rfl, kk⟩

set_option maxHeartbeats 4000000 in
set_option maxRecDepth 100000 in
theorem wide9_not (f bh bl : Int)
    (h0 : Hid (∀ w, FTab w → Calls Tryd.prog 18 #[.int .u8 f, .agg #[.int .u64 bh, .int .u64 bl]] w fun e w' => e = .returned (.bool false) ∧ Below w.heap.size w w'))
    (h1 : Hid (∀ w, FTab w → Calls Tryd.prog 12 #[] w fun e w' => e = .returned (.bool true) ∧ Below w.heap.size w w')) (g : decide (2 < f) = false) (w : World) (ft : FTab w) :
    Calls Tryd.prog 8 #[.int .u8 f, .agg #[.int .u64 bh, .int .u64 bl]] w fun e w' => e = .returned (.bool true) ∧ Below w.heap.size w w' := by
  go_enter Tryd.func8, Tryd.ntmps8
  go_wp2_with fail
  (with_reducible refine (h0.out _ (ft.later (bA (Below.refl _ _) _))).mono ?_); rintro e w1 ⟨rfl, hb⟩
  have hz := bC (bA (Below.refl _ _) _) hb
  have kk := hz
  clear hb hz
  go_wp2_with fail
  (with_reducible refine (h1.out _ (ft.later kk)).mono ?_); rintro e w2 ⟨rfl, hb⟩
  replace kk := bC kk hb
  clear hb
  go_wp2_with fail
  go_ret
  exact ⟨rfl, kk⟩

set_option maxHeartbeats 4000000 in
set_option maxRecDepth 100000 in
theorem wide9_zero (f f1 bh bl ue uh ul ch cl : Int) (ug : Bool)
    (h0 : Hid (∀ w, FTab w → Calls Tryd.prog 18 #[.int .u8 f, .agg #[.int .u64 bh, .int .u64 bl]] w fun e w' => e = .returned (.bool true) ∧ Below w.heap.size w w'))
    (h1 : Hid (∀ w, FTab w → Calls Tryd.prog 10 #[.int .u8 f, .agg #[.int .u64 bh, .int .u64 bl]] w fun e w' => e = .returned (.agg #[.bool ug, .int .u8 0, .int .i64 ue, .int .u64 uh, .int .u64 ul]) ∧ Below w.heap.size w w'))
    (h2 : Hid (∀ w, FTab w → Calls Tryd.prog 13 #[.int .u8 f1, .agg #[.bool ug, .int .u8 0, .int .i64 ue, .int .u64 uh, .int .u64 ul]] w fun e w' => e = .returned (.tuple #[.agg #[.int .u64 ch, .int .u64 cl], .bool true]) ∧ Below w.heap.size w w'))
    (h3 : Hid (∀ w, FTab w → Calls Tryd.prog 10 #[.int .u8 f1, .agg #[.int .u64 ch, .int .u64 cl]] w fun e w' => e = .returned (.agg #[.bool ug, .int .u8 0, .int .i64 ue, .int .u64 uh, .int .u64 ul]) ∧ Below w.heap.size w w'))
    (h4 : Hid (∀ w, FTab w → Calls Tryd.prog 12 #[] w fun e w' => e = .returned (.bool true) ∧ Below w.heap.size w w')) (g : decide (2 < f) = false) (w1 : IntKind.u8.wrap (f + 1) = f1) (w : World) (ft : FTab w) :
    Calls Tryd.prog 8 #[.int .u8 f, .agg #[.int .u64 bh, .int .u64 bl]] w fun e w' => e = .returned (.bool true) ∧ Below w.heap.size w w' := by
  have EQ := eqn_same ug 0 ue uh ul
  go_enter Tryd.func8, Tryd.ntmps8
  go_wp2_with fail
  (with_reducible refine (h0.out _ (ft.later (bA (Below.refl _ _) _))).mono ?_); rintro e w1 ⟨rfl, hb⟩
  have hz := bC (bA (Below.refl _ _) _) hb
  have cX0_0 := cell_later hb (a := ⟨w.heap.size, 0, none⟩) (v := .int .u64 bh) (by go_simp)
  have cX0_1 := cell_later hb (a := ⟨w.heap.size, 1, none⟩) (v := .int .u64 bl) (by go_simp)
  have sX0 : w.heap.size < w1.heap.size := World.block_lt_of_cell? _ _ cX0_0
  have kk := hz
  clear hb hz
  go_wp2_with fail
  (with_reducible refine (h1.out _ (ft.later kk)).mono ?_); rintro e w2 ⟨rfl, hb⟩
  clear cX0_0 cX0_1 sX0
  replace kk := bC kk hb
  clear hb
  go_wp2_with fail
  (with_reducible refine (h2.out _ (ft.later (bC kk (bA (Below.refl _ _) _)))).mono ?_); rintro e w3 ⟨rfl, hb⟩
  have hz := bC (bA (Below.refl _ _) _) hb
  have cX1_0 := cell_later hb (a := ⟨w2.heap.size, 0, none⟩) (v := .bool ug) (by go_simp)
  have cX1_1 := cell_later hb (a := ⟨w2.heap.size, 1, none⟩) (v := .int .u8 0) (by go_simp)
  have cX1_2 := cell_later hb (a := ⟨w2.heap.size, 2, none⟩) (v := .int .i64 ue) (by go_simp)
  have cX1_3 := cell_later hb (a := ⟨w2.heap.size, 3, none⟩) (v := .int .u64 uh) (by go_simp)
  have cX1_4 := cell_later hb (a := ⟨w2.heap.size, 4, none⟩) (v := .int .u64 ul) (by go_simp)
  have sX1 : w2.heap.size < w3.heap.size := World.block_lt_of_cell? _ _ cX1_0
  replace kk := bC kk hz
  clear hb hz
  go_wp2_with fail
  (with_reducible refine (h3.out _ (ft.later (bC kk (bA (Below.refl _ _) _)))).mono ?_); rintro e w4 ⟨rfl, hb⟩
  have hz := bC (bA (Below.refl _ _) _) hb
  replace cX1_0 := cell_later hz cX1_0; replace cX1_1 := cell_later hz cX1_1; replace cX1_2 := cell_later hz cX1_2; replace cX1_3 := cell_later hz cX1_3; replace cX1_4 := cell_later hz cX1_4
  replace sX1 : w2.heap.size < w4.heap.size := World.block_lt_of_cell? _ _ cX1_0
  replace kk := bC kk hz
  clear hb hz
  go_wp2_with fail
  (with_reducible refine (h4.out _ (ft.later (bC kk (bA (Below.refl _ _) _)))).mono ?_); rintro e w5 ⟨rfl, hb⟩
  have hz := bC (bA (Below.refl _ _) _) hb
  clear cX1_0 cX1_1 cX1_2 cX1_3 cX1_4 sX1
  replace kk := bC kk hz
  clear hb hz
  go_wp2_with fail
  go_ret
  exact ⟨rfl, kk⟩

set_option maxHeartbeats 4000000 in
set_option maxRecDepth 100000 in
theorem wide9_num (f f1 bh bl uc ue uh ul ch cl : Int) (ug : Bool)
    (h0 : Hid (∀ w, FTab w → Calls Tryd.prog 18 #[.int .u8 f, .agg #[.int .u64 bh, .int .u64 bl]] w fun e w' => e = .returned (.bool true) ∧ Below w.heap.size w w'))
    (h1 : Hid (∀ w, FTab w → Calls Tryd.prog 10 #[.int .u8 f, .agg #[.int .u64 bh, .int .u64 bl]] w fun e w' => e = .returned (.agg #[.bool ug, .int .u8 uc, .int .i64 ue, .int .u64 uh, .int .u64 ul]) ∧ Below w.heap.size w w'))
    (h2 : Hid (∀ w, FTab w → Calls Tryd.prog 13 #[.int .u8 f1, .agg #[.bool ug, .int .u8 uc, .int .i64 ue, .int .u64 uh, .int .u64 ul]] w fun e w' => e = .returned (.tuple #[.agg #[.int .u64 ch, .int .u64 cl], .bool true]) ∧ Below w.heap.size w w'))
    (h3 : Hid (∀ w, FTab w → Calls Tryd.prog 10 #[.int .u8 f1, .agg #[.int .u64 ch, .int .u64 cl]] w fun e w' => e = .returned (.agg #[.bool ug, .int .u8 2, .int .i64 ue, .int .u64 uh, .int .u64 ul]) ∧ Below w.heap.size w w'))
    (h4 : Hid (∀ w, FTab w → Calls Tryd.prog 12 #[] w fun e w' => e = .returned (.bool true) ∧ Below w.heap.size w w')) (g : decide (2 < f) = false) (w1 : IntKind.u8.wrap (f + 1) = f1) (c0 : (uc == 0) = false) (w : World) (ft : FTab w) :
    Calls Tryd.prog 8 #[.int .u8 f, .agg #[.int .u64 bh, .int .u64 bl]] w fun e w' => e = .returned (.bool true) ∧ Below w.heap.size w w' := by
  go_enter Tryd.func8, Tryd.ntmps8
  go_wp2_with fail
  (with_reducible refine (h0.out _ (ft.later (bA (Below.refl _ _) _))).mono ?_); rintro e w1 ⟨rfl, hb⟩
  have hz := bC (bA (Below.refl _ _) _) hb
  have cX0_0 := cell_later hb (a := ⟨w.heap.size, 0, none⟩) (v := .int .u64 bh) (by go_simp)
  have cX0_1 := cell_later hb (a := ⟨w.heap.size, 1, none⟩) (v := .int .u64 bl) (by go_simp)
  have sX0 : w.heap.size < w1.heap.size := World.block_lt_of_cell? _ _ cX0_0
  have kk := hz
  clear hb hz
  go_wp2_with fail
  (with_reducible refine (h1.out _ (ft.later kk)).mono ?_); rintro e w2 ⟨rfl, hb⟩
  clear cX0_0 cX0_1 sX0
  replace kk := bC kk hb
  clear hb
  go_wp2_with fail
  (with_reducible refine (h2.out _ (ft.later (bC kk (bA (Below.refl _ _) _)))).mono ?_); rintro e w3 ⟨rfl, hb⟩
  have hz := bC (bA (Below.refl _ _) _) hb
  have cX1_0 := cell_later hb (a := ⟨w2.heap.size, 0, none⟩) (v := .bool ug) (by go_simp)
  have cX1_1 := cell_later hb (a := ⟨w2.heap.size, 1, none⟩) (v := .int .u8 uc) (by go_simp)
  have cX1_2 := cell_later hb (a := ⟨w2.heap.size, 2, none⟩) (v := .int .i64 ue) (by go_simp)
  have cX1_3 := cell_later hb (a := ⟨w2.heap.size, 3, none⟩) (v := .int .u64 uh) (by go_simp)
  have cX1_4 := cell_later hb (a := ⟨w2.heap.size, 4, none⟩) (v := .int .u64 ul) (by go_simp)
  have sX1 : w2.heap.size < w3.heap.size := World.block_lt_of_cell? _ _ cX1_0
  replace kk := bC kk hz
  clear hb hz
  go_wp2_with fail
  (with_reducible refine (h3.out _ (ft.later (bC kk (bA (Below.refl _ _) _)))).mono ?_); rintro e w4 ⟨rfl, hb⟩
  have hz := bC (bA (Below.refl _ _) _) hb
  replace cX1_0 := cell_later hz cX1_0; replace cX1_1 := cell_later hz cX1_1; replace cX1_2 := cell_later hz cX1_2; replace cX1_3 := cell_later hz cX1_3; replace cX1_4 := cell_later hz cX1_4
  replace sX1 : w2.heap.size < w4.heap.size := World.block_lt_of_cell? _ _ cX1_0
  replace kk := bC kk hz
  clear hb hz
  go_wp2_with fail
  (with_reducible refine (h4.out _ (ft.later (bC kk (bA (Below.refl _ _) _)))).mono ?_); rintro e w5 ⟨rfl, hb⟩
  have hz := bC (bA (Below.refl _ _) _) hb
  clear cX1_0 cX1_1 cX1_2 cX1_3 cX1_4 sX1
  replace kk := bC kk hz
  clear hb hz
  go_wp2_with fail
  go_ret
  exact ⟨rfl, kk⟩



end Go.Proofs.YtelfjbdpmiopdaaDoor
