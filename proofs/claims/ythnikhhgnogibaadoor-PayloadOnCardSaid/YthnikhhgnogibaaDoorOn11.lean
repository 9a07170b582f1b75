/-
  The walk of the statement PayloadOn.
-/
import Derived.Test.YthnikhhgnogibaaDoorGfA
import Derived.Test.YthnikhhgnogibaaDoorGaA
import Derived.Test.YthnikhhgnogibaaDoorGdA
import Derived.Test.YthnikhhgnogibaaDoorRef11
set_option linter.unusedVariables false
set_option linter.unusedSimpArgs false
set_option maxRecDepth 100000
namespace Go.Proofs.YthnikhhgnogibaaDoor
open Go.RowKit
attribute [local go_sem ↓] Go.wp_at_zero Go.wp_at_succ

set_option maxHeartbeats 4000000 in
set_option maxRecDepth 100000 in
theorem on11_k1 (bh bl f y t : Int)
    (h0 : Hid (∀ w, FTab w → Calls Tryd.prog 12 #[.int .u8 f] w fun e w' => e = .returned (.bool false) ∧ Below w.heap.size w w'))
    (h4 : Hid (∀ w, FTab w → Calls Tryd.prog 10 #[] w fun e w' => e = .returned (.bool true) ∧ Below w.heap.size w w')) (w : World) (ft : FTab w) :
    Calls Tryd.prog 5 #[.agg #[.int .u64 bh, .int .u64 bl], .int .u8 f, .int .u8 y, .int .u8 t] w fun e w' => e = .returned (.bool true) ∧ Below w.heap.size w w' := by
  go_enter Tryd.func5, Tryd.ntmps5
  go_wp2_with fail
  (with_reducible refine (h0.out _ (ft.later (bA (Below.refl _ _) _))).mono ?_); rintro e w1 ⟨rfl, hb⟩
  have hz := bC (bA (Below.refl _ _) _) hb
  have cX0_0 := cell_later hb (a := ⟨w.heap.size, 0, none⟩) (v := .int .u64 bh) (by go_simp)
  have cX0_1 := cell_later hb (a := ⟨w.heap.size, 1, none⟩) (v := .int .u64 bl) (by go_simp)
  have sX0 : w.heap.size < w1.heap.size := World.block_lt_of_cell? _ _ cX0_0
  have kk := hz
  clear hb hz
  go_wp2_with fail
  (with_reducible refine (h4.out _ (ft.later kk)).mono ?_); rintro e w2 ⟨rfl, hb⟩
  clear cX0_0 cX0_1 sX0
  replace kk := bC kk hb
  clear hb
  go_wp2_with fail
  go_ret
  exact ⟨rfl, kk⟩

set_option maxHeartbeats 4000000 in
set_option maxRecDepth 100000 in
theorem on11_k2 (bh bl f y t : Int)
    (h0 : Hid (∀ w, FTab w → Calls Tryd.prog 12 #[.int .u8 f] w fun e w' => e = .returned (.bool true) ∧ Below w.heap.size w w'))
    (h1 : Hid (∀ w, FTab w → Calls Tryd.prog 12 #[.int .u8 y] w fun e w' => e = .returned (.bool false) ∧ Below w.heap.size w w'))
    (h4 : Hid (∀ w, FTab w → Calls Tryd.prog 10 #[] w fun e w' => e = .returned (.bool true) ∧ Below w.heap.size w w')) (w : World) (ft : FTab w) :
    Calls Tryd.prog 5 #[.agg #[.int .u64 bh, .int .u64 bl], .int .u8 f, .int .u8 y, .int .u8 t] w fun e w' => e = .returned (.bool true) ∧ Below w.heap.size w w' := by
  go_enter Tryd.func5, Tryd.ntmps5
  go_wp2_with fail
  (with_reducible refine (h0.out _ (ft.later (bA (Below.refl _ _) _))).mono ?_); rintro e w1 ⟨rfl, hb⟩
  have hz := bC (bA (Below.refl _ _) _) hb
  have cX0_0 := cell_later hb (a := ⟨w.heap.size, 0, none⟩) (v := .int .u64 bh) (by go_simp)
  have cX0_1 := cell_later hb (a := ⟨w.heap.size, 1, none⟩) (v := .int .u64 bl) (by go_simp)
  have sX0 : w.heap.size < w1.heap.size := World.block_lt_of_cell? _ _ cX0_0
  have kk := hz
  clear hb hz
  go_wp2_with fail
  (with_reducible refine (h1.out _ (ft.later kk)).mono ?_); rintro e w2 ⟨rfl, hb⟩
  replace cX0_0 := cell_later hb cX0_0; replace cX0_1 := cell_later hb cX0_1
  replace sX0 : w.heap.size < w2.heap.size := World.block_lt_of_cell? _ _ cX0_0
  replace kk := bC kk hb
  clear hb
  go_wp2_with fail
  (with_reducible refine (h4.out _ (ft.later kk)).mono ?_); rintro e w3 ⟨rfl, hb⟩
  clear cX0_0 cX0_1 sX0
  replace kk := bC kk hb
  clear hb
  go_wp2_with fail
  go_ret
  exact ⟨rfl, kk⟩

set_option maxHeartbeats 4000000 in
set_option maxRecDepth 100000 in
theorem on11_k3 (bh bl f y t : Int)
    (h0 : Hid (∀ w, FTab w → Calls Tryd.prog 12 #[.int .u8 f] w fun e w' => e = .returned (.bool true) ∧ Below w.heap.size w w'))
    (h1 : Hid (∀ w, FTab w → Calls Tryd.prog 12 #[.int .u8 y] w fun e w' => e = .returned (.bool true) ∧ Below w.heap.size w w'))
    (h2 : Hid (∀ w, FTab w → Calls Tryd.prog 12 #[.int .u8 t] w fun e w' => e = .returned (.bool false) ∧ Below w.heap.size w w'))
    (h4 : Hid (∀ w, FTab w → Calls Tryd.prog 10 #[] w fun e w' => e = .returned (.bool true) ∧ Below w.heap.size w w')) (w : World) (ft : FTab w) :
    Calls Tryd.prog 5 #[.agg #[.int .u64 bh, .int .u64 bl], .int .u8 f, .int .u8 y, .int .u8 t] w fun e w' => e = .returned (.bool true) ∧ Below w.heap.size w w' := by
  go_enter Tryd.func5, Tryd.ntmps5
  go_wp2_with fail
  (with_reducible refine (h0.out _ (ft.later (bA (Below.refl _ _) _))).mono ?_); rintro e w1 ⟨rfl, hb⟩
  have hz := bC (bA (Below.refl _ _) _) hb
  have cX0_0 := cell_later hb (a := ⟨w.heap.size, 0, none⟩) (v := .int .u64 bh) (by go_simp)
  have cX0_1 := cell_later hb (a := ⟨w.heap.size, 1, none⟩) (v := .int .u64 bl) (by go_simp)
  have sX0 : w.heap.size < w1.heap.size := World.block_lt_of_cell? _ _ cX0_0
  have kk := hz
  clear hb hz
  go_wp2_with fail
  (with_reducible refine (h1.out _ (ft.later kk)).mono ?_); rintro e w2 ⟨rfl, hb⟩
  replace cX0_0 := cell_later hb cX0_0; replace cX0_1 := cell_later hb cX0_1
  replace sX0 : w.heap.size < w2.heap.size := World.block_lt_of_cell? _ _ cX0_0
  replace kk := bC kk hb
  clear hb
  go_wp2_with fail
  (with_reducible refine (h2.out _ (ft.later kk)).mono ?_); rintro e w3 ⟨rfl, hb⟩
  replace cX0_0 := cell_later hb cX0_0; replace cX0_1 := cell_later hb cX0_1
  replace sX0 : w.heap.size < w3.heap.size := World.block_lt_of_cell? _ _ cX0_0
  replace kk := bC kk hb
  clear hb
  go_wp2_with fail
  (with_reducible refine (h4.out _ (ft.later kk)).mono ?_); rintro e w4 ⟨rfl, hb⟩
  clear cX0_0 cX0_1 sX0
  replace kk := bC kk hb
  clear hb
  go_wp2_with fail
  go_ret
  exact ⟨rfl, kk⟩

set_option maxHeartbeats 4000000 in
set_option maxRecDepth 100000 in
theorem on11_k4 (bh bl f y t : Int)
    (h0 : Hid (∀ w, FTab w → Calls Tryd.prog 12 #[.int .u8 f] w fun e w' => e = .returned (.bool true) ∧ Below w.heap.size w w'))
    (h1 : Hid (∀ w, FTab w → Calls Tryd.prog 12 #[.int .u8 y] w fun e w' => e = .returned (.bool true) ∧ Below w.heap.size w w'))
    (h2 : Hid (∀ w, FTab w → Calls Tryd.prog 12 #[.int .u8 t] w fun e w' => e = .returned (.bool true) ∧ Below w.heap.size w w'))
    (h3 : Hid (∀ w, FTab w → Calls Tryd.prog 11 #[.int .u8 f, .agg #[.int .u64 bh, .int .u64 bl]] w fun e w' => e = .returned (.bool false) ∧ Below w.heap.size w w'))
    (h4 : Hid (∀ w, FTab w → Calls Tryd.prog 10 #[] w fun e w' => e = .returned (.bool true) ∧ Below w.heap.size w w')) (w : World) (ft : FTab w) :
    Calls Tryd.prog 5 #[.agg #[.int .u64 bh, .int .u64 bl], .int .u8 f, .int .u8 y, .int .u8 t] w fun e w' => e = .returned (.bool true) ∧ Below w.heap.size w w' := by
  go_enter Tryd.func5, Tryd.ntmps5
  go_wp2_with fail
  (with_reducible refine (h0.out _ (ft.later (bA (Below.refl _ _) _))).mono ?_); rintro e w1 ⟨rfl, hb⟩
  have hz := bC (bA (Below.refl _ _) _) hb
  have cX0_0 := cell_later hb (a := ⟨w.heap.size, 0, none⟩) (v := .int .u64 bh) (by go_simp)
  have cX0_1 := cell_later hb (a := ⟨w.heap.size, 1, none⟩) (v := .int .u64 bl) (by go_simp)
  have sX0 : w.heap.size < w1.heap.size := World.block_lt_of_cell? _ _ cX0_0
  have kk := hz
  clear hb hz
  go_wp2_with fail
  (with_reducible refine (h1.out _ (ft.later kk)).mono ?_); rintro e w2 ⟨rfl, hb⟩
  replace cX0_0 := cell_later hb cX0_0; replace cX0_1 := cell_later hb cX0_1
  replace sX0 : w.heap.size < w2.heap.size := World.block_lt_of_cell? _ _ cX0_0
  replace kk := bC kk hb
  clear hb
  go_wp2_with fail
  (with_reducible refine (h2.out _ (ft.later kk)).mono ?_); rintro e w3 ⟨rfl, hb⟩
  replace cX0_0 := cell_later hb cX0_0; replace cX0_1 := cell_later hb cX0_1
  replace sX0 : w.heap.size < w3.heap.size := World.block_lt_of_cell? _ _ cX0_0
  replace kk := bC kk hb
  clear hb
  go_wp2_with fail
  (with_reducible refine (h3.out _ (ft.later kk)).mono ?_); rintro e w4 ⟨rfl, hb⟩
  clear cX0_0 cX0_1 sX0
  replace kk := bC kk hb
  clear hb
  go_wp2_with fail
  (with_reducible refine (h4.out _ (ft.later kk)).mono ?_); rintro e w5 ⟨rfl, hb⟩
  replace kk := bC kk hb
  clear hb
  go_wp2_with fail
  go_ret
  exact ⟨rfl, kk⟩

set_option maxHeartbeats 4000000 in
set_option maxRecDepth 100000 in
theorem on11_w1 (bh bl f y t : Int)
    (h0 : Hid (∀ w, FTab w → Calls Tryd.prog 12 #[.int .u8 f] w fun e w' => e = .returned (.bool true) ∧ Below w.heap.size w w'))
    (h1 : Hid (∀ w, FTab w → Calls Tryd.prog 12 #[.int .u8 y] w fun e w' => e = .returned (.bool true) ∧ Below w.heap.size w w'))
    (h2 : Hid (∀ w, FTab w → Calls Tryd.prog 12 #[.int .u8 t] w fun e w' => e = .returned (.bool true) ∧ Below w.heap.size w w'))
    (h3 : Hid (∀ w, FTab w → Calls Tryd.prog 11 #[.int .u8 f, .agg #[.int .u64 bh, .int .u64 bl]] w fun e w' => e = .returned (.bool true) ∧ Below w.heap.size w w'))
    (h4 : Hid (∀ w, FTab w → Calls Tryd.prog 10 #[] w fun e w' => e = .returned (.bool true) ∧ Below w.heap.size w w')) (q1 : decide (f ≤ y) = true) (q2 : decide (y ≤ t) = false) (q3 : decide (y ≤ f) = false) (w : World) (ft : FTab w) :
    Calls Tryd.prog 5 #[.agg #[.int .u64 bh, .int .u64 bl], .int .u8 f, .int .u8 y, .int .u8 t] w fun e w' => e = .returned (.bool true) ∧ Below w.heap.size w w' := by
  go_enter Tryd.func5, Tryd.ntmps5
  go_wp2_with fail
  (with_reducible refine (h0.out _ (ft.later (bA (Below.refl _ _) _))).mono ?_); rintro e w1 ⟨rfl, hb⟩
  have hz := bC (bA (Below.refl _ _) _) hb
  have cX0_0 := cell_later hb (a := ⟨w.heap.size, 0, none⟩) (v := .int .u64 bh) (by go_simp)
  have cX0_1 := cell_later hb (a := ⟨w.heap.size, 1, none⟩) (v := .int .u64 bl) (by go_simp)
  have sX0 : w.heap.size < w1.heap.size := World.block_lt_of_cell? _ _ cX0_0
  have kk := hz
  clear hb hz
  go_wp2_with fail
  (with_reducible refine (h1.out _ (ft.later kk)).mono ?_); rintro e w2 ⟨rfl, hb⟩
  replace cX0_0 := cell_later hb cX0_0; replace cX0_1 := cell_later hb cX0_1
  replace sX0 : w.heap.size < w2.heap.size := World.block_lt_of_cell? _ _ cX0_0
  replace kk := bC kk hb
  clear hb
  go_wp2_with fail
  (with_reducible refine (h2.out _ (ft.later kk)).mono ?_); rintro e w3 ⟨rfl, hb⟩
  replace cX0_0 := cell_later hb cX0_0; replace cX0_1 := cell_later hb cX0_1
  replace sX0 : w.heap.size < w3.heap.size := World.block_lt_of_cell? _ _ cX0_0
  replace kk := bC kk hb
  clear hb
  go_wp2_with fail
  (with_reducible refine (h3.out _ (ft.later kk)).mono ?_); rintro e w4 ⟨rfl, hb⟩
  clear cX0_0 cX0_1 sX0
  replace kk := bC kk hb
  clear hb
  go_wp2_with fail
  (with_reducible refine (h4.out _ (ft.later kk)).mono ?_); rintro e w5 ⟨rfl, hb⟩
  replace kk := bC kk hb
  clear hb
  go_wp2_with fail
  go_ret
  exact ⟨rfl, kk⟩

set_option maxHeartbeats 4000000 in
set_option maxRecDepth 100000 in
theorem on11_w2 (bh bl f y t : Int)
    (h0 : Hid (∀ w, FTab w → Calls Tryd.prog 12 #[.int .u8 f] w fun e w' => e = .returned (.bool true) ∧ Below w.heap.size w w'))
    (h1 : Hid (∀ w, FTab w → Calls Tryd.prog 12 #[.int .u8 y] w fun e w' => e = .returned (.bool true) ∧ Below w.heap.size w w'))
    (h2 : Hid (∀ w, FTab w → Calls Tryd.prog 12 #[.int .u8 t] w fun e w' => e = .returned (.bool true) ∧ Below w.heap.size w w'))
    (h3 : Hid (∀ w, FTab w → Calls Tryd.prog 11 #[.int .u8 f, .agg #[.int .u64 bh, .int .u64 bl]] w fun e w' => e = .returned (.bool true) ∧ Below w.heap.size w w'))
    (h4 : Hid (∀ w, FTab w → Calls Tryd.prog 10 #[] w fun e w' => e = .returned (.bool true) ∧ Below w.heap.size w w')) (q1 : decide (f ≤ y) = false) (q3 : decide (y ≤ f) = true) (q4 : decide (t ≤ y) = false) (w : World) (ft : FTab w) :
    Calls Tryd.prog 5 #[.agg #[.int .u64 bh, .int .u64 bl], .int .u8 f, .int .u8 y, .int .u8 t] w fun e w' => e = .returned (.bool true) ∧ Below w.heap.size w w' := by
  go_enter Tryd.func5, Tryd.ntmps5
  go_wp2_with fail
  (with_reducible refine (h0.out _ (ft.later (bA (Below.refl _ _) _))).mono ?_); rintro e w1 ⟨rfl, hb⟩
  have hz := bC (bA (Below.refl _ _) _) hb
  have cX0_0 := cell_later hb (a := ⟨w.heap.size, 0, none⟩) (v := .int .u64 bh) (by go_simp)
  have cX0_1 := cell_later hb (a := ⟨w.heap.size, 1, none⟩) (v := .int .u64 bl) (by go_simp)
  have sX0 : w.heap.size < w1.heap.size := World.block_lt_of_cell? _ _ cX0_0
  have kk := hz
  clear hb hz
  go_wp2_with fail
  (with_reducible refine (h1.out _ (ft.later kk)).mono ?_); rintro e w2 ⟨rfl, hb⟩
  replace cX0_0 := cell_later hb cX0_0; replace cX0_1 := cell_later hb cX0_1
  replace sX0 : w.heap.size < w2.heap.size := World.block_lt_of_cell? _ _ cX0_0
  replace kk := bC kk hb
  clear hb
  go_wp2_with fail
  (with_reducible refine (h2.out _ (ft.later kk)).mono ?_); rintro e w3 ⟨rfl, hb⟩
  replace cX0_0 := cell_later hb cX0_0; replace cX0_1 := cell_later hb cX0_1
  replace sX0 : w.heap.size < w3.heap.size := World.block_lt_of_cell? _ _ cX0_0
  replace kk := bC kk hb
  clear hb
  go_wp2_with fail
  (with_reducible refine (h3.out _ (ft.later kk)).mono ?_); rintro e w4 ⟨rfl, hb⟩
  clear cX0_0 cX0_1 sX0
  replace kk := bC kk hb
  clear hb
  go_wp2_with fail
  (with_reducible refine (h4.out _ (ft.later kk)).mono ?_); rintro e w5 ⟨rfl, hb⟩
  replace kk := bC kk hb
  clear hb
  go_wp2_with fail
  go_ret
  exact ⟨rfl, kk⟩

set_option maxHeartbeats 4000000 in
set_option maxRecDepth 100000 in
theorem on11_r1 (bh bl f y t rh rl sh sl fl : Int)
    (h0 : Hid (∀ w, FTab w → Calls Tryd.prog 12 #[.int .u8 f] w fun e w' => e = .returned (.bool true) ∧ Below w.heap.size w w'))
    (h1 : Hid (∀ w, FTab w → Calls Tryd.prog 12 #[.int .u8 y] w fun e w' => e = .returned (.bool true) ∧ Below w.heap.size w w'))
    (h2 : Hid (∀ w, FTab w → Calls Tryd.prog 12 #[.int .u8 t] w fun e w' => e = .returned (.bool true) ∧ Below w.heap.size w w'))
    (h3 : Hid (∀ w, FTab w → Calls Tryd.prog 11 #[.int .u8 f, .agg #[.int .u64 bh, .int .u64 bl]] w fun e w' => e = .returned (.bool true) ∧ Below w.heap.size w w'))
    (h4 : Hid (∀ w, FTab w → Calls Tryd.prog 8 #[.int .u8 f, .int .u8 y, .agg #[.int .u64 bh, .int .u64 bl]] w fun e w' => e = .returned (.tuple #[.agg #[.int .u64 rh, .int .u64 rl, .int .u8 fl], .bool true]) ∧ Below w.heap.size w w'))
    (h5 : Hid (∀ w, FTab w → Calls Tryd.prog 8 #[.int .u8 y, .int .u8 t, .agg #[.int .u64 rh, .int .u64 rl]] w fun e w' => e = .returned (.tuple #[.agg #[.int .u64 sh, .int .u64 sl, .int .u8 0], .bool true]) ∧ Below w.heap.size w w'))
    (h6 : Hid (∀ w, FTab w → Calls Tryd.prog 8 #[.int .u8 f, .int .u8 t, .agg #[.int .u64 bh, .int .u64 bl]] w fun e w' => e = .returned (.tuple #[.agg #[.int .u64 sh, .int .u64 sl, .int .u8 fl], .bool true]) ∧ Below w.heap.size w w'))
    (h7 : Hid (∀ w, FTab w → Calls Tryd.prog 10 #[] w fun e w' => e = .returned (.bool true) ∧ Below w.heap.size w w')) (q1 : decide (f ≤ y) = true) (q2 : decide (y ≤ t) = true) (w : World) (ft : FTab w) :
    Calls Tryd.prog 5 #[.agg #[.int .u64 bh, .int .u64 bl], .int .u8 f, .int .u8 y, .int .u8 t] w fun e w' => e = .returned (.bool true) ∧ Below w.heap.size w w' := by
  go_enter Tryd.func5, Tryd.ntmps5
  go_wp2_with fail
  (with_reducible refine (h0.out _ (ft.later (bA (Below.refl _ _) _))).mono ?_); rintro e w1 ⟨rfl, hb⟩
  have hz := bC (bA (Below.refl _ _) _) hb
  have cX0_0 := cell_later hb (a := ⟨w.heap.size, 0, none⟩) (v := .int .u64 bh) (by go_simp)
  have cX0_1 := cell_later hb (a := ⟨w.heap.size, 1, none⟩) (v := .int .u64 bl) (by go_simp)
  have sX0 : w.heap.size < w1.heap.size := World.block_lt_of_cell? _ _ cX0_0
  have kk := hz
  clear hb hz
  go_wp2_with fail
  (with_reducible refine (h1.out _ (ft.later kk)).mono ?_); rintro e w2 ⟨rfl, hb⟩
  replace cX0_0 := cell_later hb cX0_0; replace cX0_1 := cell_later hb cX0_1
  replace sX0 : w.heap.size < w2.heap.size := World.block_lt_of_cell? _ _ cX0_0
  replace kk := bC kk hb
  clear hb
  go_wp2_with fail
  (with_reducible refine (h2.out _ (ft.later kk)).mono ?_); rintro e w3 ⟨rfl, hb⟩
  replace cX0_0 := cell_later hb cX0_0; replace cX0_1 := cell_later hb cX0_1
  replace sX0 : w.heap.size < w3.heap.size := World.block_lt_of_cell? _ _ cX0_0
  replace kk := bC kk hb
  clear hb
  go_wp2_with fail
  (with_reducible refine (h3.out _ (ft.later kk)).mono ?_); rintro e w4 ⟨rfl, hb⟩
  replace cX0_0 := cell_later hb cX0_0; replace cX0_1 := cell_later hb cX0_1
  replace sX0 : w.heap.size < w4.heap.size := World.block_lt_of_cell? _ _ cX0_0
  replace kk := bC kk hb
  clear hb
  go_wp2_with fail
  (with_reducible refine (h4.out _ (ft.later kk)).mono ?_); rintro e w5 ⟨rfl, hb⟩
  replace cX0_0 := cell_later hb cX0_0; replace cX0_1 := cell_later hb cX0_1
  replace sX0 : w.heap.size < w5.heap.size := World.block_lt_of_cell? _ _ cX0_0
  replace kk := bC kk hb
  clear hb
  go_wp2_with fail
  (with_reducible refine (h5.out _ (ft.later (bC kk (bA (Below.refl _ _) _)))).mono ?_); rintro e w6 ⟨rfl, hb⟩
  have hz := bC (bA (Below.refl _ _) _) hb
  replace cX0_0 := cell_later hz cX0_0; replace cX0_1 := cell_later hz cX0_1
  replace sX0 : w.heap.size < w6.heap.size := World.block_lt_of_cell? _ _ cX0_0
  have cX1_0 := cell_later hb (a := ⟨w5.heap.size, 0, none⟩) (v := .int .u64 rh) (by go_simp)
  have cX1_1 := cell_later hb (a := ⟨w5.heap.size, 1, none⟩) (v := .int .u64 rl) (by go_simp)
  have cX1_2 := cell_later hb (a := ⟨w5.heap.size, 2, none⟩) (v := .int .u8 fl) (by go_simp)
  have sX1 : w5.heap.size < w6.heap.size := World.block_lt_of_cell? _ _ cX1_0
  replace kk := bC kk hz
  clear hb hz
  go_wp2_with fail
  (with_reducible refine (h6.out _ (ft.later (bC kk (bA (Below.refl _ _) _)))).mono ?_); rintro e w7 ⟨rfl, hb⟩
  have hz := bC (bA (Below.refl _ _) _) hb
  clear cX0_0 cX0_1 sX0
  replace cX1_0 := cell_later hz cX1_0; replace cX1_1 := cell_later hz cX1_1; replace cX1_2 := cell_later hz cX1_2
  replace sX1 : w5.heap.size < w7.heap.size := World.block_lt_of_cell? _ _ cX1_0
  have cX2_0 := cell_later hb (a := ⟨w6.heap.size, 0, none⟩) (v := .int .u64 sh) (by go_simp)
  have cX2_1 := cell_later hb (a := ⟨w6.heap.size, 1, none⟩) (v := .int .u64 sl) (by go_simp)
  have cX2_2 := cell_later hb (a := ⟨w6.heap.size, 2, none⟩) (v := .int .u8 0) (by go_simp)
  have sX2 : w6.heap.size < w7.heap.size := World.block_lt_of_cell? _ _ cX2_0
  replace kk := bC kk hz
  clear hb hz
  go_wp2_with fail
  (with_reducible refine (h7.out _ (ft.later (bC kk (bA (Below.refl _ _) _)))).mono ?_); rintro e w8 ⟨rfl, hb⟩
  have hz := bC (bA (Below.refl _ _) _) hb
  clear cX1_0 cX1_1 cX1_2 sX1
  clear cX2_0 cX2_1 cX2_2 sX2
  replace kk := bC kk hz
  clear hb hz
  go_wp2_with fail
  go_ret
  exact ⟨rfl, kk⟩

set_option maxHeartbeats 4000000 in
set_option maxRecDepth 100000 in
theorem on11_r2 (bh bl f y t rh rl sh sl fl : Int)
    (h0 : Hid (∀ w, FTab w → Calls Tryd.prog 12 #[.int .u8 f] w fun e w' => e = .returned (.bool true) ∧ Below w.heap.size w w'))
    (h1 : Hid (∀ w, FTab w → Calls Tryd.prog 12 #[.int .u8 y] w fun e w' => e = .returned (.bool true) ∧ Below w.heap.size w w'))
    (h2 : Hid (∀ w, FTab w → Calls Tryd.prog 12 #[.int .u8 t] w fun e w' => e = .returned (.bool true) ∧ Below w.heap.size w w'))
    (h3 : Hid (∀ w, FTab w → Calls Tryd.prog 11 #[.int .u8 f, .agg #[.int .u64 bh, .int .u64 bl]] w fun e w' => e = .returned (.bool true) ∧ Below w.heap.size w w'))
    (h4 : Hid (∀ w, FTab w → Calls Tryd.prog 8 #[.int .u8 f, .int .u8 y, .agg #[.int .u64 bh, .int .u64 bl]] w fun e w' => e = .returned (.tuple #[.agg #[.int .u64 rh, .int .u64 rl, .int .u8 fl], .bool true]) ∧ Below w.heap.size w w'))
    (h5 : Hid (∀ w, FTab w → Calls Tryd.prog 8 #[.int .u8 y, .int .u8 t, .agg #[.int .u64 rh, .int .u64 rl]] w fun e w' => e = .returned (.tuple #[.agg #[.int .u64 sh, .int .u64 sl, .int .u8 0], .bool true]) ∧ Below w.heap.size w w'))
    (h6 : Hid (∀ w, FTab w → Calls Tryd.prog 8 #[.int .u8 f, .int .u8 t, .agg #[.int .u64 bh, .int .u64 bl]] w fun e w' => e = .returned (.tuple #[.agg #[.int .u64 sh, .int .u64 sl, .int .u8 fl], .bool true]) ∧ Below w.heap.size w w'))
    (h7 : Hid (∀ w, FTab w → Calls Tryd.prog 10 #[] w fun e w' => e = .returned (.bool true) ∧ Below w.heap.size w w')) (q1 : decide (f ≤ y) = true) (q2 : decide (y ≤ t) = false) (q3 : decide (y ≤ f) = true) (q4 : decide (t ≤ y) = true) (w : World) (ft : FTab w) :
    Calls Tryd.prog 5 #[.agg #[.int .u64 bh, .int .u64 bl], .int .u8 f, .int .u8 y, .int .u8 t] w fun e w' => e = .returned (.bool true) ∧ Below w.heap.size w w' := by
  go_enter Tryd.func5, Tryd.ntmps5
  go_wp2_with fail
  (with_reducible refine (h0.out _ (ft.later (bA (Below.refl _ _) _))).mono ?_); rintro e w1 ⟨rfl, hb⟩
  have hz := bC (bA (Below.refl _ _) _) hb
  have cX0_0 := cell_later hb (a := ⟨w.heap.size, 0, none⟩) (v := .int .u64 bh) (by go_simp)
  have cX0_1 := cell_later hb (a := ⟨w.heap.size, 1, none⟩) (v := .int .u64 bl) (by go_simp)
  have sX0 : w.heap.size < w1.heap.size := World.block_lt_of_cell? _ _ cX0_0
  have kk := hz
  clear hb hz
  go_wp2_with fail
  (with_reducible refine (h1.out _ (ft.later kk)).mono ?_); rintro e w2 ⟨rfl, hb⟩
  replace cX0_0 := cell_later hb cX0_0; replace cX0_1 := cell_later hb cX0_1
  replace sX0 : w.heap.size < w2.heap.size := World.block_lt_of_cell? _ _ cX0_0
  replace kk := bC kk hb
  clear hb
  go_wp2_with fail
  (with_reducible refine (h2.out _ (ft.later kk)).mono ?_); rintro e w3 ⟨rfl, hb⟩
  replace cX0_0 := cell_later hb cX0_0; replace cX0_1 := cell_later hb cX0_1
  replace sX0 : w.heap.size < w3.heap.size := World.block_lt_of_cell? _ _ cX0_0
  replace kk := bC kk hb
  clear hb
  go_wp2_with fail
  (with_reducible refine (h3.out _ (ft.later kk)).mono ?_); rintro e w4 ⟨rfl, hb⟩
  replace cX0_0 := cell_later hb cX0_0; replace cX0_1 := cell_later hb cX0_1
  replace sX0 : w.heap.size < w4.heap.size := World.block_lt_of_cell? _ _ cX0_0
  replace kk := bC kk hb
  clear hb
  go_wp2_with fail
  (with_reducible refine (h4.out _ (ft.later kk)).mono ?_); rintro e w5 ⟨rfl, hb⟩
  replace cX0_0 := cell_later hb cX0_0; replace cX0_1 := cell_later hb cX0_1
  replace sX0 : w.heap.size < w5.heap.size := World.block_lt_of_cell? _ _ cX0_0
  replace kk := bC kk hb
  clear hb
  go_wp2_with fail
  (with_reducible refine (h5.out _ (ft.later (bC kk (bA (Below.refl _ _) _)))).mono ?_); rintro e w6 ⟨rfl, hb⟩
  have hz := bC (bA (Below.refl _ _) _) hb
  replace cX0_0 := cell_later hz cX0_0; replace cX0_1 := cell_later hz cX0_1
  replace sX0 : w.heap.size < w6.heap.size := World.block_lt_of_cell? _ _ cX0_0
  have cX1_0 := cell_later hb (a := ⟨w5.heap.size, 0, none⟩) (v := .int .u64 rh) (by go_simp)
  have cX1_1 := cell_later hb (a := ⟨w5.heap.size, 1, none⟩) (v := .int .u64 rl) (by go_simp)
  have cX1_2 := cell_later hb (a := ⟨w5.heap.size, 2, none⟩) (v := .int .u8 fl) (by go_simp)
  have sX1 : w5.heap.size < w6.heap.size := World.block_lt_of_cell? _ _ cX1_0
  replace kk := bC kk hz
  clear hb hz
  go_wp2_with fail
  (with_reducible refine (h6.out _ (ft.later (bC kk (bA (Below.refl _ _) _)))).mono ?_); rintro e w7 ⟨rfl, hb⟩
  have hz := bC (bA (Below.refl _ _) _) hb
  clear cX0_0 cX0_1 sX0
  replace cX1_0 := cell_later hz cX1_0; replace cX1_1 := cell_later hz cX1_1; replace cX1_2 := cell_later hz cX1_2
  replace sX1 : w5.heap.size < w7.heap.size := World.block_lt_of_cell? _ _ cX1_0
  have cX2_0 := cell_later hb (a := ⟨w6.heap.size, 0, none⟩) (v := .int .u64 sh) (by go_simp)
  have cX2_1 := cell_later hb (a := ⟨w6.heap.size, 1, none⟩) (v := .int .u64 sl) (by go_simp)
  have cX2_2 := cell_later hb (a := ⟨w6.heap.size, 2, none⟩) (v := .int .u8 0) (by go_simp)
  have sX2 : w6.heap.size < w7.heap.size := World.block_lt_of_cell? _ _ cX2_0
  replace kk := bC kk hz
  clear hb hz
  go_wp2_with fail
  (with_reducible refine (h7.out _ (ft.later (bC kk (bA (Below.refl _ _) _)))).mono ?_); rintro e w8 ⟨rfl, hb⟩
  have hz := bC (bA (Below.refl _ _) _) hb
  clear cX1_0 cX1_1 cX1_2 sX1
  clear cX2_0 cX2_1 cX2_2 sX2
  replace kk := bC kk hz
  clear hb hz
  go_wp2_with fail
  go_ret
  exact ⟨rfl, kk⟩

set_option maxHeartbeats 4000000 in
set_option maxRecDepth 100000 in
theorem on11_r3 (bh bl f y t rh rl sh sl fl : Int)
    (h0 : Hid (∀ w, FTab w → Calls Tryd.prog 12 #[.int .u8 f] w fun e w' => e = .returned (.bool true) ∧ Below w.heap.size w w'))
    (h1 : Hid (∀ w, FTab w → Calls Tryd.prog 12 #[.int .u8 y] w fun e w' => e = .returned (.bool true) ∧ Below w.heap.size w w'))
    (h2 : Hid (∀ w, FTab w → Calls Tryd.prog 12 #[.int .u8 t] w fun e w' => e = .returned (.bool true) ∧ Below w.heap.size w w'))
    (h3 : Hid (∀ w, FTab w → Calls Tryd.prog 11 #[.int .u8 f, .agg #[.int .u64 bh, .int .u64 bl]] w fun e w' => e = .returned (.bool true) ∧ Below w.heap.size w w'))
    (h4 : Hid (∀ w, FTab w → Calls Tryd.prog 8 #[.int .u8 f, .int .u8 y, .agg #[.int .u64 bh, .int .u64 bl]] w fun e w' => e = .returned (.tuple #[.agg #[.int .u64 rh, .int .u64 rl, .int .u8 fl], .bool true]) ∧ Below w.heap.size w w'))
    (h5 : Hid (∀ w, FTab w → Calls Tryd.prog 8 #[.int .u8 y, .int .u8 t, .agg #[.int .u64 rh, .int .u64 rl]] w fun e w' => e = .returned (.tuple #[.agg #[.int .u64 sh, .int .u64 sl, .int .u8 0], .bool true]) ∧ Below w.heap.size w w'))
    (h6 : Hid (∀ w, FTab w → Calls Tryd.prog 8 #[.int .u8 f, .int .u8 t, .agg #[.int .u64 bh, .int .u64 bl]] w fun e w' => e = .returned (.tuple #[.agg #[.int .u64 sh, .int .u64 sl, .int .u8 fl], .bool true]) ∧ Below w.heap.size w w'))
    (h7 : Hid (∀ w, FTab w → Calls Tryd.prog 10 #[] w fun e w' => e = .returned (.bool true) ∧ Below w.heap.size w w')) (q1 : decide (f ≤ y) = false) (q3 : decide (y ≤ f) = true) (q4 : decide (t ≤ y) = true) (w : World) (ft : FTab w) :
    Calls Tryd.prog 5 #[.agg #[.int .u64 bh, .int .u64 bl], .int .u8 f, .int .u8 y, .int .u8 t] w fun e w' => e = .returned (.bool true) ∧ Below w.heap.size w w' := by
  go_enter Tryd.func5, Tryd.ntmps5
  go_wp2_with fail
  (with_reducible refine (h0.out _ (ft.later (bA (Below.refl _ _) _))).mono ?_); rintro e w1 ⟨rfl, hb⟩
  have hz := bC (bA (Below.refl _ _) _) hb
  have cX0_0 := cell_later hb (a := ⟨w.heap.size, 0, none⟩) (v := .int .u64 bh) (by go_simp)
  have cX0_1 := cell_later hb (a := ⟨w.heap.size, 1, none⟩) (v := .int .u64 bl) (by go_simp)
  have sX0 : w.heap.size < w1.heap.size := World.block_lt_of_cell? _ _ cX0_0
  have kk := hz
  clear hb hz
  go_wp2_with fail
  (with_reducible refine (h1.out _ (ft.later kk)).mono ?_); rintro e w2 ⟨rfl, hb⟩
  replace cX0_0 := cell_later hb cX0_0; replace cX0_1 := cell_later hb cX0_1
  replace sX0 : w.heap.size < w2.heap.size := World.block_lt_of_cell? _ _ cX0_0
  replace kk := bC kk hb
  clear hb
  go_wp2_with fail
  (with_reducible refine (h2.out _ (ft.later kk)).mono ?_); rintro e w3 ⟨rfl, hb⟩
  replace cX0_0 := cell_later hb cX0_0; replace cX0_1 := cell_later hb cX0_1
  replace sX0 : w.heap.size < w3.heap.size := World.block_lt_of_cell? _ _ cX0_0
  replace kk := bC kk hb
  clear hb
  go_wp2_with fail
  (with_reducible refine (h3.out _ (ft.later kk)).mono ?_); rintro e w4 ⟨rfl, hb⟩
  replace cX0_0 := cell_later hb cX0_0; replace cX0_1 := cell_later hb cX0_1
  replace sX0 : w.heap.size < w4.heap.size := World.block_lt_of_cell? _ _ cX0_0
  replace kk := bC kk hb
  clear hb
  go_wp2_with fail
  (with_reducible refine (h4.out _ (ft.later kk)).mono ?_); rintro e w5 ⟨rfl, hb⟩
  replace cX0_0 := cell_later hb cX0_0; replace cX0_1 := cell_later hb cX0_1
  replace sX0 : w.heap.size < w5.heap.size := World.block_lt_of_cell? _ _ cX0_0
  replace kk := bC kk hb
  clear hb
  go_wp2_with fail
  (with_reducible refine (h5.out _ (ft.later (bC kk (bA (Below.refl _ _) _)))).mono ?_); rintro e w6 ⟨rfl, hb⟩
  have hz := bC (bA (Below.refl _ _) _) hb
  replace cX0_0 := cell_later hz cX0_0; replace cX0_1 := cell_later hz cX0_1
  replace sX0 : w.heap.size < w6.heap.size := World.block_lt_of_cell? _ _ cX0_0
  have cX1_0 := cell_later hb (a := ⟨w5.heap.size, 0, none⟩) (v := .int .u64 rh) (by go_simp)
  have cX1_1 := cell_later hb (a := ⟨w5.heap.size, 1, none⟩) (v := .int .u64 rl) (by go_simp)
  have cX1_2 := cell_later hb (a := ⟨w5.heap.size, 2, none⟩) (v := .int .u8 fl) (by go_simp)
  have sX1 : w5.heap.size < w6.heap.size := World.block_lt_of_cell? _ _ cX1_0
  replace kk := bC kk hz
  clear hb hz
  go_wp2_with fail
  (with_reducible refine (h6.out _ (ft.later (bC kk (bA (Below.refl _ _) _)))).mono ?_); rintro e w7 ⟨rfl, hb⟩
  have hz := bC (bA (Below.refl _ _) _) hb
  clear cX0_0 cX0_1 sX0
  replace cX1_0 := cell_later hz cX1_0; replace cX1_1 := cell_later hz cX1_1; replace cX1_2 := cell_later hz cX1_2
  replace sX1 : w5.heap.size < w7.heap.size := World.block_lt_of_cell? _ _ cX1_0
  have cX2_0 := cell_later hb (a := ⟨w6.heap.size, 0, none⟩) (v := .int .u64 sh) (by go_simp)
  have cX2_1 := cell_later hb (a := ⟨w6.heap.size, 1, none⟩) (v := .int .u64 sl) (by go_simp)
  have cX2_2 := cell_later hb (a := ⟨w6.heap.size, 2, none⟩) (v := .int .u8 0) (by go_simp)
  have sX2 : w6.heap.size < w7.heap.size := World.block_lt_of_cell? _ _ cX2_0
  replace kk := bC kk hz
  clear hb hz
  go_wp2_with fail
  (with_reducible refine (h7.out _ (ft.later (bC kk (bA (Below.refl _ _) _)))).mono ?_); rintro e w8 ⟨rfl, hb⟩
  have hz := bC (bA (Below.refl _ _) _) hb
  clear cX1_0 cX1_1 cX1_2 sX1
  clear cX2_0 cX2_1 cX2_2 sX2
  replace kk := bC kk hz
  clear hb hz
  go_wp2_with fail
  go_ret
  exact ⟨rfl, kk⟩



end Go.Proofs.YthnikhhgnogibaaDoor
