/-
  The walk of the statement RootFour.
-/
import Derived.Test.YtbibinmjipcdjaaRootP
set_option linter.unusedVariables false
set_option linter.unusedSimpArgs false
set_option maxRecDepth 100000
namespace Go.Proofs.Ytbibinmjipcdjaa
open Go.RowKit
attribute [local go_sem ↓] Go.wp_at_zero Go.wp_at_succ

set_option maxHeartbeats 4000000 in
set_option maxRecDepth 100000 in
theorem four6_exact (a0 a1 a2 a3 x0 x1 x2 x3 y0 y1 y2 y3 rh rl bh bl th tl : Int)
    (h0 : Hid (∀ w, Calls Try.prog 19 #[.agg #[.int .u64 a0, .int .u64 a1, .int .u64 a2, .int .u64 a3], .int .i64 2] w fun e w' => e = .returned (.agg #[.int .u64 x0, .int .u64 x1, .int .u64 x2, .int .u64 x3]) ∧ Below w.heap.size w w'))
    (h1 : Hid (∀ w, Calls Try.prog 9 #[.agg #[.int .u64 x0, .int .u64 x1, .int .u64 x2, .int .u64 x3]] w fun e w' => e = .returned (.tuple #[.agg #[.int .u64 rh, .int .u64 rl], .bool true]) ∧ Below w.heap.size w w'))
    (h2 : Hid (∀ w, Calls Try.prog 20 #[.agg #[.int .u64 x0, .int .u64 x1, .int .u64 x2, .int .u64 x3], .int .i64 2] w fun e w' => e = .returned (.agg #[.int .u64 y0, .int .u64 y1, .int .u64 y2, .int .u64 y3]) ∧ Below w.heap.size w w'))
    (h3 : Hid (∀ w, Calls Try.prog 9 #[.agg #[.int .u64 y0, .int .u64 y1, .int .u64 y2, .int .u64 y3]] w fun e w' => e = .returned (.tuple #[.agg #[.int .u64 bh, .int .u64 bl], .bool true]) ∧ Below w.heap.size w w'))
    (h4 : Hid (∀ w, Calls Try.prog 21 #[.agg #[.int .u64 rh, .int .u64 rl], .int .i64 1] w fun e w' => e = .returned (.agg #[.int .u64 th, .int .u64 tl]) ∧ Below w.heap.size w w'))
    (h5 : Hid (∀ w, Calls Try.prog 17 #[.agg #[.int .u64 bh, .int .u64 bl], .agg #[.int .u64 th, .int .u64 tl]] w fun e w' => e = .returned (.tuple #[.agg #[.int .u64 0, .int .u64 0], .bool false]) ∧ Below w.heap.size w w'))
    (h6 : Hid (∀ w, Calls Try.prog 11 #[] w fun e w' => e = .returned (.bool true) ∧ Below w.heap.size w w')) (w : World) :
    Calls Try.prog 7 #[.agg #[.int .u64 a0, .int .u64 a1, .int .u64 a2, .int .u64 a3]] w fun e w' => e = .returned (.bool true) ∧ Below w.heap.size w w' := by
  go_enter Try.func7, Try.ntmps7
  go_wp2_with fail
  (with_reducible refine (h0.out _).mono ?_); rintro e w1 ⟨rfl, hb⟩
  have hz := bC (bA (Below.refl _ _) _) hb
  have gX0 : w.heap.size ≤ w.heap.size := by omega
  have cX0_0 := cell_later hb (a := ⟨w.heap.size, 0, none⟩) (v := .int .u64 a0) (by go_simp)
  have cX0_1 := cell_later hb (a := ⟨w.heap.size, 1, none⟩) (v := .int .u64 a1) (by go_simp)
  have cX0_2 := cell_later hb (a := ⟨w.heap.size, 2, none⟩) (v := .int .u64 a2) (by go_simp)
  have cX0_3 := cell_later hb (a := ⟨w.heap.size, 3, none⟩) (v := .int .u64 a3) (by go_simp)
  have sX0 : w.heap.size < w1.heap.size := World.block_lt_of_cell? _ _ cX0_0
  have fX0_0 := frozen_later hb (a := ⟨w.heap.size, 0, none⟩) (v := .int .u64 a0) (by go_simp) (by go_simp)
  have fX0_1 := frozen_later hb (a := ⟨w.heap.size, 1, none⟩) (v := .int .u64 a1) (by go_simp) (by go_simp)
  have fX0_2 := frozen_later hb (a := ⟨w.heap.size, 2, none⟩) (v := .int .u64 a2) (by go_simp) (by go_simp)
  have fX0_3 := frozen_later hb (a := ⟨w.heap.size, 3, none⟩) (v := .int .u64 a3) (by go_simp) (by go_simp)
  have kk := hz
  clear hb hz
  go_wp2_with fail
  (with_reducible refine (h1.out _).mono ?_); rintro e w2 ⟨rfl, hb⟩
  replace kk := bC ((((kk.setCell (p := ⟨w.heap.size, 0, none⟩) gX0 _).setCell (p := ⟨w.heap.size, 1, none⟩) gX0 _).setCell (p := ⟨w.heap.size, 2, none⟩) gX0 _).setCell (p := ⟨w.heap.size, 3, none⟩) gX0 _) hb
  have ncX0_0 := cell_later hb (a := ⟨w.heap.size, 0, none⟩) (v := .int .u64 x0) (by go_simp)
  have ncX0_1 := cell_later hb (a := ⟨w.heap.size, 1, none⟩) (v := .int .u64 x1) (by go_simp)
  have ncX0_2 := cell_later hb (a := ⟨w.heap.size, 2, none⟩) (v := .int .u64 x2) (by go_simp)
  have ncX0_3 := cell_later hb (a := ⟨w.heap.size, 3, none⟩) (v := .int .u64 x3) (by go_simp)
  have nfX0_0 := frozen_later hb (a := ⟨w.heap.size, 0, none⟩) (v := .int .u64 x0) (by go_simp) (by go_simp)
  have nfX0_1 := frozen_later hb (a := ⟨w.heap.size, 1, none⟩) (v := .int .u64 x1) (by go_simp) (by go_simp)
  have nfX0_2 := frozen_later hb (a := ⟨w.heap.size, 2, none⟩) (v := .int .u64 x2) (by go_simp) (by go_simp)
  have nfX0_3 := frozen_later hb (a := ⟨w.heap.size, 3, none⟩) (v := .int .u64 x3) (by go_simp) (by go_simp)
  clear cX0_0 cX0_1 cX0_2 cX0_3 sX0 fX0_0 fX0_1 fX0_2 fX0_3
  have cX0_0 := ncX0_0; clear ncX0_0
  have fX0_0 := nfX0_0; clear nfX0_0
  have cX0_1 := ncX0_1; clear ncX0_1
  have fX0_1 := nfX0_1; clear nfX0_1
  have cX0_2 := ncX0_2; clear ncX0_2
  have fX0_2 := nfX0_2; clear nfX0_2
  have cX0_3 := ncX0_3; clear ncX0_3
  have fX0_3 := nfX0_3; clear nfX0_3
  have sX0 : w.heap.size < w2.heap.size := World.block_lt_of_cell? _ _ cX0_0
  clear hb
  go_wp2_with fail
  (with_reducible refine (h2.out _).mono ?_); rintro e w3 ⟨rfl, hb⟩
  have hz := bC (bA (Below.refl _ _) _) hb
  clear cX0_0 cX0_1 cX0_2 cX0_3 sX0
  have cX1_0 := cell_later hb (a := ⟨w2.heap.size, 0, none⟩) (v := .int .u64 rh) (by go_simp)
  have cX1_1 := cell_later hb (a := ⟨w2.heap.size, 1, none⟩) (v := .int .u64 rl) (by go_simp)
  have sX1 : w2.heap.size < w3.heap.size := World.block_lt_of_cell? _ _ cX1_0
  replace kk := bC kk hz
  clear hb hz
  go_wp2_with fail
  (with_reducible refine (h3.out _).mono ?_); rintro e w4 ⟨rfl, hb⟩
  replace cX1_0 := cell_later hb cX1_0; replace cX1_1 := cell_later hb cX1_1
  replace sX1 : w2.heap.size < w4.heap.size := World.block_lt_of_cell? _ _ cX1_0
  replace kk := bC kk hb
  clear hb
  go_wp2_with fail
  (with_reducible refine (h4.out _).mono ?_); rintro e w5 ⟨rfl, hb⟩
  have hz := bC (bA (Below.refl _ _) _) hb
  clear cX1_0 cX1_1 sX1
  have cX2_0 := cell_later hb (a := ⟨w4.heap.size, 0, none⟩) (v := .int .u64 bh) (by go_simp)
  have cX2_1 := cell_later hb (a := ⟨w4.heap.size, 1, none⟩) (v := .int .u64 bl) (by go_simp)
  have sX2 : w4.heap.size < w5.heap.size := World.block_lt_of_cell? _ _ cX2_0
  replace kk := bC kk hz
  clear hb hz
  go_wp2_with fail
  (with_reducible refine (h5.out _).mono ?_); rintro e w6 ⟨rfl, hb⟩
  have hz := bC (bA (Below.refl _ _) _) hb
  clear cX2_0 cX2_1 sX2
  replace kk := bC kk hz
  clear hb hz
  go_wp2_with fail
  (with_reducible refine (h6.out _).mono ?_); rintro e w7 ⟨rfl, hb⟩
  have hz := bC (bA (Below.refl _ _) _) hb
  replace kk := bC kk hz
  clear hb hz
  go_wp2_with fail
  go_ret
  exact ⟨rfl, kk⟩

set_option maxHeartbeats 4000000 in
set_option maxRecDepth 100000 in
theorem four6_zero (a0 a1 a2 a3 x0 x1 x2 x3 y0 y1 y2 y3 rh rl bh bl th tl : Int)
    (h0 : Hid (∀ w, Calls Try.prog 19 #[.agg #[.int .u64 a0, .int .u64 a1, .int .u64 a2, .int .u64 a3], .int .i64 2] w fun e w' => e = .returned (.agg #[.int .u64 x0, .int .u64 x1, .int .u64 x2, .int .u64 x3]) ∧ Below w.heap.size w w'))
    (h1 : Hid (∀ w, Calls Try.prog 9 #[.agg #[.int .u64 x0, .int .u64 x1, .int .u64 x2, .int .u64 x3]] w fun e w' => e = .returned (.tuple #[.agg #[.int .u64 rh, .int .u64 rl], .bool false]) ∧ Below w.heap.size w w'))
    (h2 : Hid (∀ w, Calls Try.prog 20 #[.agg #[.int .u64 x0, .int .u64 x1, .int .u64 x2, .int .u64 x3], .int .i64 2] w fun e w' => e = .returned (.agg #[.int .u64 y0, .int .u64 y1, .int .u64 y2, .int .u64 y3]) ∧ Below w.heap.size w w'))
    (h3 : Hid (∀ w, Calls Try.prog 9 #[.agg #[.int .u64 y0, .int .u64 y1, .int .u64 y2, .int .u64 y3]] w fun e w' => e = .returned (.tuple #[.agg #[.int .u64 bh, .int .u64 bl], .bool false]) ∧ Below w.heap.size w w'))
    (h4 : Hid (∀ w, Calls Try.prog 21 #[.agg #[.int .u64 rh, .int .u64 rl], .int .i64 1] w fun e w' => e = .returned (.agg #[.int .u64 th, .int .u64 tl]) ∧ Below w.heap.size w w'))
    (h5 : Hid (∀ w, Calls Try.prog 17 #[.agg #[.int .u64 bh, .int .u64 bl], .agg #[.int .u64 th, .int .u64 tl]] w fun e w' => e = .returned (.tuple #[.agg #[.int .u64 0, .int .u64 0], .bool false]) ∧ Below w.heap.size w w'))
    (h6 : Hid (∀ w, Calls Try.prog 11 #[] w fun e w' => e = .returned (.bool true) ∧ Below w.heap.size w w')) (w : World) :
    Calls Try.prog 7 #[.agg #[.int .u64 a0, .int .u64 a1, .int .u64 a2, .int .u64 a3]] w fun e w' => e = .returned (.bool true) ∧ Below w.heap.size w w' := by
  go_enter Try.func7, Try.ntmps7
  go_wp2_with fail
  (with_reducible refine (h0.out _).mono ?_); rintro e w1 ⟨rfl, hb⟩
  have hz := bC (bA (Below.refl _ _) _) hb
  have gX0 : w.heap.size ≤ w.heap.size := by omega
  have cX0_0 := cell_later hb (a := ⟨w.heap.size, 0, none⟩) (v := .int .u64 a0) (by go_simp)
  have cX0_1 := cell_later hb (a := ⟨w.heap.size, 1, none⟩) (v := .int .u64 a1) (by go_simp)
  have cX0_2 := cell_later hb (a := ⟨w.heap.size, 2, none⟩) (v := .int .u64 a2) (by go_simp)
  have cX0_3 := cell_later hb (a := ⟨w.heap.size, 3, none⟩) (v := .int .u64 a3) (by go_simp)
  have sX0 : w.heap.size < w1.heap.size := World.block_lt_of_cell? _ _ cX0_0
  have fX0_0 := frozen_later hb (a := ⟨w.heap.size, 0, none⟩) (v := .int .u64 a0) (by go_simp) (by go_simp)
  have fX0_1 := frozen_later hb (a := ⟨w.heap.size, 1, none⟩) (v := .int .u64 a1) (by go_simp) (by go_simp)
  have fX0_2 := frozen_later hb (a := ⟨w.heap.size, 2, none⟩) (v := .int .u64 a2) (by go_simp) (by go_simp)
  have fX0_3 := frozen_later hb (a := ⟨w.heap.size, 3, none⟩) (v := .int .u64 a3) (by go_simp) (by go_simp)
  have kk := hz
  clear hb hz
  go_wp2_with fail
  (with_reducible refine (h1.out _).mono ?_); rintro e w2 ⟨rfl, hb⟩
  replace kk := bC ((((kk.setCell (p := ⟨w.heap.size, 0, none⟩) gX0 _).setCell (p := ⟨w.heap.size, 1, none⟩) gX0 _).setCell (p := ⟨w.heap.size, 2, none⟩) gX0 _).setCell (p := ⟨w.heap.size, 3, none⟩) gX0 _) hb
  have ncX0_0 := cell_later hb (a := ⟨w.heap.size, 0, none⟩) (v := .int .u64 x0) (by go_simp)
  have ncX0_1 := cell_later hb (a := ⟨w.heap.size, 1, none⟩) (v := .int .u64 x1) (by go_simp)
  have ncX0_2 := cell_later hb (a := ⟨w.heap.size, 2, none⟩) (v := .int .u64 x2) (by go_simp)
  have ncX0_3 := cell_later hb (a := ⟨w.heap.size, 3, none⟩) (v := .int .u64 x3) (by go_simp)
  have nfX0_0 := frozen_later hb (a := ⟨w.heap.size, 0, none⟩) (v := .int .u64 x0) (by go_simp) (by go_simp)
  have nfX0_1 := frozen_later hb (a := ⟨w.heap.size, 1, none⟩) (v := .int .u64 x1) (by go_simp) (by go_simp)
  have nfX0_2 := frozen_later hb (a := ⟨w.heap.size, 2, none⟩) (v := .int .u64 x2) (by go_simp) (by go_simp)
  have nfX0_3 := frozen_later hb (a := ⟨w.heap.size, 3, none⟩) (v := .int .u64 x3) (by go_simp) (by go_simp)
  clear cX0_0 cX0_1 cX0_2 cX0_3 sX0 fX0_0 fX0_1 fX0_2 fX0_3
  have cX0_0 := ncX0_0; clear ncX0_0
  have fX0_0 := nfX0_0; clear nfX0_0
  have cX0_1 := ncX0_1; clear ncX0_1
  have fX0_1 := nfX0_1; clear nfX0_1
  have cX0_2 := ncX0_2; clear ncX0_2
  have fX0_2 := nfX0_2; clear nfX0_2
  have cX0_3 := ncX0_3; clear ncX0_3
  have fX0_3 := nfX0_3; clear nfX0_3
  have sX0 : w.heap.size < w2.heap.size := World.block_lt_of_cell? _ _ cX0_0
  clear hb
  go_wp2_with fail
  (with_reducible refine (h2.out _).mono ?_); rintro e w3 ⟨rfl, hb⟩
  have hz := bC (bA (Below.refl _ _) _) hb
  clear cX0_0 cX0_1 cX0_2 cX0_3 sX0
  have cX1_0 := cell_later hb (a := ⟨w2.heap.size, 0, none⟩) (v := .int .u64 rh) (by go_simp)
  have cX1_1 := cell_later hb (a := ⟨w2.heap.size, 1, none⟩) (v := .int .u64 rl) (by go_simp)
  have sX1 : w2.heap.size < w3.heap.size := World.block_lt_of_cell? _ _ cX1_0
  replace kk := bC kk hz
  clear hb hz
  go_wp2_with fail
  (with_reducible refine (h3.out _).mono ?_); rintro e w4 ⟨rfl, hb⟩
  replace cX1_0 := cell_later hb cX1_0; replace cX1_1 := cell_later hb cX1_1
  replace sX1 : w2.heap.size < w4.heap.size := World.block_lt_of_cell? _ _ cX1_0
  replace kk := bC kk hb
  clear hb
  go_wp2_with fail
  (with_reducible refine (h4.out _).mono ?_); rintro e w5 ⟨rfl, hb⟩
  have hz := bC (bA (Below.refl _ _) _) hb
  clear cX1_0 cX1_1 sX1
  have cX2_0 := cell_later hb (a := ⟨w4.heap.size, 0, none⟩) (v := .int .u64 bh) (by go_simp)
  have cX2_1 := cell_later hb (a := ⟨w4.heap.size, 1, none⟩) (v := .int .u64 bl) (by go_simp)
  have sX2 : w4.heap.size < w5.heap.size := World.block_lt_of_cell? _ _ cX2_0
  replace kk := bC kk hz
  clear hb hz
  go_wp2_with fail
  (with_reducible refine (h5.out _).mono ?_); rintro e w6 ⟨rfl, hb⟩
  have hz := bC (bA (Below.refl _ _) _) hb
  clear cX2_0 cX2_1 sX2
  replace kk := bC kk hz
  clear hb hz
  go_wp2_with fail
  (with_reducible refine (h6.out _).mono ?_); rintro e w7 ⟨rfl, hb⟩
  have hz := bC (bA (Below.refl _ _) _) hb
  replace kk := bC kk hz
  clear hb hz
  go_wp2_with fail
  go_ret
  exact ⟨rfl, kk⟩

set_option maxHeartbeats 4000000 in
set_option maxRecDepth 100000 in
theorem four6_one (a0 a1 a2 a3 x0 x1 x2 x3 y0 y1 y2 y3 rh rl bh bl th tl : Int)
    (h0 : Hid (∀ w, Calls Try.prog 19 #[.agg #[.int .u64 a0, .int .u64 a1, .int .u64 a2, .int .u64 a3], .int .i64 2] w fun e w' => e = .returned (.agg #[.int .u64 x0, .int .u64 x1, .int .u64 x2, .int .u64 x3]) ∧ Below w.heap.size w w'))
    (h1 : Hid (∀ w, Calls Try.prog 9 #[.agg #[.int .u64 x0, .int .u64 x1, .int .u64 x2, .int .u64 x3]] w fun e w' => e = .returned (.tuple #[.agg #[.int .u64 rh, .int .u64 rl], .bool false]) ∧ Below w.heap.size w w'))
    (h2 : Hid (∀ w, Calls Try.prog 20 #[.agg #[.int .u64 x0, .int .u64 x1, .int .u64 x2, .int .u64 x3], .int .i64 2] w fun e w' => e = .returned (.agg #[.int .u64 y0, .int .u64 y1, .int .u64 y2, .int .u64 y3]) ∧ Below w.heap.size w w'))
    (h3 : Hid (∀ w, Calls Try.prog 9 #[.agg #[.int .u64 y0, .int .u64 y1, .int .u64 y2, .int .u64 y3]] w fun e w' => e = .returned (.tuple #[.agg #[.int .u64 bh, .int .u64 bl], .bool false]) ∧ Below w.heap.size w w'))
    (h4 : Hid (∀ w, Calls Try.prog 21 #[.agg #[.int .u64 rh, .int .u64 rl], .int .i64 1] w fun e w' => e = .returned (.agg #[.int .u64 th, .int .u64 tl]) ∧ Below w.heap.size w w'))
    (h5 : Hid (∀ w, Calls Try.prog 17 #[.agg #[.int .u64 bh, .int .u64 bl], .agg #[.int .u64 th, .int .u64 tl]] w fun e w' => e = .returned (.tuple #[.agg #[.int .u64 0, .int .u64 1], .bool false]) ∧ Below w.heap.size w w'))
    (h6 : Hid (∀ w, Calls Try.prog 11 #[] w fun e w' => e = .returned (.bool true) ∧ Below w.heap.size w w')) (w : World) :
    Calls Try.prog 7 #[.agg #[.int .u64 a0, .int .u64 a1, .int .u64 a2, .int .u64 a3]] w fun e w' => e = .returned (.bool true) ∧ Below w.heap.size w w' := by
  go_enter Try.func7, Try.ntmps7
  go_wp2_with fail
  (with_reducible refine (h0.out _).mono ?_); rintro e w1 ⟨rfl, hb⟩
  have hz := bC (bA (Below.refl _ _) _) hb
  have gX0 : w.heap.size ≤ w.heap.size := by omega
  have cX0_0 := cell_later hb (a := ⟨w.heap.size, 0, none⟩) (v := .int .u64 a0) (by go_simp)
  have cX0_1 := cell_later hb (a := ⟨w.heap.size, 1, none⟩) (v := .int .u64 a1) (by go_simp)
  have cX0_2 := cell_later hb (a := ⟨w.heap.size, 2, none⟩) (v := .int .u64 a2) (by go_simp)
  have cX0_3 := cell_later hb (a := ⟨w.heap.size, 3, none⟩) (v := .int .u64 a3) (by go_simp)
  have sX0 : w.heap.size < w1.heap.size := World.block_lt_of_cell? _ _ cX0_0
  have fX0_0 := frozen_later hb (a := ⟨w.heap.size, 0, none⟩) (v := .int .u64 a0) (by go_simp) (by go_simp)
  have fX0_1 := frozen_later hb (a := ⟨w.heap.size, 1, none⟩) (v := .int .u64 a1) (by go_simp) (by go_simp)
  have fX0_2 := frozen_later hb (a := ⟨w.heap.size, 2, none⟩) (v := .int .u64 a2) (by go_simp) (by go_simp)
  have fX0_3 := frozen_later hb (a := ⟨w.heap.size, 3, none⟩) (v := .int .u64 a3) (by go_simp) (by go_simp)
  have kk := hz
  clear hb hz
  go_wp2_with fail
  (with_reducible refine (h1.out _).mono ?_); rintro e w2 ⟨rfl, hb⟩
  replace kk := bC ((((kk.setCell (p := ⟨w.heap.size, 0, none⟩) gX0 _).setCell (p := ⟨w.heap.size, 1, none⟩) gX0 _).setCell (p := ⟨w.heap.size, 2, none⟩) gX0 _).setCell (p := ⟨w.heap.size, 3, none⟩) gX0 _) hb
  have ncX0_0 := cell_later hb (a := ⟨w.heap.size, 0, none⟩) (v := .int .u64 x0) (by go_simp)
  have ncX0_1 := cell_later hb (a := ⟨w.heap.size, 1, none⟩) (v := .int .u64 x1) (by go_simp)
  have ncX0_2 := cell_later hb (a := ⟨w.heap.size, 2, none⟩) (v := .int .u64 x2) (by go_simp)
  have ncX0_3 := cell_later hb (a := ⟨w.heap.size, 3, none⟩) (v := .int .u64 x3) (by go_simp)
  have nfX0_0 := frozen_later hb (a := ⟨w.heap.size, 0, none⟩) (v := .int .u64 x0) (by go_simp) (by go_simp)
  have nfX0_1 := frozen_later hb (a := ⟨w.heap.size, 1, none⟩) (v := .int .u64 x1) (by go_simp) (by go_simp)
  have nfX0_2 := frozen_later hb (a := ⟨w.heap.size, 2, none⟩) (v := .int .u64 x2) (by go_simp) (by go_simp)
  have nfX0_3 := frozen_later hb (a := ⟨w.heap.size, 3, none⟩) (v := .int .u64 x3) (by go_simp) (by go_simp)
  clear cX0_0 cX0_1 cX0_2 cX0_3 sX0 fX0_0 fX0_1 fX0_2 fX0_3
  have cX0_0 := ncX0_0; clear ncX0_0
  have fX0_0 := nfX0_0; clear nfX0_0
  have cX0_1 := ncX0_1; clear ncX0_1
  have fX0_1 := nfX0_1; clear nfX0_1
  have cX0_2 := ncX0_2; clear ncX0_2
  have fX0_2 := nfX0_2; clear nfX0_2
  have cX0_3 := ncX0_3; clear ncX0_3
  have fX0_3 := nfX0_3; clear nfX0_3
  have sX0 : w.heap.size < w2.heap.size := World.block_lt_of_cell? _ _ cX0_0
  clear hb
  go_wp2_with fail
  (with_reducible refine (h2.out _).mono ?_); rintro e w3 ⟨rfl, hb⟩
  have hz := bC (bA (Below.refl _ _) _) hb
  clear cX0_0 cX0_1 cX0_2 cX0_3 sX0
  have cX1_0 := cell_later hb (a := ⟨w2.heap.size, 0, none⟩) (v := .int .u64 rh) (by go_simp)
  have cX1_1 := cell_later hb (a := ⟨w2.heap.size, 1, none⟩) (v := .int .u64 rl) (by go_simp)
  have sX1 : w2.heap.size < w3.heap.size := World.block_lt_of_cell? _ _ cX1_0
  replace kk := bC kk hz
  clear hb hz
  go_wp2_with fail
  (with_reducible refine (h3.out _).mono ?_); rintro e w4 ⟨rfl, hb⟩
  replace cX1_0 := cell_later hb cX1_0; replace cX1_1 := cell_later hb cX1_1
  replace sX1 : w2.heap.size < w4.heap.size := World.block_lt_of_cell? _ _ cX1_0
  replace kk := bC kk hb
  clear hb
  go_wp2_with fail
  (with_reducible refine (h4.out _).mono ?_); rintro e w5 ⟨rfl, hb⟩
  have hz := bC (bA (Below.refl _ _) _) hb
  clear cX1_0 cX1_1 sX1
  have cX2_0 := cell_later hb (a := ⟨w4.heap.size, 0, none⟩) (v := .int .u64 bh) (by go_simp)
  have cX2_1 := cell_later hb (a := ⟨w4.heap.size, 1, none⟩) (v := .int .u64 bl) (by go_simp)
  have sX2 : w4.heap.size < w5.heap.size := World.block_lt_of_cell? _ _ cX2_0
  replace kk := bC kk hz
  clear hb hz
  go_wp2_with fail
  (with_reducible refine (h5.out _).mono ?_); rintro e w6 ⟨rfl, hb⟩
  have hz := bC (bA (Below.refl _ _) _) hb
  clear cX2_0 cX2_1 sX2
  replace kk := bC kk hz
  clear hb hz
  go_wp2_with fail
  (with_reducible refine (h6.out _).mono ?_); rintro e w7 ⟨rfl, hb⟩
  have hz := bC (bA (Below.refl _ _) _) hb
  replace kk := bC kk hz
  clear hb hz
  go_wp2_with fail
  go_ret
  exact ⟨rfl, kk⟩

end Go.Proofs.Ytbibinmjipcdjaa
