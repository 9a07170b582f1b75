/-
  The walk of the statement QuotOrder (2).
-/
import Derived.Test.YtlmgebanfjclcaaQuotW
set_option linter.unusedVariables false
set_option linter.unusedSimpArgs false
set_option maxRecDepth 100000
namespace Go.Proofs.Ytlmgebanfjclcaa
open Go.RowKit
attribute [local go_sem ↓] Go.wp_at_zero Go.wp_at_succ

set_option maxHeartbeats 4000000 in
set_option maxRecDepth 100000 in
theorem order5_2_zero (n0 n1 n2 n3 m0 m1 m2 m3 dh dl eh el c g : Int)
    (h0 : Hid (∀ w, Calls Try.prog 30 #[.agg #[.int .u64 n0, .int .u64 n1, .int .u64 n2, .int .u64 n3], .agg #[.int .u64 m0, .int .u64 m1, .int .u64 m2, .int .u64 m3]] w fun e w' => e = .returned (.int .i64 c) ∧ Below w.heap.size w w'))
    (h1 : Hid (∀ w, Calls Try.prog 24 #[.agg #[.int .u64 dh, .int .u64 dl], .agg #[.int .u64 eh, .int .u64 el]] w fun e w' => e = .returned (.int .i64 g) ∧ Below w.heap.size w w'))
    (h2 : Hid (∀ w, Calls Try.prog 16 #[.agg #[.int .u64 dh, .int .u64 dl]] w fun e w' => e = .returned (.bool true) ∧ Below w.heap.size w w'))
    (h3 : Hid (∀ w, Calls Try.prog 13 #[] w fun e w' => e = .returned (.bool true) ∧ Below w.heap.size w w')) (hc : decide (0 < c) = true) (hg : decide (0 < g) = false) (w : World) :
    Calls Try.prog 7 #[.agg #[.int .u64 n0, .int .u64 n1, .int .u64 n2, .int .u64 n3], .agg #[.int .u64 m0, .int .u64 m1, .int .u64 m2, .int .u64 m3], .agg #[.int .u64 dh, .int .u64 dl], .agg #[.int .u64 eh, .int .u64 el]] w fun e w' => e = .returned (.bool true) ∧ Below w.heap.size w w' := by
  go_enter Try.func7, Try.ntmps7
  go_wp2_with fail
  (with_reducible refine (h0.out _).mono ?_); rintro e w1 ⟨rfl, hb⟩
  have hz := bC (bA (bA (bA (bA (Below.refl _ _) _) _) _) _) hb
  have gX0 : w.heap.size ≤ w.heap.size := by omega
  have gX1 : w.heap.size ≤ w.heap.size + 1 := by omega
  have cX0_0 := cell_later hb (a := ⟨w.heap.size, 0, none⟩) (v := .int .u64 n0) (by go_simp)
  have cX0_1 := cell_later hb (a := ⟨w.heap.size, 1, none⟩) (v := .int .u64 n1) (by go_simp)
  have cX0_2 := cell_later hb (a := ⟨w.heap.size, 2, none⟩) (v := .int .u64 n2) (by go_simp)
  have cX0_3 := cell_later hb (a := ⟨w.heap.size, 3, none⟩) (v := .int .u64 n3) (by go_simp)
  have sX0 : w.heap.size < w1.heap.size := World.block_lt_of_cell? _ _ cX0_0
  have fX0_0 := frozen_later hb (a := ⟨w.heap.size, 0, none⟩) (v := .int .u64 n0) (by go_simp) (by go_simp)
  have fX0_1 := frozen_later hb (a := ⟨w.heap.size, 1, none⟩) (v := .int .u64 n1) (by go_simp) (by go_simp)
  have fX0_2 := frozen_later hb (a := ⟨w.heap.size, 2, none⟩) (v := .int .u64 n2) (by go_simp) (by go_simp)
  have fX0_3 := frozen_later hb (a := ⟨w.heap.size, 3, none⟩) (v := .int .u64 n3) (by go_simp) (by go_simp)
  have cX1_0 := cell_later hb (a := ⟨w.heap.size + 1, 0, none⟩) (v := .int .u64 m0) (by go_simp)
  have cX1_1 := cell_later hb (a := ⟨w.heap.size + 1, 1, none⟩) (v := .int .u64 m1) (by go_simp)
  have cX1_2 := cell_later hb (a := ⟨w.heap.size + 1, 2, none⟩) (v := .int .u64 m2) (by go_simp)
  have cX1_3 := cell_later hb (a := ⟨w.heap.size + 1, 3, none⟩) (v := .int .u64 m3) (by go_simp)
  have sX1 : w.heap.size + 1 < w1.heap.size ∧ w.heap.size < w1.heap.size := by have h : w.heap.size + 1 < w1.heap.size := World.block_lt_of_cell? _ _ cX1_0; exact ⟨h, by omega⟩
  have fX1_0 := frozen_later hb (a := ⟨w.heap.size + 1, 0, none⟩) (v := .int .u64 m0) (by go_simp) (by go_simp)
  have fX1_1 := frozen_later hb (a := ⟨w.heap.size + 1, 1, none⟩) (v := .int .u64 m1) (by go_simp) (by go_simp)
  have fX1_2 := frozen_later hb (a := ⟨w.heap.size + 1, 2, none⟩) (v := .int .u64 m2) (by go_simp) (by go_simp)
  have fX1_3 := frozen_later hb (a := ⟨w.heap.size + 1, 3, none⟩) (v := .int .u64 m3) (by go_simp) (by go_simp)
  have cX2_0 := cell_later hb (a := ⟨w.heap.size + 1 + 1, 0, none⟩) (v := .int .u64 dh) (by go_simp)
  have cX2_1 := cell_later hb (a := ⟨w.heap.size + 1 + 1, 1, none⟩) (v := .int .u64 dl) (by go_simp)
  have sX2 : w.heap.size + 1 + 1 < w1.heap.size ∧ w.heap.size + 1 < w1.heap.size := by have h : w.heap.size + 1 + 1 < w1.heap.size := World.block_lt_of_cell? _ _ cX2_0; exact ⟨h, by omega⟩
  have cX3_0 := cell_later hb (a := ⟨w.heap.size + 1 + 1 + 1, 0, none⟩) (v := .int .u64 eh) (by go_simp)
  have cX3_1 := cell_later hb (a := ⟨w.heap.size + 1 + 1 + 1, 1, none⟩) (v := .int .u64 el) (by go_simp)
  have sX3 : w.heap.size + 1 + 1 + 1 < w1.heap.size ∧ w.heap.size + 1 + 1 < w1.heap.size := by have h : w.heap.size + 1 + 1 + 1 < w1.heap.size := World.block_lt_of_cell? _ _ cX3_0; exact ⟨h, by omega⟩
  have kk := hz
  clear hb hz
  go_wp2_with fail
  (with_reducible refine (h1.out _).mono ?_); rintro e w2 ⟨rfl, hb⟩
  replace kk := bC ((((((((kk.setCell (p := ⟨w.heap.size, 0, none⟩) gX0 _).setCell (p := ⟨w.heap.size, 1, none⟩) gX0 _).setCell (p := ⟨w.heap.size, 2, none⟩) gX0 _).setCell (p := ⟨w.heap.size, 3, none⟩) gX0 _).setCell (p := ⟨w.heap.size + 1, 0, none⟩) gX1 _).setCell (p := ⟨w.heap.size + 1, 1, none⟩) gX1 _).setCell (p := ⟨w.heap.size + 1, 2, none⟩) gX1 _).setCell (p := ⟨w.heap.size + 1, 3, none⟩) gX1 _) hb
  clear cX0_0 cX0_1 cX0_2 cX0_3 sX0
  clear cX1_0 cX1_1 cX1_2 cX1_3 sX1
  clear cX3_0 cX3_1 sX3
  have ncX2_0 := cell_later hb (a := ⟨w.heap.size + 1 + 1, 0, none⟩) (v := .int .u64 dh) (by go_simp)
  have ncX2_1 := cell_later hb (a := ⟨w.heap.size + 1 + 1, 1, none⟩) (v := .int .u64 dl) (by go_simp)
  clear cX2_0 cX2_1 sX2
  have cX2_0 := ncX2_0; clear ncX2_0
  have cX2_1 := ncX2_1; clear ncX2_1
  have sX2 : w.heap.size + 1 + 1 < w2.heap.size ∧ w.heap.size + 1 < w2.heap.size := by have h : w.heap.size + 1 + 1 < w2.heap.size := World.block_lt_of_cell? _ _ cX2_0; exact ⟨h, by omega⟩
  clear hb
  go_wp2_with fail
  (with_reducible refine (h2.out _).mono ?_); rintro e w3 ⟨rfl, hb⟩
  clear cX2_0 cX2_1 sX2
  replace kk := bC kk hb
  clear hb
  go_wp2_with fail
  (with_reducible refine (h3.out _).mono ?_); rintro e w4 ⟨rfl, hb⟩
  replace kk := bC kk hb
  clear hb
  go_wp2_with fail
  go_ret
  exact ⟨rfl, kk⟩

set_option maxHeartbeats 4000000 in
set_option maxRecDepth 100000 in
theorem order5_2_div (n0 n1 n2 n3 m0 m1 m2 m3 dh dl eh el x0 x1 x2 x3 y0 y1 y2 y3 z0 z1 z2 z3 uh ul vh vl th tl k l c g : Int) (o p i : Bool)
    (h0 : Hid (∀ w, Calls Try.prog 30 #[.agg #[.int .u64 n0, .int .u64 n1, .int .u64 n2, .int .u64 n3], .agg #[.int .u64 m0, .int .u64 m1, .int .u64 m2, .int .u64 m3]] w fun e w' => e = .returned (.int .i64 c) ∧ Below w.heap.size w w'))
    (h1 : Hid (∀ w, Calls Try.prog 24 #[.agg #[.int .u64 dh, .int .u64 dl], .agg #[.int .u64 eh, .int .u64 el]] w fun e w' => e = .returned (.int .i64 g) ∧ Below w.heap.size w w'))
    (h2 : Hid (∀ w, Calls Try.prog 16 #[.agg #[.int .u64 dh, .int .u64 dl]] w fun e w' => e = .returned (.bool false) ∧ Below w.heap.size w w'))
    (h3 : Hid (∀ w, Calls Try.prog 10 #[.agg #[.int .u64 m0, .int .u64 m1, .int .u64 m2, .int .u64 m3], .agg #[.int .u64 dh, .int .u64 dl]] w fun e w' => e = .returned (.tuple #[.agg #[.int .u64 x0, .int .u64 x1, .int .u64 x2, .int .u64 x3], .agg #[.int .u64 uh, .int .u64 ul], .bool o]) ∧ Below w.heap.size w w'))
    (h4 : Hid (∀ w, Calls Try.prog 10 #[.agg #[.int .u64 n0, .int .u64 n1, .int .u64 n2, .int .u64 n3], .agg #[.int .u64 dh, .int .u64 dl]] w fun e w' => e = .returned (.tuple #[.agg #[.int .u64 y0, .int .u64 y1, .int .u64 y2, .int .u64 y3], .agg #[.int .u64 vh, .int .u64 vl], .bool p]) ∧ Below w.heap.size w w'))
    (h5 : Hid (∀ w, Calls Try.prog 10 #[.agg #[.int .u64 m0, .int .u64 m1, .int .u64 m2, .int .u64 m3], .agg #[.int .u64 eh, .int .u64 el]] w fun e w' => e = .returned (.tuple #[.agg #[.int .u64 z0, .int .u64 z1, .int .u64 z2, .int .u64 z3], .agg #[.int .u64 th, .int .u64 tl], .bool i]) ∧ Below w.heap.size w w'))
    (h6 : Hid (∀ w, Calls Try.prog 30 #[.agg #[.int .u64 x0, .int .u64 x1, .int .u64 x2, .int .u64 x3], .agg #[.int .u64 y0, .int .u64 y1, .int .u64 y2, .int .u64 y3]] w fun e w' => e = .returned (.int .i64 k) ∧ Below w.heap.size w w'))
    (h7 : Hid (∀ w, Calls Try.prog 30 #[.agg #[.int .u64 z0, .int .u64 z1, .int .u64 z2, .int .u64 z3], .agg #[.int .u64 x0, .int .u64 x1, .int .u64 x2, .int .u64 x3]] w fun e w' => e = .returned (.int .i64 l) ∧ Below w.heap.size w w'))
    (h8 : Hid (∀ w, Calls Try.prog 13 #[] w fun e w' => e = .returned (.bool true) ∧ Below w.heap.size w w')) (hc : decide (0 < c) = true) (hg : decide (0 < g) = false) (hk : decide (k ≤ 0) = true) (hl : decide (l ≤ 0) = true) (w : World) :
    Calls Try.prog 7 #[.agg #[.int .u64 n0, .int .u64 n1, .int .u64 n2, .int .u64 n3], .agg #[.int .u64 m0, .int .u64 m1, .int .u64 m2, .int .u64 m3], .agg #[.int .u64 dh, .int .u64 dl], .agg #[.int .u64 eh, .int .u64 el]] w fun e w' => e = .returned (.bool true) ∧ Below w.heap.size w w' := by
  go_enter Try.func7, Try.ntmps7
  go_wp2_with fail
  (with_reducible refine (h0.out _).mono ?_); rintro e w1 ⟨rfl, hb⟩
  have hz := bC (bA (bA (bA (bA (Below.refl _ _) _) _) _) _) hb
  have gX0 : w.heap.size ≤ w.heap.size := by omega
  have gX1 : w.heap.size ≤ w.heap.size + 1 := by omega
  have cX0_0 := cell_later hb (a := ⟨w.heap.size, 0, none⟩) (v := .int .u64 n0) (by go_simp)
  have cX0_1 := cell_later hb (a := ⟨w.heap.size, 1, none⟩) (v := .int .u64 n1) (by go_simp)
  have cX0_2 := cell_later hb (a := ⟨w.heap.size, 2, none⟩) (v := .int .u64 n2) (by go_simp)
  have cX0_3 := cell_later hb (a := ⟨w.heap.size, 3, none⟩) (v := .int .u64 n3) (by go_simp)
  have sX0 : w.heap.size < w1.heap.size := World.block_lt_of_cell? _ _ cX0_0
  have fX0_0 := frozen_later hb (a := ⟨w.heap.size, 0, none⟩) (v := .int .u64 n0) (by go_simp) (by go_simp)
  have fX0_1 := frozen_later hb (a := ⟨w.heap.size, 1, none⟩) (v := .int .u64 n1) (by go_simp) (by go_simp)
  have fX0_2 := frozen_later hb (a := ⟨w.heap.size, 2, none⟩) (v := .int .u64 n2) (by go_simp) (by go_simp)
  have fX0_3 := frozen_later hb (a := ⟨w.heap.size, 3, none⟩) (v := .int .u64 n3) (by go_simp) (by go_simp)
  have cX1_0 := cell_later hb (a := ⟨w.heap.size + 1, 0, none⟩) (v := .int .u64 m0) (by go_simp)
  have cX1_1 := cell_later hb (a := ⟨w.heap.size + 1, 1, none⟩) (v := .int .u64 m1) (by go_simp)
  have cX1_2 := cell_later hb (a := ⟨w.heap.size + 1, 2, none⟩) (v := .int .u64 m2) (by go_simp)
  have cX1_3 := cell_later hb (a := ⟨w.heap.size + 1, 3, none⟩) (v := .int .u64 m3) (by go_simp)
  have sX1 : w.heap.size + 1 < w1.heap.size ∧ w.heap.size < w1.heap.size := by have h : w.heap.size + 1 < w1.heap.size := World.block_lt_of_cell? _ _ cX1_0; exact ⟨h, by omega⟩
  have fX1_0 := frozen_later hb (a := ⟨w.heap.size + 1, 0, none⟩) (v := .int .u64 m0) (by go_simp) (by go_simp)
  have fX1_1 := frozen_later hb (a := ⟨w.heap.size + 1, 1, none⟩) (v := .int .u64 m1) (by go_simp) (by go_simp)
  have fX1_2 := frozen_later hb (a := ⟨w.heap.size + 1, 2, none⟩) (v := .int .u64 m2) (by go_simp) (by go_simp)
  have fX1_3 := frozen_later hb (a := ⟨w.heap.size + 1, 3, none⟩) (v := .int .u64 m3) (by go_simp) (by go_simp)
  have cX2_0 := cell_later hb (a := ⟨w.heap.size + 1 + 1, 0, none⟩) (v := .int .u64 dh) (by go_simp)
  have cX2_1 := cell_later hb (a := ⟨w.heap.size + 1 + 1, 1, none⟩) (v := .int .u64 dl) (by go_simp)
  have sX2 : w.heap.size + 1 + 1 < w1.heap.size ∧ w.heap.size + 1 < w1.heap.size := by have h : w.heap.size + 1 + 1 < w1.heap.size := World.block_lt_of_cell? _ _ cX2_0; exact ⟨h, by omega⟩
  have cX3_0 := cell_later hb (a := ⟨w.heap.size + 1 + 1 + 1, 0, none⟩) (v := .int .u64 eh) (by go_simp)
  have cX3_1 := cell_later hb (a := ⟨w.heap.size + 1 + 1 + 1, 1, none⟩) (v := .int .u64 el) (by go_simp)
  have sX3 : w.heap.size + 1 + 1 + 1 < w1.heap.size ∧ w.heap.size + 1 + 1 < w1.heap.size := by have h : w.heap.size + 1 + 1 + 1 < w1.heap.size := World.block_lt_of_cell? _ _ cX3_0; exact ⟨h, by omega⟩
  have kk := hz
  clear hb hz
  go_wp2_with fail
  (with_reducible refine (h1.out _).mono ?_); rintro e w2 ⟨rfl, hb⟩
  replace kk := bC ((((((((kk.setCell (p := ⟨w.heap.size, 0, none⟩) gX0 _).setCell (p := ⟨w.heap.size, 1, none⟩) gX0 _).setCell (p := ⟨w.heap.size, 2, none⟩) gX0 _).setCell (p := ⟨w.heap.size, 3, none⟩) gX0 _).setCell (p := ⟨w.heap.size + 1, 0, none⟩) gX1 _).setCell (p := ⟨w.heap.size + 1, 1, none⟩) gX1 _).setCell (p := ⟨w.heap.size + 1, 2, none⟩) gX1 _).setCell (p := ⟨w.heap.size + 1, 3, none⟩) gX1 _) hb
  have ncX0_0 := cell_later hb (a := ⟨w.heap.size, 0, none⟩) (v := .int .u64 m0) (by go_simp)
  have ncX0_1 := cell_later hb (a := ⟨w.heap.size, 1, none⟩) (v := .int .u64 m1) (by go_simp)
  have ncX0_2 := cell_later hb (a := ⟨w.heap.size, 2, none⟩) (v := .int .u64 m2) (by go_simp)
  have ncX0_3 := cell_later hb (a := ⟨w.heap.size, 3, none⟩) (v := .int .u64 m3) (by go_simp)
  have nfX0_0 := frozen_later hb (a := ⟨w.heap.size, 0, none⟩) (v := .int .u64 m0) (by go_simp) (by go_simp)
  have nfX0_1 := frozen_later hb (a := ⟨w.heap.size, 1, none⟩) (v := .int .u64 m1) (by go_simp) (by go_simp)
  have nfX0_2 := frozen_later hb (a := ⟨w.heap.size, 2, none⟩) (v := .int .u64 m2) (by go_simp) (by go_simp)
  have nfX0_3 := frozen_later hb (a := ⟨w.heap.size, 3, none⟩) (v := .int .u64 m3) (by go_simp) (by go_simp)
  have ncX1_0 := cell_later hb (a := ⟨w.heap.size + 1, 0, none⟩) (v := .int .u64 n0) (by go_simp)
  have ncX1_1 := cell_later hb (a := ⟨w.heap.size + 1, 1, none⟩) (v := .int .u64 n1) (by go_simp)
  have ncX1_2 := cell_later hb (a := ⟨w.heap.size + 1, 2, none⟩) (v := .int .u64 n2) (by go_simp)
  have ncX1_3 := cell_later hb (a := ⟨w.heap.size + 1, 3, none⟩) (v := .int .u64 n3) (by go_simp)
  have nfX1_0 := frozen_later hb (a := ⟨w.heap.size + 1, 0, none⟩) (v := .int .u64 n0) (by go_simp) (by go_simp)
  have nfX1_1 := frozen_later hb (a := ⟨w.heap.size + 1, 1, none⟩) (v := .int .u64 n1) (by go_simp) (by go_simp)
  have nfX1_2 := frozen_later hb (a := ⟨w.heap.size + 1, 2, none⟩) (v := .int .u64 n2) (by go_simp) (by go_simp)
  have nfX1_3 := frozen_later hb (a := ⟨w.heap.size + 1, 3, none⟩) (v := .int .u64 n3) (by go_simp) (by go_simp)
  have ncX2_0 := cell_later hb (a := ⟨w.heap.size + 1 + 1, 0, none⟩) (v := .int .u64 dh) (by go_simp)
  have ncX2_1 := cell_later hb (a := ⟨w.heap.size + 1 + 1, 1, none⟩) (v := .int .u64 dl) (by go_simp)
  have ncX3_0 := cell_later hb (a := ⟨w.heap.size + 1 + 1 + 1, 0, none⟩) (v := .int .u64 eh) (by go_simp)
  have ncX3_1 := cell_later hb (a := ⟨w.heap.size + 1 + 1 + 1, 1, none⟩) (v := .int .u64 el) (by go_simp)
  clear cX0_0 cX0_1 cX0_2 cX0_3 sX0 fX0_0 fX0_1 fX0_2 fX0_3
  have cX0_0 := ncX0_0; clear ncX0_0
  have fX0_0 := nfX0_0; clear nfX0_0
  have cX0_1 := ncX0_1; clear ncX0_1
  have fX0_1 := nfX0_1; clear nfX0_1
  have cX0_2 := ncX0_2; clear ncX0_2
  have fX0_2 := nfX0_2; clear nfX0_2
  have cX0_3 := ncX0_3; clear ncX0_3
  have fX0_3 := nfX0_3; clear nfX0_3
  have sX0 : w.heap.size < w2.heap.size := World.block_lt_of_cell? _ _ cX0_0
  clear cX1_0 cX1_1 cX1_2 cX1_3 sX1 fX1_0 fX1_1 fX1_2 fX1_3
  have cX1_0 := ncX1_0; clear ncX1_0
  have fX1_0 := nfX1_0; clear nfX1_0
  have cX1_1 := ncX1_1; clear ncX1_1
  have fX1_1 := nfX1_1; clear nfX1_1
  have cX1_2 := ncX1_2; clear ncX1_2
  have fX1_2 := nfX1_2; clear nfX1_2
  have cX1_3 := ncX1_3; clear ncX1_3
  have fX1_3 := nfX1_3; clear nfX1_3
  have sX1 : w.heap.size + 1 < w2.heap.size ∧ w.heap.size < w2.heap.size := by have h : w.heap.size + 1 < w2.heap.size := World.block_lt_of_cell? _ _ cX1_0; exact ⟨h, by omega⟩
  clear cX2_0 cX2_1 sX2
  have cX2_0 := ncX2_0; clear ncX2_0
  have cX2_1 := ncX2_1; clear ncX2_1
  have sX2 : w.heap.size + 1 + 1 < w2.heap.size ∧ w.heap.size + 1 < w2.heap.size := by have h : w.heap.size + 1 + 1 < w2.heap.size := World.block_lt_of_cell? _ _ cX2_0; exact ⟨h, by omega⟩
  clear cX3_0 cX3_1 sX3
  have cX3_0 := ncX3_0; clear ncX3_0
  have cX3_1 := ncX3_1; clear ncX3_1
  have sX3 : w.heap.size + 1 + 1 + 1 < w2.heap.size ∧ w.heap.size + 1 + 1 < w2.heap.size := by have h : w.heap.size + 1 + 1 + 1 < w2.heap.size := World.block_lt_of_cell? _ _ cX3_0; exact ⟨h, by omega⟩
  clear hb
  go_wp2_with fail
  (with_reducible refine (h2.out _).mono ?_); rintro e w3 ⟨rfl, hb⟩
  replace fX0_0 := frozen_later hb cX0_0 fX0_0; replace fX0_1 := frozen_later hb cX0_1 fX0_1; replace fX0_2 := frozen_later hb cX0_2 fX0_2; replace fX0_3 := frozen_later hb cX0_3 fX0_3
  replace cX0_0 := cell_later hb cX0_0; replace cX0_1 := cell_later hb cX0_1; replace cX0_2 := cell_later hb cX0_2; replace cX0_3 := cell_later hb cX0_3
  replace sX0 : w.heap.size < w3.heap.size := World.block_lt_of_cell? _ _ cX0_0
  replace fX1_0 := frozen_later hb cX1_0 fX1_0; replace fX1_1 := frozen_later hb cX1_1 fX1_1; replace fX1_2 := frozen_later hb cX1_2 fX1_2; replace fX1_3 := frozen_later hb cX1_3 fX1_3
  replace cX1_0 := cell_later hb cX1_0; replace cX1_1 := cell_later hb cX1_1; replace cX1_2 := cell_later hb cX1_2; replace cX1_3 := cell_later hb cX1_3
  replace sX1 : w.heap.size + 1 < w3.heap.size ∧ w.heap.size < w3.heap.size := by have h : w.heap.size + 1 < w3.heap.size := World.block_lt_of_cell? _ _ cX1_0; exact ⟨h, by omega⟩
  replace cX2_0 := cell_later hb cX2_0; replace cX2_1 := cell_later hb cX2_1
  replace sX2 : w.heap.size + 1 + 1 < w3.heap.size ∧ w.heap.size + 1 < w3.heap.size := by have h : w.heap.size + 1 + 1 < w3.heap.size := World.block_lt_of_cell? _ _ cX2_0; exact ⟨h, by omega⟩
  replace cX3_0 := cell_later hb cX3_0; replace cX3_1 := cell_later hb cX3_1
  replace sX3 : w.heap.size + 1 + 1 + 1 < w3.heap.size ∧ w.heap.size + 1 + 1 < w3.heap.size := by have h : w.heap.size + 1 + 1 + 1 < w3.heap.size := World.block_lt_of_cell? _ _ cX3_0; exact ⟨h, by omega⟩
  replace kk := bC kk hb
  clear hb
  go_wp2_with fail
  (with_reducible refine (h3.out _).mono ?_); rintro e w4 ⟨rfl, hb⟩
  replace fX0_0 := frozen_later hb cX0_0 fX0_0; replace fX0_1 := frozen_later hb cX0_1 fX0_1; replace fX0_2 := frozen_later hb cX0_2 fX0_2; replace fX0_3 := frozen_later hb cX0_3 fX0_3
  replace cX0_0 := cell_later hb cX0_0; replace cX0_1 := cell_later hb cX0_1; replace cX0_2 := cell_later hb cX0_2; replace cX0_3 := cell_later hb cX0_3
  replace sX0 : w.heap.size < w4.heap.size := World.block_lt_of_cell? _ _ cX0_0
  replace fX1_0 := frozen_later hb cX1_0 fX1_0; replace fX1_1 := frozen_later hb cX1_1 fX1_1; replace fX1_2 := frozen_later hb cX1_2 fX1_2; replace fX1_3 := frozen_later hb cX1_3 fX1_3
  replace cX1_0 := cell_later hb cX1_0; replace cX1_1 := cell_later hb cX1_1; replace cX1_2 := cell_later hb cX1_2; replace cX1_3 := cell_later hb cX1_3
  replace sX1 : w.heap.size + 1 < w4.heap.size ∧ w.heap.size < w4.heap.size := by have h : w.heap.size + 1 < w4.heap.size := World.block_lt_of_cell? _ _ cX1_0; exact ⟨h, by omega⟩
  replace cX2_0 := cell_later hb cX2_0; replace cX2_1 := cell_later hb cX2_1
  replace sX2 : w.heap.size + 1 + 1 < w4.heap.size ∧ w.heap.size + 1 < w4.heap.size := by have h : w.heap.size + 1 + 1 < w4.heap.size := World.block_lt_of_cell? _ _ cX2_0; exact ⟨h, by omega⟩
  replace cX3_0 := cell_later hb cX3_0; replace cX3_1 := cell_later hb cX3_1
  replace sX3 : w.heap.size + 1 + 1 + 1 < w4.heap.size ∧ w.heap.size + 1 + 1 < w4.heap.size := by have h : w.heap.size + 1 + 1 + 1 < w4.heap.size := World.block_lt_of_cell? _ _ cX3_0; exact ⟨h, by omega⟩
  replace kk := bC kk hb
  clear hb
  go_wp2_with fail
  (with_reducible refine (h4.out _).mono ?_); rintro e w5 ⟨rfl, hb⟩
  have hz := bC (bA (bA (Below.refl _ _) _) _) hb
  have nX0_X4 : w.heap.size < w4.heap.size := by omega
  replace fX0_0 := frozen_later hz cX0_0 fX0_0; replace fX0_1 := frozen_later hz cX0_1 fX0_1; replace fX0_2 := frozen_later hz cX0_2 fX0_2; replace fX0_3 := frozen_later hz cX0_3 fX0_3
  replace cX0_0 := cell_later hz cX0_0; replace cX0_1 := cell_later hz cX0_1; replace cX0_2 := cell_later hz cX0_2; replace cX0_3 := cell_later hz cX0_3
  replace sX0 : w.heap.size < w5.heap.size := World.block_lt_of_cell? _ _ cX0_0
  clear cX1_0 cX1_1 cX1_2 cX1_3 sX1
  clear cX2_0 cX2_1 sX2
  replace cX3_0 := cell_later hz cX3_0; replace cX3_1 := cell_later hz cX3_1
  replace sX3 : w.heap.size + 1 + 1 + 1 < w5.heap.size ∧ w.heap.size + 1 + 1 < w5.heap.size := by have h : w.heap.size + 1 + 1 + 1 < w5.heap.size := World.block_lt_of_cell? _ _ cX3_0; exact ⟨h, by omega⟩
  have cX4_0 := cell_later hb (a := ⟨w4.heap.size, 0, none⟩) (v := .int .u64 x0) (by go_simp)
  have cX4_1 := cell_later hb (a := ⟨w4.heap.size, 1, none⟩) (v := .int .u64 x1) (by go_simp)
  have cX4_2 := cell_later hb (a := ⟨w4.heap.size, 2, none⟩) (v := .int .u64 x2) (by go_simp)
  have cX4_3 := cell_later hb (a := ⟨w4.heap.size, 3, none⟩) (v := .int .u64 x3) (by go_simp)
  have sX4 : w4.heap.size < w5.heap.size := World.block_lt_of_cell? _ _ cX4_0
  replace kk := bC kk hz
  clear hb hz
  go_wp2_with fail
  (with_reducible refine (h5.out _).mono ?_); rintro e w6 ⟨rfl, hb⟩
  have hz := bC (bA (bA (Below.refl _ _) _) _) hb
  clear cX0_0 cX0_1 cX0_2 cX0_3 sX0
  clear cX3_0 cX3_1 sX3
  replace cX4_0 := cell_later hz cX4_0; replace cX4_1 := cell_later hz cX4_1; replace cX4_2 := cell_later hz cX4_2; replace cX4_3 := cell_later hz cX4_3
  replace sX4 : w4.heap.size < w6.heap.size := World.block_lt_of_cell? _ _ cX4_0
  have cX6_0 := cell_later hb (a := ⟨w5.heap.size, 0, none⟩) (v := .int .u64 y0) (by go_simp)
  have cX6_1 := cell_later hb (a := ⟨w5.heap.size, 1, none⟩) (v := .int .u64 y1) (by go_simp)
  have cX6_2 := cell_later hb (a := ⟨w5.heap.size, 2, none⟩) (v := .int .u64 y2) (by go_simp)
  have cX6_3 := cell_later hb (a := ⟨w5.heap.size, 3, none⟩) (v := .int .u64 y3) (by go_simp)
  have sX6 : w5.heap.size < w6.heap.size := World.block_lt_of_cell? _ _ cX6_0
  replace kk := bC kk hz
  clear hb hz
  go_wp2_with fail
  (with_reducible refine (h6.out _).mono ?_); rintro e w7 ⟨rfl, hb⟩
  have hz := bC (bA (bA (Below.refl _ _) _) _) hb
  replace cX4_0 := cell_later hz cX4_0; replace cX4_1 := cell_later hz cX4_1; replace cX4_2 := cell_later hz cX4_2; replace cX4_3 := cell_later hz cX4_3
  replace sX4 : w4.heap.size < w7.heap.size := World.block_lt_of_cell? _ _ cX4_0
  clear cX6_0 cX6_1 cX6_2 cX6_3 sX6
  have cX8_0 := cell_later hb (a := ⟨w6.heap.size, 0, none⟩) (v := .int .u64 z0) (by go_simp)
  have cX8_1 := cell_later hb (a := ⟨w6.heap.size, 1, none⟩) (v := .int .u64 z1) (by go_simp)
  have cX8_2 := cell_later hb (a := ⟨w6.heap.size, 2, none⟩) (v := .int .u64 z2) (by go_simp)
  have cX8_3 := cell_later hb (a := ⟨w6.heap.size, 3, none⟩) (v := .int .u64 z3) (by go_simp)
  have sX8 : w6.heap.size < w7.heap.size := World.block_lt_of_cell? _ _ cX8_0
  replace kk := bC kk hz
  clear hb hz
  go_wp2_with fail
  (with_reducible refine (h7.out _).mono ?_); rintro e w8 ⟨rfl, hb⟩
  clear cX4_0 cX4_1 cX4_2 cX4_3 sX4
  clear cX8_0 cX8_1 cX8_2 cX8_3 sX8
  replace kk := bC kk hb
  clear hb
  go_wp2_with fail
  (with_reducible refine (h8.out _).mono ?_); rintro e w9 ⟨rfl, hb⟩
  replace kk := bC kk hb
  clear hb
  go_wp2_with fail
  go_ret
  exact ⟨rfl, kk⟩

end Go.Proofs.Ytlmgebanfjclcaa
