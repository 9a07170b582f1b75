/-
  The walk of the statement RoundOrder.
-/
import Derived.Test.YtmlobelcoggncaaRound15M
import Derived.Test.YtmlobelcoggncaaGaA
set_option linter.unusedVariables false
set_option linter.unusedSimpArgs false
set_option maxRecDepth 100000
namespace Go.Proofs.Ytmlobelcoggncaa
open Go.RowKit
attribute [local go_sem ↓] Go.wp_at_zero Go.wp_at_succ

set_option maxHeartbeats 4000000 in
set_option maxRecDepth 100000 in
theorem order15_same (k8 k m mm c e2 v0 v1 v2 v3 x0 x1 x2 x3 ah al bh bl : Int) (ng i j : Bool)
    (h0 : Hid (∀ w, Calls Try.prog 20 #[.agg #[.int .u64 v0, .int .u64 v1, .int .u64 v2, .int .u64 v3], .agg #[.int .u64 x0, .int .u64 x1, .int .u64 x2, .int .u64 x3]] w fun e w' => e = .returned (.int .i64 c) ∧ Below w.heap.size w w'))
    (h1 : Hid (∀ w, Calls Try.prog 9 #[.agg #[.int .u64 v0, .int .u64 v1, .int .u64 v2, .int .u64 v3], .int .i64 k, .int .u8 mm, .bool ng] w fun e w' => e = .returned (.tuple #[.agg #[.int .u64 ah, .int .u64 al], .bool i]) ∧ Below w.heap.size w w'))
    (h2 : Hid (∀ w, Calls Try.prog 9 #[.agg #[.int .u64 x0, .int .u64 x1, .int .u64 x2, .int .u64 x3], .int .i64 k, .int .u8 mm, .bool ng] w fun e w' => e = .returned (.tuple #[.agg #[.int .u64 bh, .int .u64 bl], .bool j]) ∧ Below w.heap.size w w'))
    (h3 : Hid (∀ w, Calls Try.prog 22 #[.agg #[.int .u64 ah, .int .u64 al], .agg #[.int .u64 bh, .int .u64 bl]] w fun e w' => e = .returned (.int .i64 e2) ∧ Below w.heap.size w w'))
    (h4 : Hid (∀ w, Calls Try.prog 11 #[] w fun e w' => e = .returned (.bool true) ∧ Below w.heap.size w w')) (k0 : 0 ≤ k8) (k1 : k8 ≤ 255) (k2 : IntKind.i64.wrap k8 = k8) (k3 : k8 % 128 = k) (k4 : k8.tmod 128 = k) (m2 : m.tmod 5 = mm) (m3 : m % 5 = mm) (g1 : decide (0 < c) = false) (g2 : decide (e2 ≤ 0) = true) (w : World) :
    Calls Try.prog 6 #[.agg #[.int .u64 v0, .int .u64 v1, .int .u64 v2, .int .u64 v3], .agg #[.int .u64 x0, .int .u64 x1, .int .u64 x2, .int .u64 x3], .int .u8 k8, .int .u8 m, .bool ng] w fun e w' => e = .returned (.bool true) ∧ Below w.heap.size w w' := by
  go_enter Try.func6, Try.ntmps6
  go_wp2_with fail
  (with_reducible refine (h0.out _).mono ?_); rintro e w1 ⟨rfl, hb⟩
  have hz := bC (bA (bA (Below.refl _ _) _) _) hb
  have cX0_0 := cell_later hb (a := ⟨w.heap.size, 0, none⟩) (v := .int .u64 v0) (by go_simp)
  have cX0_1 := cell_later hb (a := ⟨w.heap.size, 1, none⟩) (v := .int .u64 v1) (by go_simp)
  have cX0_2 := cell_later hb (a := ⟨w.heap.size, 2, none⟩) (v := .int .u64 v2) (by go_simp)
  have cX0_3 := cell_later hb (a := ⟨w.heap.size, 3, none⟩) (v := .int .u64 v3) (by go_simp)
  have sX0 : w.heap.size < w1.heap.size := World.block_lt_of_cell? _ _ cX0_0
  have cX1_0 := cell_later hb (a := ⟨w.heap.size + 1, 0, none⟩) (v := .int .u64 x0) (by go_simp)
  have cX1_1 := cell_later hb (a := ⟨w.heap.size + 1, 1, none⟩) (v := .int .u64 x1) (by go_simp)
  have cX1_2 := cell_later hb (a := ⟨w.heap.size + 1, 2, none⟩) (v := .int .u64 x2) (by go_simp)
  have cX1_3 := cell_later hb (a := ⟨w.heap.size + 1, 3, none⟩) (v := .int .u64 x3) (by go_simp)
  have sX1 : w.heap.size + 1 < w1.heap.size ∧ w.heap.size < w1.heap.size := by have h : w.heap.size + 1 < w1.heap.size := World.block_lt_of_cell? _ _ cX1_0; exact ⟨h, by omega⟩
  have kk := hz
  clear hb hz
  go_wp2_with fail
  (with_reducible refine (h1.out _).mono ?_); rintro e w2 ⟨rfl, hb⟩
  clear cX0_0 cX0_1 cX0_2 cX0_3 sX0
  replace cX1_0 := cell_later hb cX1_0; replace cX1_1 := cell_later hb cX1_1; replace cX1_2 := cell_later hb cX1_2; replace cX1_3 := cell_later hb cX1_3
  replace sX1 : w.heap.size + 1 < w2.heap.size ∧ w.heap.size < w2.heap.size := by have h : w.heap.size + 1 < w2.heap.size := World.block_lt_of_cell? _ _ cX1_0; exact ⟨h, by omega⟩
  replace kk := bC kk hb
  clear hb
  go_wp2_with fail
  (with_reducible refine (h2.out _).mono ?_); rintro e w3 ⟨rfl, hb⟩
  have hz := bC (bA (Below.refl _ _) _) hb
  clear cX1_0 cX1_1 cX1_2 cX1_3 sX1
  have cX2_0 := cell_later hb (a := ⟨w2.heap.size, 0, none⟩) (v := .int .u64 ah) (by go_simp)
  have cX2_1 := cell_later hb (a := ⟨w2.heap.size, 1, none⟩) (v := .int .u64 al) (by go_simp)
  have sX2 : w2.heap.size < w3.heap.size := World.block_lt_of_cell? _ _ cX2_0
  replace kk := bC kk hz
  clear hb hz
  go_wp2_with fail
  (with_reducible refine (h3.out _).mono ?_); rintro e w4 ⟨rfl, hb⟩
  have hz := bC (bA (Below.refl _ _) _) hb
  clear cX2_0 cX2_1 sX2
  replace kk := bC kk hz
  clear hb hz
  go_wp2_with fail
  (with_reducible refine (h4.out _).mono ?_); rintro e w5 ⟨rfl, hb⟩
  replace kk := bC kk hb
  clear hb
  go_wp2_with fail
  go_ret
  exact ⟨rfl, kk⟩

set_option maxHeartbeats 4000000 in
set_option maxRecDepth 100000 in
theorem order15_swap (k8 k m mm c e2 v0 v1 v2 v3 x0 x1 x2 x3 ah al bh bl : Int) (ng i j : Bool)
    (h0 : Hid (∀ w, Calls Try.prog 20 #[.agg #[.int .u64 v0, .int .u64 v1, .int .u64 v2, .int .u64 v3], .agg #[.int .u64 x0, .int .u64 x1, .int .u64 x2, .int .u64 x3]] w fun e w' => e = .returned (.int .i64 c) ∧ Below w.heap.size w w'))
    (h1 : Hid (∀ w, Calls Try.prog 9 #[.agg #[.int .u64 x0, .int .u64 x1, .int .u64 x2, .int .u64 x3], .int .i64 k, .int .u8 mm, .bool ng] w fun e w' => e = .returned (.tuple #[.agg #[.int .u64 ah, .int .u64 al], .bool i]) ∧ Below w.heap.size w w'))
    (h2 : Hid (∀ w, Calls Try.prog 9 #[.agg #[.int .u64 v0, .int .u64 v1, .int .u64 v2, .int .u64 v3], .int .i64 k, .int .u8 mm, .bool ng] w fun e w' => e = .returned (.tuple #[.agg #[.int .u64 bh, .int .u64 bl], .bool j]) ∧ Below w.heap.size w w'))
    (h3 : Hid (∀ w, Calls Try.prog 22 #[.agg #[.int .u64 ah, .int .u64 al], .agg #[.int .u64 bh, .int .u64 bl]] w fun e w' => e = .returned (.int .i64 e2) ∧ Below w.heap.size w w'))
    (h4 : Hid (∀ w, Calls Try.prog 11 #[] w fun e w' => e = .returned (.bool true) ∧ Below w.heap.size w w')) (k0 : 0 ≤ k8) (k1 : k8 ≤ 255) (k2 : IntKind.i64.wrap k8 = k8) (k3 : k8 % 128 = k) (k4 : k8.tmod 128 = k) (m2 : m.tmod 5 = mm) (m3 : m % 5 = mm) (g1 : decide (0 < c) = true) (g2 : decide (e2 ≤ 0) = true) (w : World) :
    Calls Try.prog 6 #[.agg #[.int .u64 v0, .int .u64 v1, .int .u64 v2, .int .u64 v3], .agg #[.int .u64 x0, .int .u64 x1, .int .u64 x2, .int .u64 x3], .int .u8 k8, .int .u8 m, .bool ng] w fun e w' => e = .returned (.bool true) ∧ Below w.heap.size w w' := by
  go_enter Try.func6, Try.ntmps6
  go_wp2_with fail
  (with_reducible refine (h0.out _).mono ?_); rintro e w1 ⟨rfl, hb⟩
  have hz := bC (bA (bA (Below.refl _ _) _) _) hb
  have gX0 : w.heap.size ≤ w.heap.size := by omega
  have gX1 : w.heap.size ≤ w.heap.size + 1 := by omega
  have cX0_0 := cell_later hb (a := ⟨w.heap.size, 0, none⟩) (v := .int .u64 v0) (by go_simp)
  have cX0_1 := cell_later hb (a := ⟨w.heap.size, 1, none⟩) (v := .int .u64 v1) (by go_simp)
  have cX0_2 := cell_later hb (a := ⟨w.heap.size, 2, none⟩) (v := .int .u64 v2) (by go_simp)
  have cX0_3 := cell_later hb (a := ⟨w.heap.size, 3, none⟩) (v := .int .u64 v3) (by go_simp)
  have sX0 : w.heap.size < w1.heap.size := World.block_lt_of_cell? _ _ cX0_0
  have fX0_0 := frozen_later hb (a := ⟨w.heap.size, 0, none⟩) (v := .int .u64 v0) (by go_simp) (by go_simp)
  have fX0_1 := frozen_later hb (a := ⟨w.heap.size, 1, none⟩) (v := .int .u64 v1) (by go_simp) (by go_simp)
  have fX0_2 := frozen_later hb (a := ⟨w.heap.size, 2, none⟩) (v := .int .u64 v2) (by go_simp) (by go_simp)
  have fX0_3 := frozen_later hb (a := ⟨w.heap.size, 3, none⟩) (v := .int .u64 v3) (by go_simp) (by go_simp)
  have cX1_0 := cell_later hb (a := ⟨w.heap.size + 1, 0, none⟩) (v := .int .u64 x0) (by go_simp)
  have cX1_1 := cell_later hb (a := ⟨w.heap.size + 1, 1, none⟩) (v := .int .u64 x1) (by go_simp)
  have cX1_2 := cell_later hb (a := ⟨w.heap.size + 1, 2, none⟩) (v := .int .u64 x2) (by go_simp)
  have cX1_3 := cell_later hb (a := ⟨w.heap.size + 1, 3, none⟩) (v := .int .u64 x3) (by go_simp)
  have sX1 : w.heap.size + 1 < w1.heap.size ∧ w.heap.size < w1.heap.size := by have h : w.heap.size + 1 < w1.heap.size := World.block_lt_of_cell? _ _ cX1_0; exact ⟨h, by omega⟩
  have fX1_0 := frozen_later hb (a := ⟨w.heap.size + 1, 0, none⟩) (v := .int .u64 x0) (by go_simp) (by go_simp)
  have fX1_1 := frozen_later hb (a := ⟨w.heap.size + 1, 1, none⟩) (v := .int .u64 x1) (by go_simp) (by go_simp)
  have fX1_2 := frozen_later hb (a := ⟨w.heap.size + 1, 2, none⟩) (v := .int .u64 x2) (by go_simp) (by go_simp)
  have fX1_3 := frozen_later hb (a := ⟨w.heap.size + 1, 3, none⟩) (v := .int .u64 x3) (by go_simp) (by go_simp)
  have kk := hz
  clear hb hz
  go_wp2_with fail
  (with_reducible refine (h1.out _).mono ?_); rintro e w2 ⟨rfl, hb⟩
  replace kk := bC ((((((((kk.setCell (p := ⟨w.heap.size, 0, none⟩) gX0 _).setCell (p := ⟨w.heap.size, 1, none⟩) gX0 _).setCell (p := ⟨w.heap.size, 2, none⟩) gX0 _).setCell (p := ⟨w.heap.size, 3, none⟩) gX0 _).setCell (p := ⟨w.heap.size + 1, 0, none⟩) gX1 _).setCell (p := ⟨w.heap.size + 1, 1, none⟩) gX1 _).setCell (p := ⟨w.heap.size + 1, 2, none⟩) gX1 _).setCell (p := ⟨w.heap.size + 1, 3, none⟩) gX1 _) hb
  clear cX0_0 cX0_1 cX0_2 cX0_3 sX0
  have ncX1_0 := cell_later hb (a := ⟨w.heap.size + 1, 0, none⟩) (v := .int .u64 v0) (by go_simp)
  have ncX1_1 := cell_later hb (a := ⟨w.heap.size + 1, 1, none⟩) (v := .int .u64 v1) (by go_simp)
  have ncX1_2 := cell_later hb (a := ⟨w.heap.size + 1, 2, none⟩) (v := .int .u64 v2) (by go_simp)
  have ncX1_3 := cell_later hb (a := ⟨w.heap.size + 1, 3, none⟩) (v := .int .u64 v3) (by go_simp)
  have nfX1_0 := frozen_later hb (a := ⟨w.heap.size + 1, 0, none⟩) (v := .int .u64 v0) (by go_simp) (by go_simp)
  have nfX1_1 := frozen_later hb (a := ⟨w.heap.size + 1, 1, none⟩) (v := .int .u64 v1) (by go_simp) (by go_simp)
  have nfX1_2 := frozen_later hb (a := ⟨w.heap.size + 1, 2, none⟩) (v := .int .u64 v2) (by go_simp) (by go_simp)
  have nfX1_3 := frozen_later hb (a := ⟨w.heap.size + 1, 3, none⟩) (v := .int .u64 v3) (by go_simp) (by go_simp)
  clear cX1_0 cX1_1 cX1_2 cX1_3 sX1 fX1_0 fX1_1 fX1_2 fX1_3
  have cX1_0 := ncX1_0; clear ncX1_0
  have fX1_0 := nfX1_0; clear nfX1_0
  have cX1_1 := ncX1_1; clear ncX1_1
  have fX1_1 := nfX1_1; clear nfX1_1
  have cX1_2 := ncX1_2; clear ncX1_2
  have fX1_2 := nfX1_2; clear nfX1_2
  have cX1_3 := ncX1_3; clear ncX1_3
  have fX1_3 := nfX1_3; clear nfX1_3
  have sX1 : w.heap.size + 1 < w2.heap.size ∧ w.heap.size < w2.heap.size := by have h : w.heap.size + 1 < w2.heap.size := World.block_lt_of_cell? _ _ cX1_0; exact ⟨h, by omega⟩
  clear hb
  go_wp2_with fail
  (with_reducible refine (h2.out _).mono ?_); rintro e w3 ⟨rfl, hb⟩
  have hz := bC (bA (Below.refl _ _) _) hb
  clear cX1_0 cX1_1 cX1_2 cX1_3 sX1
  have cX2_0 := cell_later hb (a := ⟨w2.heap.size, 0, none⟩) (v := .int .u64 ah) (by go_simp)
  have cX2_1 := cell_later hb (a := ⟨w2.heap.size, 1, none⟩) (v := .int .u64 al) (by go_simp)
  have sX2 : w2.heap.size < w3.heap.size := World.block_lt_of_cell? _ _ cX2_0
  replace kk := bC kk hz
  clear hb hz
  go_wp2_with fail
  (with_reducible refine (h3.out _).mono ?_); rintro e w4 ⟨rfl, hb⟩
  have hz := bC (bA (Below.refl _ _) _) hb
  clear cX2_0 cX2_1 sX2
  replace kk := bC kk hz
  clear hb hz
  go_wp2_with fail
  (with_reducible refine (h4.out _).mono ?_); rintro e w5 ⟨rfl, hb⟩
  replace kk := bC kk hb
  clear hb
  go_wp2_with fail
  go_ret
  exact ⟨rfl, kk⟩

end Go.Proofs.Ytmlobelcoggncaa
