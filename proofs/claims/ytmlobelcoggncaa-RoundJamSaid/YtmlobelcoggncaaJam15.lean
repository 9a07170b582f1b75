/-
  The walk of the statement RoundJam.
-/
import Derived.Test.YtmlobelcoggncaaRound15M
import Derived.Test.YtmlobelcoggncaaGaA
set_option linter.unusedVariables false
set_option linter.unusedSimpArgs false
set_option maxRecDepth 100000
namespace Go.Proofs.Ytmlobelcoggncaa
open Go.RowKit
attribute [local go_sem ↓] Go.wp_at_zero Go.wp_at_succ

set_option maxHeartbeats 4000000 in
set_option maxRecDepth 100000 in
theorem jam15_far (k8 n8 k n s m x0 x1 x2 x3 y0 y1 y2 y3 t0 t1 t2 t3 bh bl ph pl : Int) (ng j h : Bool)
    (h0 : Hid (∀ w, Calls Try.prog 16 #[.agg #[.int .u64 x0, .int .u64 x1, .int .u64 x2, .int .u64 x3], .int .i64 n] w fun e w' => e = .returned (.agg #[.int .u64 y0, .int .u64 y1, .int .u64 y2, .int .u64 y3]) ∧ Below w.heap.size w w'))
    (h1 : Hid (∀ w, Calls Try.prog 9 #[.agg #[.int .u64 y0, .int .u64 y1, .int .u64 y2, .int .u64 y3], .int .i64 s, .int .u8 m, .bool ng] w fun e w' => e = .returned (.tuple #[.agg #[.int .u64 0, .int .u64 0], .bool false]) ∧ Below w.heap.size w w'))
    (h2 : Hid (∀ w, Calls Try.prog 9 #[.agg #[.int .u64 x0, .int .u64 x1, .int .u64 x2, .int .u64 x3], .int .i64 k, .int .u8 m, .bool ng] w fun e w' => e = .returned (.tuple #[.agg #[.int .u64 bh, .int .u64 bl], .bool j]) ∧ Below w.heap.size w w'))
    (h3 : Hid (∀ w, Calls Try.prog 21 #[.agg #[.int .u64 x0, .int .u64 x1, .int .u64 x2, .int .u64 x3], .int .i64 n] w fun e w' => e = .returned (.agg #[.int .u64 t0, .int .u64 t1, .int .u64 t2, .int .u64 t3]) ∧ Below w.heap.size w w'))
    (h4 : Hid (∀ w, Calls Try.prog 9 #[.agg #[.int .u64 t0, .int .u64 t1, .int .u64 t2, .int .u64 t3], .int .i64 127, .int .u8 m, .bool ng] w fun e w' => e = .returned (.tuple #[.agg #[.int .u64 ph, .int .u64 pl], .bool h]) ∧ Below w.heap.size w w'))
    (h5 : Hid (∀ w, Calls Try.prog 11 #[] w fun e w' => e = .returned (.bool true) ∧ Below w.heap.size w w')) (k0 : 0 ≤ k8) (k1 : k8 ≤ 255) (k2 : IntKind.i64.wrap k8 = k8) (k3 : k8 % 100 = k) (k4 : k8.tmod 100 = k) (n0 : 0 ≤ n8) (n1 : n8 ≤ 255) (n2 : IntKind.i64.wrap n8 = n8) (n3 : n8 % 100 = n) (n4 : n8.tmod 100 = n) (s1 : IntKind.i64.wrap (k + n) = s) (s2 : wrap64 (k + n) = s) (g1 : decide (127 < s) = true) (g0 : 127 < s) (w : World) :
    Calls Try.prog 5 #[.agg #[.int .u64 x0, .int .u64 x1, .int .u64 x2, .int .u64 x3], .int .u8 k8, .int .u8 n8, .int .u8 m, .bool ng] w fun e w' => e = .returned (.bool true) ∧ Below w.heap.size w w' := by
  go_enter Try.func5, Try.ntmps5
  go_wp2_with fail
  (with_reducible refine (h0.out _).mono ?_); rintro e w1 ⟨rfl, hb⟩
  have hz := bC (bA (Below.refl _ _) _) hb
  have cX0_0 := cell_later hb (a := ⟨w.heap.size, 0, none⟩) (v := .int .u64 x0) (by go_simp)
  have cX0_1 := cell_later hb (a := ⟨w.heap.size, 1, none⟩) (v := .int .u64 x1) (by go_simp)
  have cX0_2 := cell_later hb (a := ⟨w.heap.size, 2, none⟩) (v := .int .u64 x2) (by go_simp)
  have cX0_3 := cell_later hb (a := ⟨w.heap.size, 3, none⟩) (v := .int .u64 x3) (by go_simp)
  have sX0 : w.heap.size < w1.heap.size := World.block_lt_of_cell? _ _ cX0_0
  have kk := hz
  clear hb hz
  go_wp2_with fail
  (with_reducible refine (h1.out _).mono ?_); rintro e w2 ⟨rfl, hb⟩
  replace cX0_0 := cell_later hb cX0_0; replace cX0_1 := cell_later hb cX0_1; replace cX0_2 := cell_later hb cX0_2; replace cX0_3 := cell_later hb cX0_3
  replace sX0 : w.heap.size < w2.heap.size := World.block_lt_of_cell? _ _ cX0_0
  replace kk := bC kk hb
  clear hb
  go_wp2_with fail
  (with_reducible refine (h2.out _).mono ?_); rintro e w3 ⟨rfl, hb⟩
  have hz := bC (bA (Below.refl _ _) _) hb
  replace cX0_0 := cell_later hz cX0_0; replace cX0_1 := cell_later hz cX0_1; replace cX0_2 := cell_later hz cX0_2; replace cX0_3 := cell_later hz cX0_3
  replace sX0 : w.heap.size < w3.heap.size := World.block_lt_of_cell? _ _ cX0_0
  have cX1_0 := cell_later hb (a := ⟨w2.heap.size, 0, none⟩) (v := .int .u64 0) (by go_simp)
  have cX1_1 := cell_later hb (a := ⟨w2.heap.size, 1, none⟩) (v := .int .u64 0) (by go_simp)
  have sX1 : w2.heap.size < w3.heap.size := World.block_lt_of_cell? _ _ cX1_0
  replace kk := bC kk hz
  clear hb hz
  go_wp2_with fail
  (with_reducible refine (h3.out _).mono ?_); rintro e w4 ⟨rfl, hb⟩
  have hz := bC (bA (Below.refl _ _) _) hb
  clear cX0_0 cX0_1 cX0_2 cX0_3 sX0
  replace cX1_0 := cell_later hz cX1_0; replace cX1_1 := cell_later hz cX1_1
  replace sX1 : w2.heap.size < w4.heap.size := World.block_lt_of_cell? _ _ cX1_0
  replace kk := bC kk hz
  clear hb hz
  go_wp2_with fail
  (with_reducible refine (h4.out _).mono ?_); rintro e w5 ⟨rfl, hb⟩
  replace cX1_0 := cell_later hb cX1_0; replace cX1_1 := cell_later hb cX1_1
  replace sX1 : w2.heap.size < w5.heap.size := World.block_lt_of_cell? _ _ cX1_0
  replace kk := bC kk hb
  clear hb
  go_wp2_with fail
  (with_reducible refine (h5.out _).mono ?_); rintro e w6 ⟨rfl, hb⟩
  have hz := bC (bA (Below.refl _ _) _) hb
  clear cX1_0 cX1_1 sX1
  replace kk := bC kk hz
  clear hb hz
  go_wp2_with fail
  go_ret
  exact ⟨rfl, kk⟩

set_option maxHeartbeats 4000000 in
set_option maxRecDepth 100000 in
theorem jam15_lost (k8 n8 k n s m x0 x1 x2 x3 y0 y1 y2 y3 t0 t1 t2 t3 ah al bh bl : Int) (ng j i : Bool)
    (h0 : Hid (∀ w, Calls Try.prog 16 #[.agg #[.int .u64 x0, .int .u64 x1, .int .u64 x2, .int .u64 x3], .int .i64 n] w fun e w' => e = .returned (.agg #[.int .u64 y0, .int .u64 y1, .int .u64 y2, .int .u64 y3]) ∧ Below w.heap.size w w'))
    (h1 : Hid (∀ w, Calls Try.prog 9 #[.agg #[.int .u64 y0, .int .u64 y1, .int .u64 y2, .int .u64 y3], .int .i64 s, .int .u8 m, .bool ng] w fun e w' => e = .returned (.tuple #[.agg #[.int .u64 ah, .int .u64 al], .bool i]) ∧ Below w.heap.size w w'))
    (h2 : Hid (∀ w, Calls Try.prog 9 #[.agg #[.int .u64 x0, .int .u64 x1, .int .u64 x2, .int .u64 x3], .int .i64 k, .int .u8 m, .bool ng] w fun e w' => e = .returned (.tuple #[.agg #[.int .u64 bh, .int .u64 bl], .bool j]) ∧ Below w.heap.size w w'))
    (h3 : Hid (∀ w, Calls Try.prog 21 #[.agg #[.int .u64 x0, .int .u64 x1, .int .u64 x2, .int .u64 x3], .int .i64 n] w fun e w' => e = .returned (.agg #[.int .u64 t0, .int .u64 t1, .int .u64 t2, .int .u64 t3]) ∧ Below w.heap.size w w'))
    (h4 : Hid (∀ w, Calls Try.prog 9 #[.agg #[.int .u64 t0, .int .u64 t1, .int .u64 t2, .int .u64 t3], .int .i64 s, .int .u8 m, .bool ng] w fun e w' => e = .returned (.tuple #[.agg #[.int .u64 bh, .int .u64 bl], .bool j]) ∧ Below w.heap.size w w'))
    (h5 : Hid (∀ w, Calls Try.prog 18 #[.agg #[.int .u64 x0, .int .u64 x1, .int .u64 x2, .int .u64 x3], .int .i64 n] w fun e w' => e = .returned (.bool true) ∧ Below w.heap.size w w'))
    (h6 : Hid (∀ w, Calls Try.prog 11 #[] w fun e w' => e = .returned (.bool true) ∧ Below w.heap.size w w')) (k0 : 0 ≤ k8) (k1 : k8 ≤ 255) (k2 : IntKind.i64.wrap k8 = k8) (k3 : k8 % 100 = k) (k4 : k8.tmod 100 = k) (n0 : 0 ≤ n8) (n1 : n8 ≤ 255) (n2 : IntKind.i64.wrap n8 = n8) (n3 : n8 % 100 = n) (n4 : n8.tmod 100 = n) (s1 : IntKind.i64.wrap (k + n) = s) (s2 : wrap64 (k + n) = s) (g1 : decide (127 < s) = false) (g0 : ¬ 127 < s) (w : World) :
    Calls Try.prog 5 #[.agg #[.int .u64 x0, .int .u64 x1, .int .u64 x2, .int .u64 x3], .int .u8 k8, .int .u8 n8, .int .u8 m, .bool ng] w fun e w' => e = .returned (.bool true) ∧ Below w.heap.size w w' := by
  go_enter Try.func5, Try.ntmps5
  go_wp2_with fail
  (with_reducible refine (h0.out _).mono ?_); rintro e w1 ⟨rfl, hb⟩
  have hz := bC (bA (Below.refl _ _) _) hb
  have cX0_0 := cell_later hb (a := ⟨w.heap.size, 0, none⟩) (v := .int .u64 x0) (by go_simp)
  have cX0_1 := cell_later hb (a := ⟨w.heap.size, 1, none⟩) (v := .int .u64 x1) (by go_simp)
  have cX0_2 := cell_later hb (a := ⟨w.heap.size, 2, none⟩) (v := .int .u64 x2) (by go_simp)
  have cX0_3 := cell_later hb (a := ⟨w.heap.size, 3, none⟩) (v := .int .u64 x3) (by go_simp)
  have sX0 : w.heap.size < w1.heap.size := World.block_lt_of_cell? _ _ cX0_0
  have kk := hz
  clear hb hz
  go_wp2_with fail
  (with_reducible refine (h1.out _).mono ?_); rintro e w2 ⟨rfl, hb⟩
  replace cX0_0 := cell_later hb cX0_0; replace cX0_1 := cell_later hb cX0_1; replace cX0_2 := cell_later hb cX0_2; replace cX0_3 := cell_later hb cX0_3
  replace sX0 : w.heap.size < w2.heap.size := World.block_lt_of_cell? _ _ cX0_0
  replace kk := bC kk hb
  clear hb
  go_wp2_with fail
  (with_reducible refine (h2.out _).mono ?_); rintro e w3 ⟨rfl, hb⟩
  have hz := bC (bA (Below.refl _ _) _) hb
  replace cX0_0 := cell_later hz cX0_0; replace cX0_1 := cell_later hz cX0_1; replace cX0_2 := cell_later hz cX0_2; replace cX0_3 := cell_later hz cX0_3
  replace sX0 : w.heap.size < w3.heap.size := World.block_lt_of_cell? _ _ cX0_0
  have cX1_0 := cell_later hb (a := ⟨w2.heap.size, 0, none⟩) (v := .int .u64 ah) (by go_simp)
  have cX1_1 := cell_later hb (a := ⟨w2.heap.size, 1, none⟩) (v := .int .u64 al) (by go_simp)
  have sX1 : w2.heap.size < w3.heap.size := World.block_lt_of_cell? _ _ cX1_0
  replace kk := bC kk hz
  clear hb hz
  go_wp2_with fail
  (with_reducible refine (h3.out _).mono ?_); rintro e w4 ⟨rfl, hb⟩
  have hz := bC (bA (Below.refl _ _) _) hb
  replace cX0_0 := cell_later hz cX0_0; replace cX0_1 := cell_later hz cX0_1; replace cX0_2 := cell_later hz cX0_2; replace cX0_3 := cell_later hz cX0_3
  replace sX0 : w.heap.size < w4.heap.size := World.block_lt_of_cell? _ _ cX0_0
  replace cX1_0 := cell_later hz cX1_0; replace cX1_1 := cell_later hz cX1_1
  replace sX1 : w2.heap.size < w4.heap.size := World.block_lt_of_cell? _ _ cX1_0
  have cX2_0 := cell_later hb (a := ⟨w3.heap.size, 0, none⟩) (v := .int .u64 bh) (by go_simp)
  have cX2_1 := cell_later hb (a := ⟨w3.heap.size, 1, none⟩) (v := .int .u64 bl) (by go_simp)
  have sX2 : w3.heap.size < w4.heap.size := World.block_lt_of_cell? _ _ cX2_0
  replace kk := bC kk hz
  clear hb hz
  go_wp2_with fail
  (with_reducible refine (h4.out _).mono ?_); rintro e w5 ⟨rfl, hb⟩
  replace cX0_0 := cell_later hb cX0_0; replace cX0_1 := cell_later hb cX0_1; replace cX0_2 := cell_later hb cX0_2; replace cX0_3 := cell_later hb cX0_3
  replace sX0 : w.heap.size < w5.heap.size := World.block_lt_of_cell? _ _ cX0_0
  replace cX1_0 := cell_later hb cX1_0; replace cX1_1 := cell_later hb cX1_1
  replace sX1 : w2.heap.size < w5.heap.size := World.block_lt_of_cell? _ _ cX1_0
  replace cX2_0 := cell_later hb cX2_0; replace cX2_1 := cell_later hb cX2_1
  replace sX2 : w3.heap.size < w5.heap.size := World.block_lt_of_cell? _ _ cX2_0
  replace kk := bC kk hb
  clear hb
  go_wp2_with fail
  (with_reducible refine (h5.out _).mono ?_); rintro e w6 ⟨rfl, hb⟩
  have hz := bC (bA (Below.refl _ _) _) hb
  clear cX0_0 cX0_1 cX0_2 cX0_3 sX0
  replace cX1_0 := cell_later hz cX1_0; replace cX1_1 := cell_later hz cX1_1
  replace sX1 : w2.heap.size < w6.heap.size := World.block_lt_of_cell? _ _ cX1_0
  replace cX2_0 := cell_later hz cX2_0; replace cX2_1 := cell_later hz cX2_1
  replace sX2 : w3.heap.size < w6.heap.size := World.block_lt_of_cell? _ _ cX2_0
  replace kk := bC kk hz
  clear hb hz
  go_wp2_with fail
  (with_reducible refine (h6.out _).mono ?_); rintro e w7 ⟨rfl, hb⟩
  clear cX1_0 cX1_1 sX1
  clear cX2_0 cX2_1 sX2
  replace kk := bC kk hb
  clear hb
  go_wp2_with fail
  go_ret
  exact ⟨rfl, kk⟩

set_option maxHeartbeats 4000000 in
set_option maxRecDepth 100000 in
theorem jam15_kept (k8 n8 k n s m x0 x1 x2 x3 y0 y1 y2 y3 t0 t1 t2 t3 bh bl : Int) (ng j : Bool)
    (h0 : Hid (∀ w, Calls Try.prog 16 #[.agg #[.int .u64 x0, .int .u64 x1, .int .u64 x2, .int .u64 x3], .int .i64 n] w fun e w' => e = .returned (.agg #[.int .u64 y0, .int .u64 y1, .int .u64 y2, .int .u64 y3]) ∧ Below w.heap.size w w'))
    (h1 : Hid (∀ w, Calls Try.prog 9 #[.agg #[.int .u64 y0, .int .u64 y1, .int .u64 y2, .int .u64 y3], .int .i64 s, .int .u8 m, .bool ng] w fun e w' => e = .returned (.tuple #[.agg #[.int .u64 bh, .int .u64 bl], .bool j]) ∧ Below w.heap.size w w'))
    (h2 : Hid (∀ w, Calls Try.prog 9 #[.agg #[.int .u64 x0, .int .u64 x1, .int .u64 x2, .int .u64 x3], .int .i64 k, .int .u8 m, .bool ng] w fun e w' => e = .returned (.tuple #[.agg #[.int .u64 bh, .int .u64 bl], .bool j]) ∧ Below w.heap.size w w'))
    (h3 : Hid (∀ w, Calls Try.prog 21 #[.agg #[.int .u64 x0, .int .u64 x1, .int .u64 x2, .int .u64 x3], .int .i64 n] w fun e w' => e = .returned (.agg #[.int .u64 t0, .int .u64 t1, .int .u64 t2, .int .u64 t3]) ∧ Below w.heap.size w w'))
    (h4 : Hid (∀ w, Calls Try.prog 9 #[.agg #[.int .u64 t0, .int .u64 t1, .int .u64 t2, .int .u64 t3], .int .i64 s, .int .u8 m, .bool ng] w fun e w' => e = .returned (.tuple #[.agg #[.int .u64 bh, .int .u64 bl], .bool j]) ∧ Below w.heap.size w w'))
    (h5 : Hid (∀ w, Calls Try.prog 18 #[.agg #[.int .u64 x0, .int .u64 x1, .int .u64 x2, .int .u64 x3], .int .i64 n] w fun e w' => e = .returned (.bool false) ∧ Below w.heap.size w w'))
    (h6 : Hid (∀ w, Calls Try.prog 11 #[] w fun e w' => e = .returned (.bool true) ∧ Below w.heap.size w w')) (k0 : 0 ≤ k8) (k1 : k8 ≤ 255) (k2 : IntKind.i64.wrap k8 = k8) (k3 : k8 % 100 = k) (k4 : k8.tmod 100 = k) (n0 : 0 ≤ n8) (n1 : n8 ≤ 255) (n2 : IntKind.i64.wrap n8 = n8) (n3 : n8 % 100 = n) (n4 : n8.tmod 100 = n) (s1 : IntKind.i64.wrap (k + n) = s) (s2 : wrap64 (k + n) = s) (g1 : decide (127 < s) = false) (g0 : ¬ 127 < s) (w : World) :
    Calls Try.prog 5 #[.agg #[.int .u64 x0, .int .u64 x1, .int .u64 x2, .int .u64 x3], .int .u8 k8, .int .u8 n8, .int .u8 m, .bool ng] w fun e w' => e = .returned (.bool true) ∧ Below w.heap.size w w' := by
  go_enter Try.func5, Try.ntmps5
  go_wp2_with fail
  (with_reducible refine (h0.out _).mono ?_); rintro e w1 ⟨rfl, hb⟩
  have hz := bC (bA (Below.refl _ _) _) hb
  have cX0_0 := cell_later hb (a := ⟨w.heap.size, 0, none⟩) (v := .int .u64 x0) (by go_simp)
  have cX0_1 := cell_later hb (a := ⟨w.heap.size, 1, none⟩) (v := .int .u64 x1) (by go_simp)
  have cX0_2 := cell_later hb (a := ⟨w.heap.size, 2, none⟩) (v := .int .u64 x2) (by go_simp)
  have cX0_3 := cell_later hb (a := ⟨w.heap.size, 3, none⟩) (v := .int .u64 x3) (by go_simp)
  have sX0 : w.heap.size < w1.heap.size := World.block_lt_of_cell? _ _ cX0_0
  have kk := hz
  clear hb hz
  go_wp2_with fail
  (with_reducible refine (h1.out _).mono ?_); rintro e w2 ⟨rfl, hb⟩
  replace cX0_0 := cell_later hb cX0_0; replace cX0_1 := cell_later hb cX0_1; replace cX0_2 := cell_later hb cX0_2; replace cX0_3 := cell_later hb cX0_3
  replace sX0 : w.heap.size < w2.heap.size := World.block_lt_of_cell? _ _ cX0_0
  replace kk := bC kk hb
  clear hb
  go_wp2_with fail
  (with_reducible refine (h2.out _).mono ?_); rintro e w3 ⟨rfl, hb⟩
  have hz := bC (bA (Below.refl _ _) _) hb
  replace cX0_0 := cell_later hz cX0_0; replace cX0_1 := cell_later hz cX0_1; replace cX0_2 := cell_later hz cX0_2; replace cX0_3 := cell_later hz cX0_3
  replace sX0 : w.heap.size < w3.heap.size := World.block_lt_of_cell? _ _ cX0_0
  have cX1_0 := cell_later hb (a := ⟨w2.heap.size, 0, none⟩) (v := .int .u64 bh) (by go_simp)
  have cX1_1 := cell_later hb (a := ⟨w2.heap.size, 1, none⟩) (v := .int .u64 bl) (by go_simp)
  have sX1 : w2.heap.size < w3.heap.size := World.block_lt_of_cell? _ _ cX1_0
  replace kk := bC kk hz
  clear hb hz
  go_wp2_with fail
  (with_reducible refine (h3.out _).mono ?_); rintro e w4 ⟨rfl, hb⟩
  have hz := bC (bA (Below.refl _ _) _) hb
  replace cX0_0 := cell_later hz cX0_0; replace cX0_1 := cell_later hz cX0_1; replace cX0_2 := cell_later hz cX0_2; replace cX0_3 := cell_later hz cX0_3
  replace sX0 : w.heap.size < w4.heap.size := World.block_lt_of_cell? _ _ cX0_0
  replace cX1_0 := cell_later hz cX1_0; replace cX1_1 := cell_later hz cX1_1
  replace sX1 : w2.heap.size < w4.heap.size := World.block_lt_of_cell? _ _ cX1_0
  have cX2_0 := cell_later hb (a := ⟨w3.heap.size, 0, none⟩) (v := .int .u64 bh) (by go_simp)
  have cX2_1 := cell_later hb (a := ⟨w3.heap.size, 1, none⟩) (v := .int .u64 bl) (by go_simp)
  have sX2 : w3.heap.size < w4.heap.size := World.block_lt_of_cell? _ _ cX2_0
  replace kk := bC kk hz
  clear hb hz
  go_wp2_with fail
  (with_reducible refine (h4.out _).mono ?_); rintro e w5 ⟨rfl, hb⟩
  replace cX0_0 := cell_later hb cX0_0; replace cX0_1 := cell_later hb cX0_1; replace cX0_2 := cell_later hb cX0_2; replace cX0_3 := cell_later hb cX0_3
  replace sX0 : w.heap.size < w5.heap.size := World.block_lt_of_cell? _ _ cX0_0
  replace cX1_0 := cell_later hb cX1_0; replace cX1_1 := cell_later hb cX1_1
  replace sX1 : w2.heap.size < w5.heap.size := World.block_lt_of_cell? _ _ cX1_0
  replace cX2_0 := cell_later hb cX2_0; replace cX2_1 := cell_later hb cX2_1
  replace sX2 : w3.heap.size < w5.heap.size := World.block_lt_of_cell? _ _ cX2_0
  replace kk := bC kk hb
  clear hb
  go_wp2_with fail
  (with_reducible refine (h5.out _).mono ?_); rintro e w6 ⟨rfl, hb⟩
  have hz := bC (bA (Below.refl _ _) _) hb
  clear cX0_0 cX0_1 cX0_2 cX0_3 sX0
  replace cX1_0 := cell_later hz cX1_0; replace cX1_1 := cell_later hz cX1_1
  replace sX1 : w2.heap.size < w6.heap.size := World.block_lt_of_cell? _ _ cX1_0
  replace cX2_0 := cell_later hz cX2_0; replace cX2_1 := cell_later hz cX2_1
  replace sX2 : w3.heap.size < w6.heap.size := World.block_lt_of_cell? _ _ cX2_0
  replace kk := bC kk hz
  clear hb hz
  go_wp2_with fail
  (with_reducible refine (h6.out _).mono ?_); rintro e w7 ⟨rfl, hb⟩
  clear cX1_0 cX1_1 sX1
  clear cX2_0 cX2_1 sX2
  replace kk := bC kk hb
  clear hb
  go_wp2_with fail
  go_ret
  exact ⟨rfl, kk⟩

end Go.Proofs.Ytmlobelcoggncaa
