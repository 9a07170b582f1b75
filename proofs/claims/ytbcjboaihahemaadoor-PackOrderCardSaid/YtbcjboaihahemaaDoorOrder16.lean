/-
  The walk of the statement PackOrder.
-/
import Derived.Test.YtbcjboaihahemaaDoorPack16M
import Derived.Test.YtbcjboaihahemaaDoorGfA
import Derived.Test.YtbcjboaihahemaaDoorGaA
import Derived.Test.YtbcjboaihahemaaDoorGdA
import Derived.Test.YtbcjboaihahemaaDoorGoes16
set_option linter.unusedVariables false
set_option linter.unusedSimpArgs false
set_option maxRecDepth 100000
namespace Go.Proofs.YtbcjboaihahemaaDoor
open Go.RowKit
attribute [local go_sem ↓] Go.wp_at_zero Go.wp_at_succ

set_option maxHeartbeats 4000000 in
set_option maxRecDepth 100000 in
theorem order16_same (f m mm ex y8 e0 e1 ey c c1 c2 fp fq fr a0 a1 a2 a3 b0 b1 b2 b3 ph pl qh ql rh rl : Int) (t : Bool)
    (h0 : Hid (∀ w, Calls Tryd.prog 18 #[.agg #[.int .u64 a0, .int .u64 a1, .int .u64 a2, .int .u64 a3], .agg #[.int .u64 b0, .int .u64 b1, .int .u64 b2, .int .u64 b3]] w fun e w' => e = .returned (.int .i64 c) ∧ Below w.heap.size w w'))
    (h1 : Hid (∀ w, FTab w → Calls Tryd.prog 12 #[.int .u8 f, .agg #[.int .u8 mm, .bool t], .bool false, .int .i64 e1, .agg #[.int .u64 a0, .int .u64 a1, .int .u64 a2, .int .u64 a3]] w fun e w' => e = .returned (.agg #[.int .u64 ph, .int .u64 pl, .int .u8 fp]) ∧ Below w.heap.size w w'))
    (h2 : Hid (∀ w, FTab w → Calls Tryd.prog 12 #[.int .u8 f, .agg #[.int .u8 mm, .bool t], .bool false, .int .i64 e1, .agg #[.int .u64 b0, .int .u64 b1, .int .u64 b2, .int .u64 b3]] w fun e w' => e = .returned (.agg #[.int .u64 qh, .int .u64 ql, .int .u8 fq]) ∧ Below w.heap.size w w'))
    (h3 : Hid (∀ w, FTab w → Calls Tryd.prog 12 #[.int .u8 f, .agg #[.int .u8 mm, .bool t], .bool false, .int .i64 ey, .agg #[.int .u64 b0, .int .u64 b1, .int .u64 b2, .int .u64 b3]] w fun e w' => e = .returned (.agg #[.int .u64 rh, .int .u64 rl, .int .u8 fr]) ∧ Below w.heap.size w w'))
    (h4 : Hid (∀ w, Calls Tryd.prog 19 #[.agg #[.int .u64 ph, .int .u64 pl], .agg #[.int .u64 qh, .int .u64 ql]] w fun e w' => e = .returned (.int .i64 c1) ∧ Below w.heap.size w w'))
    (h5 : Hid (∀ w, Calls Tryd.prog 19 #[.agg #[.int .u64 qh, .int .u64 ql], .agg #[.int .u64 rh, .int .u64 rl]] w fun e w' => e = .returned (.int .i64 c2) ∧ Below w.heap.size w w'))
    (h6 : Hid (∀ w, FTab w → Calls Tryd.prog 11 #[] w fun e w' => e = .returned (.bool true) ∧ Below w.heap.size w w')) (m2 : m.tmod 5 = mm) (m3 : m % 5 = mm) (q1 : (if 1073741824 < ex then 1073741824 else ex) = e0) (q1' : (if ex > 1073741824 then 1073741824 else ex) = e0) (q2 : (if e0 > (-1073741824) then e0 else (-1073741824)) = e1) (q2' : (if (-1073741824) < e0 then e0 else (-1073741824)) = e1) (k2 : IntKind.i64.wrap y8 = y8) (s1 : IntKind.i64.wrap (e1 + y8) = ey) (s2 : wrap64 (e1 + y8) = ey) (g1 : decide (0 < c) = false) (g2 : decide (c1 ≤ 0) = true) (g3 : decide (c2 ≤ 0) = true) (w : World) (ft : FTab w) :
    Calls Tryd.prog 6 #[.int .u8 f, .agg #[.int .u8 m, .bool t], .int .i64 ex, .agg #[.int .u64 a0, .int .u64 a1, .int .u64 a2, .int .u64 a3], .agg #[.int .u64 b0, .int .u64 b1, .int .u64 b2, .int .u64 b3], .int .u8 y8] w fun e w' => e = .returned (.bool true) ∧ Below w.heap.size w w' := by
  go_enter Tryd.func6, Tryd.ntmps6
  go_wp2_with fail
  (with_reducible refine (h0.out _).mono ?_); rintro e w1 ⟨rfl, hb⟩
  have hz := bC (bA (bA (bA (Below.refl _ _) _) _) _) hb
  have cX0_0 := cell_later hb (a := ⟨w.heap.size, 0, none⟩) (v := .int .u8 mm) (by go_simp)
  have cX0_1 := cell_later hb (a := ⟨w.heap.size, 1, none⟩) (v := .bool t) (by go_simp)
  have sX0 : w.heap.size < w1.heap.size := World.block_lt_of_cell? _ _ cX0_0
  have cX1_0 := cell_later hb (a := ⟨w.heap.size + 1, 0, none⟩) (v := .int .u64 a0) (by go_simp)
  have cX1_1 := cell_later hb (a := ⟨w.heap.size + 1, 1, none⟩) (v := .int .u64 a1) (by go_simp)
  have cX1_2 := cell_later hb (a := ⟨w.heap.size + 1, 2, none⟩) (v := .int .u64 a2) (by go_simp)
  have cX1_3 := cell_later hb (a := ⟨w.heap.size + 1, 3, none⟩) (v := .int .u64 a3) (by go_simp)
  have sX1 : w.heap.size + 1 < w1.heap.size ∧ w.heap.size < w1.heap.size := by have h : w.heap.size + 1 < w1.heap.size := World.block_lt_of_cell? _ _ cX1_0; exact ⟨h, by omega⟩
  have cX2_0 := cell_later hb (a := ⟨w.heap.size + 1 + 1, 0, none⟩) (v := .int .u64 b0) (by go_simp)
  have cX2_1 := cell_later hb (a := ⟨w.heap.size + 1 + 1, 1, none⟩) (v := .int .u64 b1) (by go_simp)
  have cX2_2 := cell_later hb (a := ⟨w.heap.size + 1 + 1, 2, none⟩) (v := .int .u64 b2) (by go_simp)
  have cX2_3 := cell_later hb (a := ⟨w.heap.size + 1 + 1, 3, none⟩) (v := .int .u64 b3) (by go_simp)
  have sX2 : w.heap.size + 1 + 1 < w1.heap.size ∧ w.heap.size + 1 < w1.heap.size := by have h : w.heap.size + 1 + 1 < w1.heap.size := World.block_lt_of_cell? _ _ cX2_0; exact ⟨h, by omega⟩
  have kk := hz
  clear hb hz
  go_wp2_with fail
  (with_reducible refine (h1.out _ (ft.later kk)).mono ?_); rintro e w2 ⟨rfl, hb⟩
  replace cX0_0 := cell_later hb cX0_0; replace cX0_1 := cell_later hb cX0_1
  replace sX0 : w.heap.size < w2.heap.size := World.block_lt_of_cell? _ _ cX0_0
  clear cX1_0 cX1_1 cX1_2 cX1_3 sX1
  replace cX2_0 := cell_later hb cX2_0; replace cX2_1 := cell_later hb cX2_1; replace cX2_2 := cell_later hb cX2_2; replace cX2_3 := cell_later hb cX2_3
  replace sX2 : w.heap.size + 1 + 1 < w2.heap.size ∧ w.heap.size + 1 < w2.heap.size := by have h : w.heap.size + 1 + 1 < w2.heap.size := World.block_lt_of_cell? _ _ cX2_0; exact ⟨h, by omega⟩
  replace kk := bC kk hb
  clear hb
  go_wp2_with fail
  (with_reducible refine (h2.out _ (ft.later (bC kk (bA (Below.refl _ _) _)))).mono ?_); rintro e w3 ⟨rfl, hb⟩
  have hz := bC (bA (Below.refl _ _) _) hb
  replace cX0_0 := cell_later hz cX0_0; replace cX0_1 := cell_later hz cX0_1
  replace sX0 : w.heap.size < w3.heap.size := World.block_lt_of_cell? _ _ cX0_0
  replace cX2_0 := cell_later hz cX2_0; replace cX2_1 := cell_later hz cX2_1; replace cX2_2 := cell_later hz cX2_2; replace cX2_3 := cell_later hz cX2_3
  replace sX2 : w.heap.size + 1 + 1 < w3.heap.size ∧ w.heap.size + 1 < w3.heap.size := by have h : w.heap.size + 1 + 1 < w3.heap.size := World.block_lt_of_cell? _ _ cX2_0; exact ⟨h, by omega⟩
  have cX3_0 := cell_later hb (a := ⟨w2.heap.size, 0, none⟩) (v := .int .u64 ph) (by go_simp)
  have cX3_1 := cell_later hb (a := ⟨w2.heap.size, 1, none⟩) (v := .int .u64 pl) (by go_simp)
  have cX3_2 := cell_later hb (a := ⟨w2.heap.size, 2, none⟩) (v := .int .u8 fp) (by go_simp)
  have sX3 : w2.heap.size < w3.heap.size := World.block_lt_of_cell? _ _ cX3_0
  replace kk := bC kk hz
  clear hb hz
  go_wp2_with fail
  (with_reducible refine (h3.out _ (ft.later (bC kk (bA (Below.refl _ _) _)))).mono ?_); rintro e w4 ⟨rfl, hb⟩
  have hz := bC (bA (Below.refl _ _) _) hb
  clear cX0_0 cX0_1 sX0
  clear cX2_0 cX2_1 cX2_2 cX2_3 sX2
  replace cX3_0 := cell_later hz cX3_0; replace cX3_1 := cell_later hz cX3_1; replace cX3_2 := cell_later hz cX3_2
  replace sX3 : w2.heap.size < w4.heap.size := World.block_lt_of_cell? _ _ cX3_0
  have cX4_0 := cell_later hb (a := ⟨w3.heap.size, 0, none⟩) (v := .int .u64 qh) (by go_simp)
  have cX4_1 := cell_later hb (a := ⟨w3.heap.size, 1, none⟩) (v := .int .u64 ql) (by go_simp)
  have cX4_2 := cell_later hb (a := ⟨w3.heap.size, 2, none⟩) (v := .int .u8 fq) (by go_simp)
  have sX4 : w3.heap.size < w4.heap.size := World.block_lt_of_cell? _ _ cX4_0
  replace kk := bC kk hz
  clear hb hz
  go_wp2_with fail
  (with_reducible refine (h4.out _).mono ?_); rintro e w5 ⟨rfl, hb⟩
  have hz := bC (bA (Below.refl _ _) _) hb
  clear cX3_0 cX3_1 cX3_2 sX3
  replace cX4_0 := cell_later hz cX4_0; replace cX4_1 := cell_later hz cX4_1; replace cX4_2 := cell_later hz cX4_2
  replace sX4 : w3.heap.size < w5.heap.size := World.block_lt_of_cell? _ _ cX4_0
  have cX5_0 := cell_later hb (a := ⟨w4.heap.size, 0, none⟩) (v := .int .u64 rh) (by go_simp)
  have cX5_1 := cell_later hb (a := ⟨w4.heap.size, 1, none⟩) (v := .int .u64 rl) (by go_simp)
  have cX5_2 := cell_later hb (a := ⟨w4.heap.size, 2, none⟩) (v := .int .u8 fr) (by go_simp)
  have sX5 : w4.heap.size < w5.heap.size := World.block_lt_of_cell? _ _ cX5_0
  replace kk := bC kk hz
  clear hb hz
  go_wp2_with fail
  (with_reducible refine (h5.out _).mono ?_); rintro e w6 ⟨rfl, hb⟩
  clear cX4_0 cX4_1 cX4_2 sX4
  clear cX5_0 cX5_1 cX5_2 sX5
  replace kk := bC kk hb
  clear hb
  go_wp2_with fail
  (with_reducible refine (h6.out _ (ft.later kk)).mono ?_); rintro e w7 ⟨rfl, hb⟩
  replace kk := bC kk hb
  clear hb
  go_wp2_with fail
  go_ret
  exact ⟨rfl, kk⟩

set_option maxHeartbeats 4000000 in
set_option maxRecDepth 100000 in
theorem order16_swap (f m mm ex y8 e0 e1 ey c c1 c2 fp fq fr a0 a1 a2 a3 b0 b1 b2 b3 ph pl qh ql rh rl : Int) (t : Bool)
    (h0 : Hid (∀ w, Calls Tryd.prog 18 #[.agg #[.int .u64 a0, .int .u64 a1, .int .u64 a2, .int .u64 a3], .agg #[.int .u64 b0, .int .u64 b1, .int .u64 b2, .int .u64 b3]] w fun e w' => e = .returned (.int .i64 c) ∧ Below w.heap.size w w'))
    (h1 : Hid (∀ w, FTab w → Calls Tryd.prog 12 #[.int .u8 f, .agg #[.int .u8 mm, .bool t], .bool false, .int .i64 e1, .agg #[.int .u64 b0, .int .u64 b1, .int .u64 b2, .int .u64 b3]] w fun e w' => e = .returned (.agg #[.int .u64 ph, .int .u64 pl, .int .u8 fp]) ∧ Below w.heap.size w w'))
    (h2 : Hid (∀ w, FTab w → Calls Tryd.prog 12 #[.int .u8 f, .agg #[.int .u8 mm, .bool t], .bool false, .int .i64 e1, .agg #[.int .u64 a0, .int .u64 a1, .int .u64 a2, .int .u64 a3]] w fun e w' => e = .returned (.agg #[.int .u64 qh, .int .u64 ql, .int .u8 fq]) ∧ Below w.heap.size w w'))
    (h3 : Hid (∀ w, FTab w → Calls Tryd.prog 12 #[.int .u8 f, .agg #[.int .u8 mm, .bool t], .bool false, .int .i64 ey, .agg #[.int .u64 a0, .int .u64 a1, .int .u64 a2, .int .u64 a3]] w fun e w' => e = .returned (.agg #[.int .u64 rh, .int .u64 rl, .int .u8 fr]) ∧ Below w.heap.size w w'))
    (h4 : Hid (∀ w, Calls Tryd.prog 19 #[.agg #[.int .u64 ph, .int .u64 pl], .agg #[.int .u64 qh, .int .u64 ql]] w fun e w' => e = .returned (.int .i64 c1) ∧ Below w.heap.size w w'))
    (h5 : Hid (∀ w, Calls Tryd.prog 19 #[.agg #[.int .u64 qh, .int .u64 ql], .agg #[.int .u64 rh, .int .u64 rl]] w fun e w' => e = .returned (.int .i64 c2) ∧ Below w.heap.size w w'))
    (h6 : Hid (∀ w, FTab w → Calls Tryd.prog 11 #[] w fun e w' => e = .returned (.bool true) ∧ Below w.heap.size w w')) (m2 : m.tmod 5 = mm) (m3 : m % 5 = mm) (q1 : (if 1073741824 < ex then 1073741824 else ex) = e0) (q1' : (if ex > 1073741824 then 1073741824 else ex) = e0) (q2 : (if e0 > (-1073741824) then e0 else (-1073741824)) = e1) (q2' : (if (-1073741824) < e0 then e0 else (-1073741824)) = e1) (k2 : IntKind.i64.wrap y8 = y8) (s1 : IntKind.i64.wrap (e1 + y8) = ey) (s2 : wrap64 (e1 + y8) = ey) (g1 : decide (0 < c) = true) (g2 : decide (c1 ≤ 0) = true) (g3 : decide (c2 ≤ 0) = true) (w : World) (ft : FTab w) :
    Calls Tryd.prog 6 #[.int .u8 f, .agg #[.int .u8 m, .bool t], .int .i64 ex, .agg #[.int .u64 a0, .int .u64 a1, .int .u64 a2, .int .u64 a3], .agg #[.int .u64 b0, .int .u64 b1, .int .u64 b2, .int .u64 b3], .int .u8 y8] w fun e w' => e = .returned (.bool true) ∧ Below w.heap.size w w' := by
  go_enter Tryd.func6, Tryd.ntmps6
  go_wp2_with fail
  (with_reducible refine (h0.out _).mono ?_); rintro e w1 ⟨rfl, hb⟩
  have hz := bC (bA (bA (bA (Below.refl _ _) _) _) _) hb
  have gX1 : w.heap.size ≤ w.heap.size + 1 := by omega
  have gX2 : w.heap.size ≤ w.heap.size + 1 + 1 := by omega
  have cX0_0 := cell_later hb (a := ⟨w.heap.size, 0, none⟩) (v := .int .u8 mm) (by go_simp)
  have cX0_1 := cell_later hb (a := ⟨w.heap.size, 1, none⟩) (v := .bool t) (by go_simp)
  have sX0 : w.heap.size < w1.heap.size := World.block_lt_of_cell? _ _ cX0_0
  have cX1_0 := cell_later hb (a := ⟨w.heap.size + 1, 0, none⟩) (v := .int .u64 a0) (by go_simp)
  have cX1_1 := cell_later hb (a := ⟨w.heap.size + 1, 1, none⟩) (v := .int .u64 a1) (by go_simp)
  have cX1_2 := cell_later hb (a := ⟨w.heap.size + 1, 2, none⟩) (v := .int .u64 a2) (by go_simp)
  have cX1_3 := cell_later hb (a := ⟨w.heap.size + 1, 3, none⟩) (v := .int .u64 a3) (by go_simp)
  have sX1 : w.heap.size + 1 < w1.heap.size ∧ w.heap.size < w1.heap.size := by have h : w.heap.size + 1 < w1.heap.size := World.block_lt_of_cell? _ _ cX1_0; exact ⟨h, by omega⟩
  have fX1_0 := frozen_later hb (a := ⟨w.heap.size + 1, 0, none⟩) (v := .int .u64 a0) (by go_simp) (by go_simp)
  have fX1_1 := frozen_later hb (a := ⟨w.heap.size + 1, 1, none⟩) (v := .int .u64 a1) (by go_simp) (by go_simp)
  have fX1_2 := frozen_later hb (a := ⟨w.heap.size + 1, 2, none⟩) (v := .int .u64 a2) (by go_simp) (by go_simp)
  have fX1_3 := frozen_later hb (a := ⟨w.heap.size + 1, 3, none⟩) (v := .int .u64 a3) (by go_simp) (by go_simp)
  have cX2_0 := cell_later hb (a := ⟨w.heap.size + 1 + 1, 0, none⟩) (v := .int .u64 b0) (by go_simp)
  have cX2_1 := cell_later hb (a := ⟨w.heap.size + 1 + 1, 1, none⟩) (v := .int .u64 b1) (by go_simp)
  have cX2_2 := cell_later hb (a := ⟨w.heap.size + 1 + 1, 2, none⟩) (v := .int .u64 b2) (by go_simp)
  have cX2_3 := cell_later hb (a := ⟨w.heap.size + 1 + 1, 3, none⟩) (v := .int .u64 b3) (by go_simp)
  have sX2 : w.heap.size + 1 + 1 < w1.heap.size ∧ w.heap.size + 1 < w1.heap.size := by have h : w.heap.size + 1 + 1 < w1.heap.size := World.block_lt_of_cell? _ _ cX2_0; exact ⟨h, by omega⟩
  have fX2_0 := frozen_later hb (a := ⟨w.heap.size + 1 + 1, 0, none⟩) (v := .int .u64 b0) (by go_simp) (by go_simp)
  have fX2_1 := frozen_later hb (a := ⟨w.heap.size + 1 + 1, 1, none⟩) (v := .int .u64 b1) (by go_simp) (by go_simp)
  have fX2_2 := frozen_later hb (a := ⟨w.heap.size + 1 + 1, 2, none⟩) (v := .int .u64 b2) (by go_simp) (by go_simp)
  have fX2_3 := frozen_later hb (a := ⟨w.heap.size + 1 + 1, 3, none⟩) (v := .int .u64 b3) (by go_simp) (by go_simp)
  have kk := hz
  clear hb hz
  go_wp2_with fail
  (with_reducible refine (h1.out _ (ft.later ((((((((((((((((kk).setCell (p := ⟨w.heap.size + 1, 0, none⟩) gX1 _)).setCell (p := ⟨w.heap.size + 1, 1, none⟩) gX1 _)).setCell (p := ⟨w.heap.size + 1, 2, none⟩) gX1 _)).setCell (p := ⟨w.heap.size + 1, 3, none⟩) gX1 _)).setCell (p := ⟨w.heap.size + 1 + 1, 0, none⟩) gX2 _)).setCell (p := ⟨w.heap.size + 1 + 1, 1, none⟩) gX2 _)).setCell (p := ⟨w.heap.size + 1 + 1, 2, none⟩) gX2 _)).setCell (p := ⟨w.heap.size + 1 + 1, 3, none⟩) gX2 _))).mono ?_); rintro e w2 ⟨rfl, hb⟩
  replace kk := bC ((((((((kk.setCell (p := ⟨w.heap.size + 1, 0, none⟩) gX1 _).setCell (p := ⟨w.heap.size + 1, 1, none⟩) gX1 _).setCell (p := ⟨w.heap.size + 1, 2, none⟩) gX1 _).setCell (p := ⟨w.heap.size + 1, 3, none⟩) gX1 _).setCell (p := ⟨w.heap.size + 1 + 1, 0, none⟩) gX2 _).setCell (p := ⟨w.heap.size + 1 + 1, 1, none⟩) gX2 _).setCell (p := ⟨w.heap.size + 1 + 1, 2, none⟩) gX2 _).setCell (p := ⟨w.heap.size + 1 + 1, 3, none⟩) gX2 _) hb
  clear cX1_0 cX1_1 cX1_2 cX1_3 sX1
  have ncX0_0 := cell_later hb (a := ⟨w.heap.size, 0, none⟩) (v := .int .u8 mm) (by go_simp)
  have ncX0_1 := cell_later hb (a := ⟨w.heap.size, 1, none⟩) (v := .bool t) (by go_simp)
  have ncX2_0 := cell_later hb (a := ⟨w.heap.size + 1 + 1, 0, none⟩) (v := .int .u64 a0) (by go_simp)
  have ncX2_1 := cell_later hb (a := ⟨w.heap.size + 1 + 1, 1, none⟩) (v := .int .u64 a1) (by go_simp)
  have ncX2_2 := cell_later hb (a := ⟨w.heap.size + 1 + 1, 2, none⟩) (v := .int .u64 a2) (by go_simp)
  have ncX2_3 := cell_later hb (a := ⟨w.heap.size + 1 + 1, 3, none⟩) (v := .int .u64 a3) (by go_simp)
  have nfX2_0 := frozen_later hb (a := ⟨w.heap.size + 1 + 1, 0, none⟩) (v := .int .u64 a0) (by go_simp) (by go_simp)
  have nfX2_1 := frozen_later hb (a := ⟨w.heap.size + 1 + 1, 1, none⟩) (v := .int .u64 a1) (by go_simp) (by go_simp)
  have nfX2_2 := frozen_later hb (a := ⟨w.heap.size + 1 + 1, 2, none⟩) (v := .int .u64 a2) (by go_simp) (by go_simp)
  have nfX2_3 := frozen_later hb (a := ⟨w.heap.size + 1 + 1, 3, none⟩) (v := .int .u64 a3) (by go_simp) (by go_simp)
  clear cX0_0 cX0_1 sX0
  have cX0_0 := ncX0_0; clear ncX0_0
  have cX0_1 := ncX0_1; clear ncX0_1
  have sX0 : w.heap.size < w2.heap.size := World.block_lt_of_cell? _ _ cX0_0
  clear cX2_0 cX2_1 cX2_2 cX2_3 sX2 fX2_0 fX2_1 fX2_2 fX2_3
  have cX2_0 := ncX2_0; clear ncX2_0
  have fX2_0 := nfX2_0; clear nfX2_0
  have cX2_1 := ncX2_1; clear ncX2_1
  have fX2_1 := nfX2_1; clear nfX2_1
  have cX2_2 := ncX2_2; clear ncX2_2
  have fX2_2 := nfX2_2; clear nfX2_2
  have cX2_3 := ncX2_3; clear ncX2_3
  have fX2_3 := nfX2_3; clear nfX2_3
  have sX2 : w.heap.size + 1 + 1 < w2.heap.size ∧ w.heap.size + 1 < w2.heap.size := by have h : w.heap.size + 1 + 1 < w2.heap.size := World.block_lt_of_cell? _ _ cX2_0; exact ⟨h, by omega⟩
  clear hb
  go_wp2_with fail
  (with_reducible refine (h2.out _ (ft.later (bC kk (bA (Below.refl _ _) _)))).mono ?_); rintro e w3 ⟨rfl, hb⟩
  have hz := bC (bA (Below.refl _ _) _) hb
  have nX2_X3 : w.heap.size + 1 + 1 < w2.heap.size := by omega
  replace cX0_0 := cell_later hz cX0_0; replace cX0_1 := cell_later hz cX0_1
  replace sX0 : w.heap.size < w3.heap.size := World.block_lt_of_cell? _ _ cX0_0
  replace fX2_0 := frozen_later hz cX2_0 fX2_0; replace fX2_1 := frozen_later hz cX2_1 fX2_1; replace fX2_2 := frozen_later hz cX2_2 fX2_2; replace fX2_3 := frozen_later hz cX2_3 fX2_3
  replace cX2_0 := cell_later hz cX2_0; replace cX2_1 := cell_later hz cX2_1; replace cX2_2 := cell_later hz cX2_2; replace cX2_3 := cell_later hz cX2_3
  replace sX2 : w.heap.size + 1 + 1 < w3.heap.size ∧ w.heap.size + 1 < w3.heap.size := by have h : w.heap.size + 1 + 1 < w3.heap.size := World.block_lt_of_cell? _ _ cX2_0; exact ⟨h, by omega⟩
  have cX3_0 := cell_later hb (a := ⟨w2.heap.size, 0, none⟩) (v := .int .u64 ph) (by go_simp)
  have cX3_1 := cell_later hb (a := ⟨w2.heap.size, 1, none⟩) (v := .int .u64 pl) (by go_simp)
  have cX3_2 := cell_later hb (a := ⟨w2.heap.size, 2, none⟩) (v := .int .u8 fp) (by go_simp)
  have sX3 : w2.heap.size < w3.heap.size := World.block_lt_of_cell? _ _ cX3_0
  replace kk := bC kk hz
  clear hb hz
  go_wp2_with fail
  (with_reducible refine (h3.out _ (ft.later (bC kk (bA (Below.refl _ _) _)))).mono ?_); rintro e w4 ⟨rfl, hb⟩
  have hz := bC (bA (Below.refl _ _) _) hb
  clear cX0_0 cX0_1 sX0
  clear cX2_0 cX2_1 cX2_2 cX2_3 sX2
  replace cX3_0 := cell_later hz cX3_0; replace cX3_1 := cell_later hz cX3_1; replace cX3_2 := cell_later hz cX3_2
  replace sX3 : w2.heap.size < w4.heap.size := World.block_lt_of_cell? _ _ cX3_0
  have cX4_0 := cell_later hb (a := ⟨w3.heap.size, 0, none⟩) (v := .int .u64 qh) (by go_simp)
  have cX4_1 := cell_later hb (a := ⟨w3.heap.size, 1, none⟩) (v := .int .u64 ql) (by go_simp)
  have cX4_2 := cell_later hb (a := ⟨w3.heap.size, 2, none⟩) (v := .int .u8 fq) (by go_simp)
  have sX4 : w3.heap.size < w4.heap.size := World.block_lt_of_cell? _ _ cX4_0
  replace kk := bC kk hz
  clear hb hz
  go_wp2_with fail
  (with_reducible refine (h4.out _).mono ?_); rintro e w5 ⟨rfl, hb⟩
  have hz := bC (bA (Below.refl _ _) _) hb
  clear cX3_0 cX3_1 cX3_2 sX3
  replace cX4_0 := cell_later hz cX4_0; replace cX4_1 := cell_later hz cX4_1; replace cX4_2 := cell_later hz cX4_2
  replace sX4 : w3.heap.size < w5.heap.size := World.block_lt_of_cell? _ _ cX4_0
  have cX5_0 := cell_later hb (a := ⟨w4.heap.size, 0, none⟩) (v := .int .u64 rh) (by go_simp)
  have cX5_1 := cell_later hb (a := ⟨w4.heap.size, 1, none⟩) (v := .int .u64 rl) (by go_simp)
  have cX5_2 := cell_later hb (a := ⟨w4.heap.size, 2, none⟩) (v := .int .u8 fr) (by go_simp)
  have sX5 : w4.heap.size < w5.heap.size := World.block_lt_of_cell? _ _ cX5_0
  replace kk := bC kk hz
  clear hb hz
  go_wp2_with fail
  (with_reducible refine (h5.out _).mono ?_); rintro e w6 ⟨rfl, hb⟩
  clear cX4_0 cX4_1 cX4_2 sX4
  clear cX5_0 cX5_1 cX5_2 sX5
  replace kk := bC kk hb
  clear hb
  go_wp2_with fail
  (with_reducible refine (h6.out _ (ft.later kk)).mono ?_); rintro e w7 ⟨rfl, hb⟩
  replace kk := bC kk hb
  clear hb
  go_wp2_with fail
  go_ret
  exact ⟨rfl, kk⟩



end Go.Proofs.YtbcjboaihahemaaDoor
