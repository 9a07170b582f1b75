/-
  The walk of the statement ClassEdges.
-/
import Derived.Test.YtdlmnnnnnjgkiaaDoorForm7T
import Derived.Test.YtdlmnnnnnjgkiaaDoorGaA
import Derived.Test.YtdlmnnnnnjgkiaaDoorRef8
set_option linter.unusedVariables false
set_option linter.unusedSimpArgs false
set_option maxRecDepth 100000
namespace Go.Proofs.YtdlmnnnnnjgkiaaDoor
open Go.RowKit
attribute [local go_sem ↓] Go.wp_at_zero Go.wp_at_succ

set_option maxHeartbeats 4000000 in
set_option maxRecDepth 100000 in
theorem edges8_no (f bh bl : Int)
    (h0 : Hid (∀ w, FTab w → Calls Tryd.prog 18 #[.int .u8 f] w fun e w' => e = .returned (.bool false) ∧ Below w.heap.size w w'))
    (h1 : Hid (∀ w, FTab w → Calls Tryd.prog 16 #[] w fun e w' => e = .returned (.bool true) ∧ Below w.heap.size w w')) (w : World) (ft : FTab w) :
    Calls Tryd.prog 6 #[.int .u8 f, .agg #[.int .u64 bh, .int .u64 bl]] w fun e w' => e = .returned (.bool true) ∧ Below w.heap.size w w' := by
  go_enter Tryd.func6, Tryd.ntmps6
  go_wp2_with fail
  (with_reducible refine (h0.out _ (ft.later (bA (Below.refl _ _) _))).mono ?_); rintro e w1 ⟨rfl, hb⟩
  have hz := bC (bA (Below.refl _ _) _) hb
  have kk := hz
  clear hb hz
  go_wp2_with fail
  (with_reducible refine (h1.out _ (ft.later kk)).mono ?_); rintro e w2 ⟨rfl, hb⟩
  replace kk := bC kk hb
  clear hb
  go_wp2_with fail
  go_ret
  exact ⟨rfl, kk⟩

set_option maxHeartbeats 4000000 in
set_option maxRecDepth 100000 in
theorem edges8_zero (f bh bl rh rl eh el lh ll nh nl uh ul y em p x2 x3 kp c z2 : Int) (x o o2 o3 b4 : Bool)
    (h0 : Hid (∀ w, FTab w → Calls Tryd.prog 18 #[.int .u8 f] w fun e w' => e = .returned (.bool true) ∧ Below w.heap.size w w'))
    (h1 : Hid (∀ w, FTab w → Calls Tryd.prog 26 #[.int .u8 f, .agg #[.int .u64 bh, .int .u64 bl]] w fun e w' => e = .returned (.tuple #[.bool x, .int .i64 y, .agg #[.int .u64 rh, .int .u64 rl]]) ∧ Below w.heap.size w w'))
    (h2 : Hid (∀ w, FTab w → Calls Tryd.prog 27 #[.int .u8 f, .bool false, .int .i64 y, .agg #[.int .u64 rh, .int .u64 rl]] w fun e w' => e = .returned (.agg #[.int .u64 eh, .int .u64 el]) ∧ Below w.heap.size w w'))
    (h3 : Hid (∀ w, FTab w → Calls Tryd.prog 27 #[.int .u8 f, .bool false, .int .i64 1, .agg #[.int .u64 0, .int .u64 0]] w fun e w' => e = .returned (.agg #[.int .u64 nh, .int .u64 nl]) ∧ Below w.heap.size w w'))
    (h4 : Hid (∀ w, FTab w → Calls Tryd.prog 28 #[.int .u8 f] w fun e w' => e = .returned (.int .i64 em) ∧ Below w.heap.size w w'))
    (h5 : Hid (∀ w, FTab w → Calls Tryd.prog 29 #[.int .u8 f] w fun e w' => e = .returned (.int .i64 p) ∧ Below w.heap.size w w'))
    (h6 : Hid (∀ w, Calls Tryd.prog 21 #[.agg #[.int .u64 0, .int .u64 1], .int .i64 kp] w fun e w' => e = .returned (.agg #[.int .u64 lh, .int .u64 ll]) ∧ Below w.heap.size w w'))
    (h7 : Hid (∀ w, FTab w → Calls Tryd.prog 27 #[.int .u8 f, .bool false, .int .i64 x3, .agg #[.int .u64 lh, .int .u64 ll]] w fun e w' => e = .returned (.agg #[.int .u64 uh, .int .u64 ul]) ∧ Below w.heap.size w w'))
    (h8 : Hid (∀ w, FTab w → Calls Tryd.prog 9 #[.int .u8 f, .agg #[.int .u64 eh, .int .u64 el]] w fun e w' => e = .returned (.tuple #[.int .u8 c, .bool o]) ∧ Below w.heap.size w w'))
    (h9 : Hid (∀ w, FTab w → Calls Tryd.prog 9 #[.int .u8 f, .agg #[.int .u64 nh, .int .u64 nl]] w fun e w' => e = .returned (.tuple #[.int .u8 2, .bool o2]) ∧ Below w.heap.size w w'))
    (h10 : Hid (∀ w, FTab w → Calls Tryd.prog 9 #[.int .u8 f, .agg #[.int .u64 uh, .int .u64 ul]] w fun e w' => e = .returned (.tuple #[.int .u8 4, .bool o3]) ∧ Below w.heap.size w w'))
    (h11 : Hid (∀ w, Calls Tryd.prog 25 #[.agg #[.int .u64 eh, .int .u64 el]] w fun e w' => e = .returned (.bool true) ∧ Below w.heap.size w w'))
    (h13 : Hid (∀ w, Calls Tryd.prog 23 #[.agg #[.int .u64 eh, .int .u64 el], .agg #[.int .u64 uh, .int .u64 ul]] w fun e w' => e = .returned (.int .i64 z2) ∧ Below w.heap.size w w'))
    (h14 : Hid (∀ w, FTab w → Calls Tryd.prog 16 #[] w fun e w' => e = .returned (.bool true) ∧ Below w.heap.size w w')) (w1 : IntKind.i64.wrap (2 * em) = x2) (w2 : IntKind.i64.wrap (x2 + 1) = x3) (w2x : wrap64 (x2 + 1) = x3) (w3 : IntKind.i64.wrap (p - 2) = kp) (j3 : (c == 4) = b4) (j4 : decide (0 ≤ z2) = b4) (j1 : (c == 1) = false) (w : World) (ft : FTab w) :
    Calls Tryd.prog 6 #[.int .u8 f, .agg #[.int .u64 bh, .int .u64 bl]] w fun e w' => e = .returned (.bool true) ∧ Below w.heap.size w w' := by
  go_enter Tryd.func6, Tryd.ntmps6
  go_wp2_with fail
  (with_reducible refine (h0.out _ (ft.later (bA (Below.refl _ _) _))).mono ?_); rintro e w1 ⟨rfl, hb⟩
  have hz := bC (bA (Below.refl _ _) _) hb
  have gX0 : w.heap.size ≤ w.heap.size := by omega
  have cX0_0 := cell_later hb (a := ⟨w.heap.size, 0, none⟩) (v := .int .u64 bh) (by go_simp)
  have cX0_1 := cell_later hb (a := ⟨w.heap.size, 1, none⟩) (v := .int .u64 bl) (by go_simp)
  have sX0 : w.heap.size < w1.heap.size := World.block_lt_of_cell? _ _ cX0_0
  have fX0_0 := frozen_later hb (a := ⟨w.heap.size, 0, none⟩) (v := .int .u64 bh) (by go_simp) (by go_simp)
  have fX0_1 := frozen_later hb (a := ⟨w.heap.size, 1, none⟩) (v := .int .u64 bl) (by go_simp) (by go_simp)
  have kk := hz
  clear hb hz
  go_wp2_with fail
  (with_reducible refine (h1.out _ (ft.later kk)).mono ?_); rintro e w2 ⟨rfl, hb⟩
  replace fX0_0 := frozen_later hb cX0_0 fX0_0; replace fX0_1 := frozen_later hb cX0_1 fX0_1
  replace cX0_0 := cell_later hb cX0_0; replace cX0_1 := cell_later hb cX0_1
  replace sX0 : w.heap.size < w2.heap.size := World.block_lt_of_cell? _ _ cX0_0
  replace kk := bC kk hb
  clear hb
  go_wp2_with fail
  (with_reducible refine (h2.out _ (ft.later (bC kk (bA (Below.refl _ _) _)))).mono ?_); rintro e w3 ⟨rfl, hb⟩
  have hz := bC (bA (Below.refl _ _) _) hb
  replace fX0_0 := frozen_later hz cX0_0 fX0_0; replace fX0_1 := frozen_later hz cX0_1 fX0_1
  replace cX0_0 := cell_later hz cX0_0; replace cX0_1 := cell_later hz cX0_1
  replace sX0 : w.heap.size < w3.heap.size := World.block_lt_of_cell? _ _ cX0_0
  replace kk := bC kk hz
  clear hb hz
  go_wp2_with fail
  (with_reducible refine (h3.out _ (ft.later ((((kk).setCell (p := ⟨w.heap.size, 0, none⟩) gX0 _)).setCell (p := ⟨w.heap.size, 1, none⟩) gX0 _))).mono ?_); rintro e w4 ⟨rfl, hb⟩
  replace kk := bC ((kk.setCell (p := ⟨w.heap.size, 0, none⟩) gX0 _).setCell (p := ⟨w.heap.size, 1, none⟩) gX0 _) hb
  have ncX0_0 := cell_later hb (a := ⟨w.heap.size, 0, none⟩) (v := .int .u64 eh) (by go_simp)
  have ncX0_1 := cell_later hb (a := ⟨w.heap.size, 1, none⟩) (v := .int .u64 el) (by go_simp)
  have nfX0_0 := frozen_later hb (a := ⟨w.heap.size, 0, none⟩) (v := .int .u64 eh) (by go_simp) (by go_simp)
  have nfX0_1 := frozen_later hb (a := ⟨w.heap.size, 1, none⟩) (v := .int .u64 el) (by go_simp) (by go_simp)
  clear cX0_0 cX0_1 sX0 fX0_0 fX0_1
  have cX0_0 := ncX0_0; clear ncX0_0
  have fX0_0 := nfX0_0; clear nfX0_0
  have cX0_1 := ncX0_1; clear ncX0_1
  have fX0_1 := nfX0_1; clear nfX0_1
  have sX0 : w.heap.size < w4.heap.size := World.block_lt_of_cell? _ _ cX0_0
  clear hb
  go_wp2_with fail
  (with_reducible refine (h4.out _ (ft.later (bC kk (bA (Below.refl _ _) _)))).mono ?_); rintro e w5 ⟨rfl, hb⟩
  have hz := bC (bA (Below.refl _ _) _) hb
  have nX0_X2 : w.heap.size < w4.heap.size := by omega
  replace fX0_0 := frozen_later hz cX0_0 fX0_0; replace fX0_1 := frozen_later hz cX0_1 fX0_1
  replace cX0_0 := cell_later hz cX0_0; replace cX0_1 := cell_later hz cX0_1
  replace sX0 : w.heap.size < w5.heap.size := World.block_lt_of_cell? _ _ cX0_0
  have cX2_0 := cell_later hb (a := ⟨w4.heap.size, 0, none⟩) (v := .int .u64 nh) (by go_simp)
  have cX2_1 := cell_later hb (a := ⟨w4.heap.size, 1, none⟩) (v := .int .u64 nl) (by go_simp)
  have sX2 : w4.heap.size < w5.heap.size := World.block_lt_of_cell? _ _ cX2_0
  replace kk := bC kk hz
  clear hb hz
  go_wp2_with fail
  (with_reducible refine (h5.out _ (ft.later kk)).mono ?_); rintro e w6 ⟨rfl, hb⟩
  replace fX0_0 := frozen_later hb cX0_0 fX0_0; replace fX0_1 := frozen_later hb cX0_1 fX0_1
  replace cX0_0 := cell_later hb cX0_0; replace cX0_1 := cell_later hb cX0_1
  replace sX0 : w.heap.size < w6.heap.size := World.block_lt_of_cell? _ _ cX0_0
  replace cX2_0 := cell_later hb cX2_0; replace cX2_1 := cell_later hb cX2_1
  replace sX2 : w4.heap.size < w6.heap.size := World.block_lt_of_cell? _ _ cX2_0
  replace kk := bC kk hb
  clear hb
  go_wp2_with fail
  (with_reducible refine (h6.out _).mono ?_); rintro e w7 ⟨rfl, hb⟩
  replace fX0_0 := frozen_later hb cX0_0 fX0_0; replace fX0_1 := frozen_later hb cX0_1 fX0_1
  replace cX0_0 := cell_later hb cX0_0; replace cX0_1 := cell_later hb cX0_1
  replace sX0 : w.heap.size < w7.heap.size := World.block_lt_of_cell? _ _ cX0_0
  replace cX2_0 := cell_later hb cX2_0; replace cX2_1 := cell_later hb cX2_1
  replace sX2 : w4.heap.size < w7.heap.size := World.block_lt_of_cell? _ _ cX2_0
  replace kk := bC kk hb
  clear hb
  go_wp2_with fail
  (with_reducible refine (h7.out _ (ft.later kk)).mono ?_); rintro e w8 ⟨rfl, hb⟩
  replace fX0_0 := frozen_later hb cX0_0 fX0_0; replace fX0_1 := frozen_later hb cX0_1 fX0_1
  replace cX0_0 := cell_later hb cX0_0; replace cX0_1 := cell_later hb cX0_1
  replace sX0 : w.heap.size < w8.heap.size := World.block_lt_of_cell? _ _ cX0_0
  replace cX2_0 := cell_later hb cX2_0; replace cX2_1 := cell_later hb cX2_1
  replace sX2 : w4.heap.size < w8.heap.size := World.block_lt_of_cell? _ _ cX2_0
  replace kk := bC kk hb
  clear hb
  go_wp2_with fail
  (with_reducible refine (h8.out _ (ft.later (bC kk (bA (Below.refl _ _) _)))).mono ?_); rintro e w9 ⟨rfl, hb⟩
  have hz := bC (bA (Below.refl _ _) _) hb
  have nX0_X3 : w.heap.size < w8.heap.size := by omega
  replace fX0_0 := frozen_later hz cX0_0 fX0_0; replace fX0_1 := frozen_later hz cX0_1 fX0_1
  replace cX0_0 := cell_later hz cX0_0; replace cX0_1 := cell_later hz cX0_1
  replace sX0 : w.heap.size < w9.heap.size := World.block_lt_of_cell? _ _ cX0_0
  replace cX2_0 := cell_later hz cX2_0; replace cX2_1 := cell_later hz cX2_1
  replace sX2 : w4.heap.size < w9.heap.size := World.block_lt_of_cell? _ _ cX2_0
  have cX3_0 := cell_later hb (a := ⟨w8.heap.size, 0, none⟩) (v := .int .u64 uh) (by go_simp)
  have cX3_1 := cell_later hb (a := ⟨w8.heap.size, 1, none⟩) (v := .int .u64 ul) (by go_simp)
  have sX3 : w8.heap.size < w9.heap.size := World.block_lt_of_cell? _ _ cX3_0
  replace kk := bC kk hz
  clear hb hz
  go_wp2_with fail
  (with_reducible refine (h9.out _ (ft.later kk)).mono ?_); rintro e w10 ⟨rfl, hb⟩
  replace fX0_0 := frozen_later hb cX0_0 fX0_0; replace fX0_1 := frozen_later hb cX0_1 fX0_1
  replace cX0_0 := cell_later hb cX0_0; replace cX0_1 := cell_later hb cX0_1
  replace sX0 : w.heap.size < w10.heap.size := World.block_lt_of_cell? _ _ cX0_0
  replace cX2_0 := cell_later hb cX2_0; replace cX2_1 := cell_later hb cX2_1
  replace sX2 : w4.heap.size < w10.heap.size := World.block_lt_of_cell? _ _ cX2_0
  replace cX3_0 := cell_later hb cX3_0; replace cX3_1 := cell_later hb cX3_1
  replace sX3 : w8.heap.size < w10.heap.size := World.block_lt_of_cell? _ _ cX3_0
  replace kk := bC kk hb
  clear hb
  go_wp2_with fail
  (with_reducible refine (h10.out _ (ft.later kk)).mono ?_); rintro e w11 ⟨rfl, hb⟩
  replace fX0_0 := frozen_later hb cX0_0 fX0_0; replace fX0_1 := frozen_later hb cX0_1 fX0_1
  replace cX0_0 := cell_later hb cX0_0; replace cX0_1 := cell_later hb cX0_1
  replace sX0 : w.heap.size < w11.heap.size := World.block_lt_of_cell? _ _ cX0_0
  replace cX2_0 := cell_later hb cX2_0; replace cX2_1 := cell_later hb cX2_1
  replace sX2 : w4.heap.size < w11.heap.size := World.block_lt_of_cell? _ _ cX2_0
  replace cX3_0 := cell_later hb cX3_0; replace cX3_1 := cell_later hb cX3_1
  replace sX3 : w8.heap.size < w11.heap.size := World.block_lt_of_cell? _ _ cX3_0
  replace kk := bC kk hb
  clear hb
  go_wp2_with fail
  (with_reducible refine (h11.out _).mono ?_); rintro e w12 ⟨rfl, hb⟩
  replace fX0_0 := frozen_later hb cX0_0 fX0_0; replace fX0_1 := frozen_later hb cX0_1 fX0_1
  replace cX0_0 := cell_later hb cX0_0; replace cX0_1 := cell_later hb cX0_1
  replace sX0 : w.heap.size < w12.heap.size := World.block_lt_of_cell? _ _ cX0_0
  replace cX2_0 := cell_later hb cX2_0; replace cX2_1 := cell_later hb cX2_1
  replace sX2 : w4.heap.size < w12.heap.size := World.block_lt_of_cell? _ _ cX2_0
  replace cX3_0 := cell_later hb cX3_0; replace cX3_1 := cell_later hb cX3_1
  replace sX3 : w8.heap.size < w12.heap.size := World.block_lt_of_cell? _ _ cX3_0
  replace kk := bC kk hb
  clear hb
  go_wp2_with fail
  (with_reducible refine (h13.out _).mono ?_); rintro e w13 ⟨rfl, hb⟩
  clear cX0_0 cX0_1 sX0
  clear cX2_0 cX2_1 sX2
  clear cX3_0 cX3_1 sX3
  replace kk := bC kk hb
  clear hb
  go_wp2_with fail
  (with_reducible refine (h14.out _ (ft.later kk)).mono ?_); rintro e w14 ⟨rfl, hb⟩
  replace kk := bC kk hb
  clear hb
  go_wp2_with fail
  go_ret
  exact ⟨rfl, kk⟩

set_option maxHeartbeats 4000000 in
set_option maxRecDepth 100000 in
theorem edges8_not (f bh bl rh rl eh el lh ll nh nl uh ul y em p x2 x3 kp c z2 z1 : Int) (x o o2 o3 b4 sb : Bool)
    (h0 : Hid (∀ w, FTab w → Calls Tryd.prog 18 #[.int .u8 f] w fun e w' => e = .returned (.bool true) ∧ Below w.heap.size w w'))
    (h1 : Hid (∀ w, FTab w → Calls Tryd.prog 26 #[.int .u8 f, .agg #[.int .u64 bh, .int .u64 bl]] w fun e w' => e = .returned (.tuple #[.bool x, .int .i64 y, .agg #[.int .u64 rh, .int .u64 rl]]) ∧ Below w.heap.size w w'))
    (h2 : Hid (∀ w, FTab w → Calls Tryd.prog 27 #[.int .u8 f, .bool false, .int .i64 y, .agg #[.int .u64 rh, .int .u64 rl]] w fun e w' => e = .returned (.agg #[.int .u64 eh, .int .u64 el]) ∧ Below w.heap.size w w'))
    (h3 : Hid (∀ w, FTab w → Calls Tryd.prog 27 #[.int .u8 f, .bool false, .int .i64 1, .agg #[.int .u64 0, .int .u64 0]] w fun e w' => e = .returned (.agg #[.int .u64 nh, .int .u64 nl]) ∧ Below w.heap.size w w'))
    (h4 : Hid (∀ w, FTab w → Calls Tryd.prog 28 #[.int .u8 f] w fun e w' => e = .returned (.int .i64 em) ∧ Below w.heap.size w w'))
    (h5 : Hid (∀ w, FTab w → Calls Tryd.prog 29 #[.int .u8 f] w fun e w' => e = .returned (.int .i64 p) ∧ Below w.heap.size w w'))
    (h6 : Hid (∀ w, Calls Tryd.prog 21 #[.agg #[.int .u64 0, .int .u64 1], .int .i64 kp] w fun e w' => e = .returned (.agg #[.int .u64 lh, .int .u64 ll]) ∧ Below w.heap.size w w'))
    (h7 : Hid (∀ w, FTab w → Calls Tryd.prog 27 #[.int .u8 f, .bool false, .int .i64 x3, .agg #[.int .u64 lh, .int .u64 ll]] w fun e w' => e = .returned (.agg #[.int .u64 uh, .int .u64 ul]) ∧ Below w.heap.size w w'))
    (h8 : Hid (∀ w, FTab w → Calls Tryd.prog 9 #[.int .u8 f, .agg #[.int .u64 eh, .int .u64 el]] w fun e w' => e = .returned (.tuple #[.int .u8 c, .bool o]) ∧ Below w.heap.size w w'))
    (h9 : Hid (∀ w, FTab w → Calls Tryd.prog 9 #[.int .u8 f, .agg #[.int .u64 nh, .int .u64 nl]] w fun e w' => e = .returned (.tuple #[.int .u8 2, .bool o2]) ∧ Below w.heap.size w w'))
    (h10 : Hid (∀ w, FTab w → Calls Tryd.prog 9 #[.int .u8 f, .agg #[.int .u64 uh, .int .u64 ul]] w fun e w' => e = .returned (.tuple #[.int .u8 4, .bool o3]) ∧ Below w.heap.size w w'))
    (h11 : Hid (∀ w, Calls Tryd.prog 25 #[.agg #[.int .u64 eh, .int .u64 el]] w fun e w' => e = .returned (.bool false) ∧ Below w.heap.size w w'))
    (h12 : Hid (∀ w, Calls Tryd.prog 23 #[.agg #[.int .u64 eh, .int .u64 el], .agg #[.int .u64 nh, .int .u64 nl]] w fun e w' => e = .returned (.int .i64 z1) ∧ Below w.heap.size w w'))
    (h13 : Hid (∀ w, Calls Tryd.prog 23 #[.agg #[.int .u64 eh, .int .u64 el], .agg #[.int .u64 uh, .int .u64 ul]] w fun e w' => e = .returned (.int .i64 z2) ∧ Below w.heap.size w w'))
    (h14 : Hid (∀ w, FTab w → Calls Tryd.prog 16 #[] w fun e w' => e = .returned (.bool true) ∧ Below w.heap.size w w')) (w1 : IntKind.i64.wrap (2 * em) = x2) (w2 : IntKind.i64.wrap (x2 + 1) = x3) (w2x : wrap64 (x2 + 1) = x3) (w3 : IntKind.i64.wrap (p - 2) = kp) (j3 : (c == 4) = b4) (j4 : decide (0 ≤ z2) = b4) (j1 : (c == 1) = sb) (j2 : decide (z1 < 0) = sb) (w : World) (ft : FTab w) :
    Calls Tryd.prog 6 #[.int .u8 f, .agg #[.int .u64 bh, .int .u64 bl]] w fun e w' => e = .returned (.bool true) ∧ Below w.heap.size w w' := by
  go_enter Tryd.func6, Tryd.ntmps6
  go_wp2_with fail
  (with_reducible refine (h0.out _ (ft.later (bA (Below.refl _ _) _))).mono ?_); rintro e w1 ⟨rfl, hb⟩
  have hz := bC (bA (Below.refl _ _) _) hb
  have gX0 : w.heap.size ≤ w.heap.size := by omega
  have cX0_0 := cell_later hb (a := ⟨w.heap.size, 0, none⟩) (v := .int .u64 bh) (by go_simp)
  have cX0_1 := cell_later hb (a := ⟨w.heap.size, 1, none⟩) (v := .int .u64 bl) (by go_simp)
  have sX0 : w.heap.size < w1.heap.size := World.block_lt_of_cell? _ _ cX0_0
  have fX0_0 := frozen_later hb (a := ⟨w.heap.size, 0, none⟩) (v := .int .u64 bh) (by go_simp) (by go_simp)
  have fX0_1 := frozen_later hb (a := ⟨w.heap.size, 1, none⟩) (v := .int .u64 bl) (by go_simp) (by go_simp)
  have kk := hz
  clear hb hz
  go_wp2_with fail
  (with_reducible refine (h1.out _ (ft.later kk)).mono ?_); rintro e w2 ⟨rfl, hb⟩
  replace fX0_0 := frozen_later hb cX0_0 fX0_0; replace fX0_1 := frozen_later hb cX0_1 fX0_1
  replace cX0_0 := cell_later hb cX0_0; replace cX0_1 := cell_later hb cX0_1
  replace sX0 : w.heap.size < w2.heap.size := World.block_lt_of_cell? _ _ cX0_0
  replace kk := bC kk hb
  clear hb
  go_wp2_with fail
  (with_reducible refine (h2.out _ (ft.later (bC kk (bA (Below.refl _ _) _)))).mono ?_); rintro e w3 ⟨rfl, hb⟩
  have hz := bC (bA (Below.refl _ _) _) hb
  replace fX0_0 := frozen_later hz cX0_0 fX0_0; replace fX0_1 := frozen_later hz cX0_1 fX0_1
  replace cX0_0 := cell_later hz cX0_0; replace cX0_1 := cell_later hz cX0_1
  replace sX0 : w.heap.size < w3.heap.size := World.block_lt_of_cell? _ _ cX0_0
  replace kk := bC kk hz
  clear hb hz
  go_wp2_with fail
  (with_reducible refine (h3.out _ (ft.later ((((kk).setCell (p := ⟨w.heap.size, 0, none⟩) gX0 _)).setCell (p := ⟨w.heap.size, 1, none⟩) gX0 _))).mono ?_); rintro e w4 ⟨rfl, hb⟩
  replace kk := bC ((kk.setCell (p := ⟨w.heap.size, 0, none⟩) gX0 _).setCell (p := ⟨w.heap.size, 1, none⟩) gX0 _) hb
  have ncX0_0 := cell_later hb (a := ⟨w.heap.size, 0, none⟩) (v := .int .u64 eh) (by go_simp)
  have ncX0_1 := cell_later hb (a := ⟨w.heap.size, 1, none⟩) (v := .int .u64 el) (by go_simp)
  have nfX0_0 := frozen_later hb (a := ⟨w.heap.size, 0, none⟩) (v := .int .u64 eh) (by go_simp) (by go_simp)
  have nfX0_1 := frozen_later hb (a := ⟨w.heap.size, 1, none⟩) (v := .int .u64 el) (by go_simp) (by go_simp)
  clear cX0_0 cX0_1 sX0 fX0_0 fX0_1
  have cX0_0 := ncX0_0; clear ncX0_0
  have fX0_0 := nfX0_0; clear nfX0_0
  have cX0_1 := ncX0_1; clear ncX0_1
  have fX0_1 := nfX0_1; clear nfX0_1
  have sX0 : w.heap.size < w4.heap.size := World.block_lt_of_cell? _ _ cX0_0
  clear hb
  go_wp2_with fail
  (with_reducible refine (h4.out _ (ft.later (bC kk (bA (Below.refl _ _) _)))).mono ?_); rintro e w5 ⟨rfl, hb⟩
  have hz := bC (bA (Below.refl _ _) _) hb
  have nX0_X2 : w.heap.size < w4.heap.size := by omega
  replace fX0_0 := frozen_later hz cX0_0 fX0_0; replace fX0_1 := frozen_later hz cX0_1 fX0_1
  replace cX0_0 := cell_later hz cX0_0; replace cX0_1 := cell_later hz cX0_1
  replace sX0 : w.heap.size < w5.heap.size := World.block_lt_of_cell? _ _ cX0_0
  have cX2_0 := cell_later hb (a := ⟨w4.heap.size, 0, none⟩) (v := .int .u64 nh) (by go_simp)
  have cX2_1 := cell_later hb (a := ⟨w4.heap.size, 1, none⟩) (v := .int .u64 nl) (by go_simp)
  have sX2 : w4.heap.size < w5.heap.size := World.block_lt_of_cell? _ _ cX2_0
  replace kk := bC kk hz
  clear hb hz
  go_wp2_with fail
  (with_reducible refine (h5.out _ (ft.later kk)).mono ?_); rintro e w6 ⟨rfl, hb⟩
  replace fX0_0 := frozen_later hb cX0_0 fX0_0; replace fX0_1 := frozen_later hb cX0_1 fX0_1
  replace cX0_0 := cell_later hb cX0_0; replace cX0_1 := cell_later hb cX0_1
  replace sX0 : w.heap.size < w6.heap.size := World.block_lt_of_cell? _ _ cX0_0
  replace cX2_0 := cell_later hb cX2_0; replace cX2_1 := cell_later hb cX2_1
  replace sX2 : w4.heap.size < w6.heap.size := World.block_lt_of_cell? _ _ cX2_0
  replace kk := bC kk hb
  clear hb
  go_wp2_with fail
  (with_reducible refine (h6.out _).mono ?_); rintro e w7 ⟨rfl, hb⟩
  replace fX0_0 := frozen_later hb cX0_0 fX0_0; replace fX0_1 := frozen_later hb cX0_1 fX0_1
  replace cX0_0 := cell_later hb cX0_0; replace cX0_1 := cell_later hb cX0_1
  replace sX0 : w.heap.size < w7.heap.size := World.block_lt_of_cell? _ _ cX0_0
  replace cX2_0 := cell_later hb cX2_0; replace cX2_1 := cell_later hb cX2_1
  replace sX2 : w4.heap.size < w7.heap.size := World.block_lt_of_cell? _ _ cX2_0
  replace kk := bC kk hb
  clear hb
  go_wp2_with fail
  (with_reducible refine (h7.out _ (ft.later kk)).mono ?_); rintro e w8 ⟨rfl, hb⟩
  replace fX0_0 := frozen_later hb cX0_0 fX0_0; replace fX0_1 := frozen_later hb cX0_1 fX0_1
  replace cX0_0 := cell_later hb cX0_0; replace cX0_1 := cell_later hb cX0_1
  replace sX0 : w.heap.size < w8.heap.size := World.block_lt_of_cell? _ _ cX0_0
  replace cX2_0 := cell_later hb cX2_0; replace cX2_1 := cell_later hb cX2_1
  replace sX2 : w4.heap.size < w8.heap.size := World.block_lt_of_cell? _ _ cX2_0
  replace kk := bC kk hb
  clear hb
  go_wp2_with fail
  (with_reducible refine (h8.out _ (ft.later (bC kk (bA (Below.refl _ _) _)))).mono ?_); rintro e w9 ⟨rfl, hb⟩
  have hz := bC (bA (Below.refl _ _) _) hb
  have nX0_X3 : w.heap.size < w8.heap.size := by omega
  replace fX0_0 := frozen_later hz cX0_0 fX0_0; replace fX0_1 := frozen_later hz cX0_1 fX0_1
  replace cX0_0 := cell_later hz cX0_0; replace cX0_1 := cell_later hz cX0_1
  replace sX0 : w.heap.size < w9.heap.size := World.block_lt_of_cell? _ _ cX0_0
  replace cX2_0 := cell_later hz cX2_0; replace cX2_1 := cell_later hz cX2_1
  replace sX2 : w4.heap.size < w9.heap.size := World.block_lt_of_cell? _ _ cX2_0
  have cX3_0 := cell_later hb (a := ⟨w8.heap.size, 0, none⟩) (v := .int .u64 uh) (by go_simp)
  have cX3_1 := cell_later hb (a := ⟨w8.heap.size, 1, none⟩) (v := .int .u64 ul) (by go_simp)
  have sX3 : w8.heap.size < w9.heap.size := World.block_lt_of_cell? _ _ cX3_0
  replace kk := bC kk hz
  clear hb hz
  go_wp2_with fail
  (with_reducible refine (h9.out _ (ft.later kk)).mono ?_); rintro e w10 ⟨rfl, hb⟩
  replace fX0_0 := frozen_later hb cX0_0 fX0_0; replace fX0_1 := frozen_later hb cX0_1 fX0_1
  replace cX0_0 := cell_later hb cX0_0; replace cX0_1 := cell_later hb cX0_1
  replace sX0 : w.heap.size < w10.heap.size := World.block_lt_of_cell? _ _ cX0_0
  replace cX2_0 := cell_later hb cX2_0; replace cX2_1 := cell_later hb cX2_1
  replace sX2 : w4.heap.size < w10.heap.size := World.block_lt_of_cell? _ _ cX2_0
  replace cX3_0 := cell_later hb cX3_0; replace cX3_1 := cell_later hb cX3_1
  replace sX3 : w8.heap.size < w10.heap.size := World.block_lt_of_cell? _ _ cX3_0
  replace kk := bC kk hb
  clear hb
  go_wp2_with fail
  (with_reducible refine (h10.out _ (ft.later kk)).mono ?_); rintro e w11 ⟨rfl, hb⟩
  replace fX0_0 := frozen_later hb cX0_0 fX0_0; replace fX0_1 := frozen_later hb cX0_1 fX0_1
  replace cX0_0 := cell_later hb cX0_0; replace cX0_1 := cell_later hb cX0_1
  replace sX0 : w.heap.size < w11.heap.size := World.block_lt_of_cell? _ _ cX0_0
  replace cX2_0 := cell_later hb cX2_0; replace cX2_1 := cell_later hb cX2_1
  replace sX2 : w4.heap.size < w11.heap.size := World.block_lt_of_cell? _ _ cX2_0
  replace cX3_0 := cell_later hb cX3_0; replace cX3_1 := cell_later hb cX3_1
  replace sX3 : w8.heap.size < w11.heap.size := World.block_lt_of_cell? _ _ cX3_0
  replace kk := bC kk hb
  clear hb
  go_wp2_with fail
  (with_reducible refine (h11.out _).mono ?_); rintro e w12 ⟨rfl, hb⟩
  replace fX0_0 := frozen_later hb cX0_0 fX0_0; replace fX0_1 := frozen_later hb cX0_1 fX0_1
  replace cX0_0 := cell_later hb cX0_0; replace cX0_1 := cell_later hb cX0_1
  replace sX0 : w.heap.size < w12.heap.size := World.block_lt_of_cell? _ _ cX0_0
  replace cX2_0 := cell_later hb cX2_0; replace cX2_1 := cell_later hb cX2_1
  replace sX2 : w4.heap.size < w12.heap.size := World.block_lt_of_cell? _ _ cX2_0
  replace cX3_0 := cell_later hb cX3_0; replace cX3_1 := cell_later hb cX3_1
  replace sX3 : w8.heap.size < w12.heap.size := World.block_lt_of_cell? _ _ cX3_0
  replace kk := bC kk hb
  clear hb
  go_wp2_with fail
  (with_reducible refine (h12.out _).mono ?_); rintro e w13 ⟨rfl, hb⟩
  replace fX0_0 := frozen_later hb cX0_0 fX0_0; replace fX0_1 := frozen_later hb cX0_1 fX0_1
  replace cX0_0 := cell_later hb cX0_0; replace cX0_1 := cell_later hb cX0_1
  replace sX0 : w.heap.size < w13.heap.size := World.block_lt_of_cell? _ _ cX0_0
  clear cX2_0 cX2_1 sX2
  replace cX3_0 := cell_later hb cX3_0; replace cX3_1 := cell_later hb cX3_1
  replace sX3 : w8.heap.size < w13.heap.size := World.block_lt_of_cell? _ _ cX3_0
  replace kk := bC kk hb
  clear hb
  go_wp2_with fail
  (with_reducible refine (h13.out _).mono ?_); rintro e w14 ⟨rfl, hb⟩
  clear cX0_0 cX0_1 sX0
  clear cX3_0 cX3_1 sX3
  replace kk := bC kk hb
  clear hb
  go_wp2_with fail
  (with_reducible refine (h14.out _ (ft.later kk)).mono ?_); rintro e w15 ⟨rfl, hb⟩
  replace kk := bC kk hb
  clear hb
  go_wp2_with fail
  go_ret
  exact ⟨rfl, kk⟩

end Go.Proofs.YtdlmnnnnnjgkiaaDoor
