/-
  The walk of the statement QuotMods.
-/
import Derived.Test.YtlmgebanfjclcaaQuotW
set_option linter.unusedVariables false
set_option linter.unusedSimpArgs false
set_option maxRecDepth 100000
namespace Go.Proofs.Ytlmgebanfjclcaa
open Go.RowKit
attribute [local go_sem ↓] Go.wp_at_zero Go.wp_at_succ

set_option maxHeartbeats 4000000 in
set_option maxRecDepth 100000 in
theorem mods5_far (rh rl dh dl k5 : Int)
     (g1 : decide (700 < k5) = true) (g2 : decide (k5 ≤ 40000) = true) (w : World) :
    Calls Try.prog 4 #[.agg #[.int .u64 rh, .int .u64 rl], .int .i64 k5, .agg #[.int .u64 dh, .int .u64 dl]] w fun e w' => e = .returned (.bool true) ∧ Below w.heap.size w w' := by
  go_enter Try.func4, Try.ntmps4
  go_wp2_with fail
  go_ret
  exact ⟨rfl, bA (bA (Below.refl _ _) _) _⟩

set_option maxHeartbeats 4000000 in
set_option maxRecDepth 100000 in
theorem mods5_near (rh rl dh dl eh el k5 : Int) (o k : Bool)
    (h0 : Hid (∀ w, Calls Try.prog 14 #[.agg #[.int .u64 rh, .int .u64 rl], .int .i64 k5, .agg #[.int .u64 dh, .int .u64 dl]] w fun e w' => e = .returned (.tuple #[.agg #[.int .u64 eh, .int .u64 el], .bool o, .bool k]) ∧ Below w.heap.size w w'))
    (h1 : Hid (∀ w, Calls Try.prog 15 #[.agg #[.int .u64 rh, .int .u64 rl], .int .i64 k5, .agg #[.int .u64 dh, .int .u64 dl]] w fun e w' => e = .returned (.tuple #[.agg #[.int .u64 eh, .int .u64 el], .bool o, .bool k]) ∧ Below w.heap.size w w'))
    (h2 : Hid (∀ w, Calls Try.prog 13 #[] w fun e w' => e = .returned (.bool true) ∧ Below w.heap.size w w')) (g1 : decide (700 < k5) = false) (w : World) :
    Calls Try.prog 4 #[.agg #[.int .u64 rh, .int .u64 rl], .int .i64 k5, .agg #[.int .u64 dh, .int .u64 dl]] w fun e w' => e = .returned (.bool true) ∧ Below w.heap.size w w' := by
  go_enter Try.func4, Try.ntmps4
  go_wp2_with fail
  (with_reducible refine (h0.out _).mono ?_); rintro e w1 ⟨rfl, hb⟩
  have hz := bC (bA (bA (Below.refl _ _) _) _) hb
  have cX0_0 := cell_later hb (a := ⟨w.heap.size, 0, none⟩) (v := .int .u64 rh) (by go_simp)
  have cX0_1 := cell_later hb (a := ⟨w.heap.size, 1, none⟩) (v := .int .u64 rl) (by go_simp)
  have sX0 : w.heap.size < w1.heap.size := World.block_lt_of_cell? _ _ cX0_0
  have cX1_0 := cell_later hb (a := ⟨w.heap.size + 1, 0, none⟩) (v := .int .u64 dh) (by go_simp)
  have cX1_1 := cell_later hb (a := ⟨w.heap.size + 1, 1, none⟩) (v := .int .u64 dl) (by go_simp)
  have sX1 : w.heap.size + 1 < w1.heap.size := World.block_lt_of_cell? _ _ cX1_0
  have kk := hz
  clear hb hz
  go_wp2_with fail
  (with_reducible refine (h1.out _).mono ?_); rintro e w2 ⟨rfl, hb⟩
  have hz := bC (bA (Below.refl _ _) _) hb
  clear cX0_0 cX0_1 sX0
  clear cX1_0 cX1_1 sX1
  have cX2_0 := cell_later hb (a := ⟨w1.heap.size, 0, none⟩) (v := .int .u64 eh) (by go_simp)
  have cX2_1 := cell_later hb (a := ⟨w1.heap.size, 1, none⟩) (v := .int .u64 el) (by go_simp)
  have sX2 : w1.heap.size < w2.heap.size := World.block_lt_of_cell? _ _ cX2_0
  replace kk := bC kk hz
  clear hb hz
  go_wp2_with fail
  (with_reducible refine (h2.out _).mono ?_); rintro e w3 ⟨rfl, hb⟩
  have hz := bC (bA (Below.refl _ _) _) hb
  clear cX2_0 cX2_1 sX2
  replace kk := bC kk hz
  clear hb hz
  go_wp2_with fail
  go_ret
  exact ⟨rfl, kk⟩

set_option maxHeartbeats 4000000 in
set_option maxRecDepth 100000 in
theorem mods5_over (rh rl dh dl eh el k5 : Int) (o k : Bool)
    (h0 : Hid (∀ w, Calls Try.prog 14 #[.agg #[.int .u64 rh, .int .u64 rl], .int .i64 k5, .agg #[.int .u64 dh, .int .u64 dl]] w fun e w' => e = .returned (.tuple #[.agg #[.int .u64 eh, .int .u64 el], .bool o, .bool k]) ∧ Below w.heap.size w w'))
    (h1 : Hid (∀ w, Calls Try.prog 15 #[.agg #[.int .u64 rh, .int .u64 rl], .int .i64 k5, .agg #[.int .u64 dh, .int .u64 dl]] w fun e w' => e = .returned (.tuple #[.agg #[.int .u64 eh, .int .u64 el], .bool o, .bool k]) ∧ Below w.heap.size w w'))
    (h2 : Hid (∀ w, Calls Try.prog 13 #[] w fun e w' => e = .returned (.bool true) ∧ Below w.heap.size w w')) (g1 : decide (700 < k5) = true) (g2 : decide (k5 ≤ 40000) = false) (w : World) :
    Calls Try.prog 4 #[.agg #[.int .u64 rh, .int .u64 rl], .int .i64 k5, .agg #[.int .u64 dh, .int .u64 dl]] w fun e w' => e = .returned (.bool true) ∧ Below w.heap.size w w' := by
  go_enter Try.func4, Try.ntmps4
  go_wp2_with fail
  (with_reducible refine (h0.out _).mono ?_); rintro e w1 ⟨rfl, hb⟩
  have hz := bC (bA (bA (Below.refl _ _) _) _) hb
  have cX0_0 := cell_later hb (a := ⟨w.heap.size, 0, none⟩) (v := .int .u64 rh) (by go_simp)
  have cX0_1 := cell_later hb (a := ⟨w.heap.size, 1, none⟩) (v := .int .u64 rl) (by go_simp)
  have sX0 : w.heap.size < w1.heap.size := World.block_lt_of_cell? _ _ cX0_0
  have cX1_0 := cell_later hb (a := ⟨w.heap.size + 1, 0, none⟩) (v := .int .u64 dh) (by go_simp)
  have cX1_1 := cell_later hb (a := ⟨w.heap.size + 1, 1, none⟩) (v := .int .u64 dl) (by go_simp)
  have sX1 : w.heap.size + 1 < w1.heap.size := World.block_lt_of_cell? _ _ cX1_0
  have kk := hz
  clear hb hz
  go_wp2_with fail
  (with_reducible refine (h1.out _).mono ?_); rintro e w2 ⟨rfl, hb⟩
  have hz := bC (bA (Below.refl _ _) _) hb
  clear cX0_0 cX0_1 sX0
  clear cX1_0 cX1_1 sX1
  have cX2_0 := cell_later hb (a := ⟨w1.heap.size, 0, none⟩) (v := .int .u64 eh) (by go_simp)
  have cX2_1 := cell_later hb (a := ⟨w1.heap.size, 1, none⟩) (v := .int .u64 el) (by go_simp)
  have sX2 : w1.heap.size < w2.heap.size := World.block_lt_of_cell? _ _ cX2_0
  replace kk := bC kk hz
  clear hb hz
  go_wp2_with fail
  (with_reducible refine (h2.out _).mono ?_); rintro e w3 ⟨rfl, hb⟩
  have hz := bC (bA (Below.refl _ _) _) hb
  clear cX2_0 cX2_1 sX2
  replace kk := bC kk hz
  clear hb hz
  go_wp2_with fail
  go_ret
  exact ⟨rfl, kk⟩

end Go.Proofs.Ytlmgebanfjclcaa
