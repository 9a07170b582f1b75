/-
  The walk of the example that every statement of stage 15 asks.
-/
import Derived.Test.YtmlobelcoggncaaRound15M
import Derived.Test.YtmlobelcoggncaaGaA
set_option linter.unusedVariables false
set_option linter.unusedSimpArgs false
set_option maxRecDepth 100000
namespace Go.Proofs.Ytmlobelcoggncaa
open Go.RowKit
attribute [local go_sem ↓] Go.wp_at_zero Go.wp_at_succ

set_option maxHeartbeats 4000000 in
set_option maxRecDepth 100000 in
theorem full15 
     (w : World) :
    Calls Try.prog 25 #[] w fun e w' => e = .returned (.agg #[.int .u64 18446744073709551615, .int .u64 18446744073709551615, .int .u64 18446744073709551615, .int .u64 18446744073709551615]) ∧ Below w.heap.size w w' := by
  go_enter Try.func25, Try.ntmps25
  go_wp2_with fail
  refine bodyPost_ret (v := .agg #[.int .u64 18446744073709551615, .int .u64 18446744073709551615, .int .u64 18446744073709551615, .int .u64 18446744073709551615]) (by simp [results, Try.results25, go_sem]) rfl ⟨rfl, (bA (Below.refl _ _) _)⟩

set_option maxHeartbeats 4000000 in
set_option maxRecDepth 100000 in
theorem goes15_core 
    (h0 : Hid (∀ w, Calls Try.prog 25 #[] w fun e w' => e = .returned (.agg #[.int .u64 18446744073709551615, .int .u64 18446744073709551615, .int .u64 18446744073709551615, .int .u64 18446744073709551615]) ∧ Below w.heap.size w w'))
    (h1 : Hid (∀ w, Calls Try.prog 9 #[.agg #[.int .u64 18446744073709551615, .int .u64 18446744073709551615, .int .u64 18446744073709551615, .int .u64 18446744073709551615], .int .i64 8, .int .u8 4, .bool false] w fun e w' => e = .returned (.tuple #[.agg #[.int .u64 0, .int .u64 255], .bool true]) ∧ Below w.heap.size w w'))
    (h3 : Hid (∀ w, Calls Try.prog 9 #[.agg #[.int .u64 18446744073709551615, .int .u64 18446744073709551615, .int .u64 18446744073709551615, .int .u64 18446744073709551615], .int .i64 8, .int .u8 0, .bool false] w fun e w' => e = .returned (.tuple #[.agg #[.int .u64 0, .int .u64 256], .bool true]) ∧ Below w.heap.size w w'))
    (h4 : Hid (∀ w, Calls Try.prog 9 #[.agg #[.int .u64 0, .int .u64 0, .int .u64 0, .int .u64 9223372036854775808], .int .i64 1, .int .u8 2, .bool false] w fun e w' => e = .returned (.tuple #[.agg #[.int .u64 0, .int .u64 1], .bool false]) ∧ Below w.heap.size w w'))
    (h5 : Hid (∀ w, Calls Try.prog 10 #[.agg #[.int .u64 0, .int .u64 0, .int .u64 0, .int .u64 4611686018427387904], .int .i64 1] w fun e w' => e = .returned (.int .u8 2) ∧ Below w.heap.size w w')) (w : World) :
    Calls Try.prog 11 #[] w fun e w' => e = .returned (.bool true) ∧ Below w.heap.size w w' := by
  go_enter Try.func11, Try.ntmps11
  go_wp2_with fail
  (with_reducible refine (h0.out _).mono ?_); rintro e w1 ⟨rfl, hb⟩
  have kk := hb
  clear hb
  go_wp2_with fail
  (with_reducible refine (h1.out _).mono ?_); rintro e w2 ⟨rfl, hb⟩
  replace kk := bC kk hb
  clear hb
  go_wp2_with fail
  (with_reducible refine (h0.out _).mono ?_); rintro e w3 ⟨rfl, hb⟩
  have hz := bC (bA (Below.refl _ _) _) hb
  have cX0_0 := cell_later hb (a := ⟨w2.heap.size, 0, none⟩) (v := .int .u64 0) (by go_simp)
  have cX0_1 := cell_later hb (a := ⟨w2.heap.size, 1, none⟩) (v := .int .u64 255) (by go_simp)
  have sX0 : w2.heap.size < w3.heap.size := World.block_lt_of_cell? _ _ cX0_0
  replace kk := bC kk hz
  clear hb hz
  go_wp2_with fail
  (with_reducible refine (h3.out _).mono ?_); rintro e w4 ⟨rfl, hb⟩
  replace cX0_0 := cell_later hb cX0_0; replace cX0_1 := cell_later hb cX0_1
  replace sX0 : w2.heap.size < w4.heap.size := World.block_lt_of_cell? _ _ cX0_0
  replace kk := bC kk hb
  clear hb
  go_wp2_with fail
  (with_reducible refine (h4.out _).mono ?_); rintro e w5 ⟨rfl, hb⟩
  have hz := bC (bA (Below.refl _ _) _) hb
  replace cX0_0 := cell_later hz cX0_0; replace cX0_1 := cell_later hz cX0_1
  replace sX0 : w2.heap.size < w5.heap.size := World.block_lt_of_cell? _ _ cX0_0
  have cX1_0 := cell_later hb (a := ⟨w4.heap.size, 0, none⟩) (v := .int .u64 0) (by go_simp)
  have cX1_1 := cell_later hb (a := ⟨w4.heap.size, 1, none⟩) (v := .int .u64 256) (by go_simp)
  have sX1 : w4.heap.size < w5.heap.size := World.block_lt_of_cell? _ _ cX1_0
  replace kk := bC kk hz
  clear hb hz
  go_wp2_with fail
  (with_reducible refine (h5.out _).mono ?_); rintro e w6 ⟨rfl, hb⟩
  have hz := bC (bA (Below.refl _ _) _) hb
  clear cX0_0 cX0_1 sX0
  clear cX1_0 cX1_1 sX1
  replace kk := bC kk hz
  clear hb hz
  go_wp2_with fail
  go_ret
  exact ⟨rfl, kk⟩

end Go.Proofs.Ytmlobelcoggncaa
