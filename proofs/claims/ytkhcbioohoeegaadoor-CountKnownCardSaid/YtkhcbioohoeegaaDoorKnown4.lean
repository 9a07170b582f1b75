/-
  The walk of the statement CountKnown.
-/
import Derived.Test.YtkhcbioohoeegaaDoorCountP
set_option linter.unusedVariables false
set_option linter.unusedSimpArgs false
set_option maxRecDepth 100000
namespace Go.Proofs.YtkhcbioohoeegaaDoor
open Go.RowKit
attribute [local go_sem ↓] Go.wp_at_zero Go.wp_at_succ

theorem k4_0 (C : CountOK) (w : World) : Calls Tryd.prog 11 #[.agg #[.int .u64 0, .int .u64 0]] w fun e w' => e = .returned (.tuple #[.agg #[.int .u64 0, .int .u64 0], .int .i64 0]) ∧ Below w.heap.size w w' := by
  have h := C.raise 0 w
  rw [show hiOf (0 % full * 2 ^ upN 128 (0 % full)) = 0 from by decide +kernel, show loOf (0 % full * 2 ^ upN 128 (0 % full)) = 0 from by decide +kernel, show hiOf 0 = 0 from by decide +kernel, show loOf 0 = 0 from by decide +kernel, show ((upN 128 (0 % full) : Nat) : Int) = 0 from by decide +kernel] at h
  exact h
theorem k4_1 (C : CountOK) (w : World) : Calls Tryd.prog 18 #[.agg #[.int .u64 0, .int .u64 0, .int .u64 0, .int .u64 0]] w fun e w' => e = .returned (.tuple #[.agg #[.int .u64 0, .int .u64 0, .int .u64 0, .int .u64 0], .int .i64 0]) ∧ Below w.heap.size w w' := by
  have h := C.wraise 0 w
  rw [show wd0 (0 % wfull * 2 ^ upN 256 (0 % wfull)) = 0 from by decide +kernel, show wd1 (0 % wfull * 2 ^ upN 256 (0 % wfull)) = 0 from by decide +kernel, show wd2 (0 % wfull * 2 ^ upN 256 (0 % wfull)) = 0 from by decide +kernel, show wd3 (0 % wfull * 2 ^ upN 256 (0 % wfull)) = 0 from by decide +kernel, show wd0 0 = 0 from by decide +kernel, show wd1 0 = 0 from by decide +kernel, show wd2 0 = 0 from by decide +kernel, show wd3 0 = 0 from by decide +kernel, show ((upN 256 (0 % wfull) : Nat) : Int) = 0 from by decide +kernel] at h
  exact h
theorem k4_2 (C : CountOK) (w : World) : Calls Tryd.prog 11 #[.agg #[.int .u64 9223372036854775808, .int .u64 5]] w fun e w' => e = .returned (.tuple #[.agg #[.int .u64 9223372036854775808, .int .u64 5], .int .i64 0]) ∧ Below w.heap.size w w' := by
  have h := C.raise 170141183460469231731687303715884105733 w
  rw [show hiOf (170141183460469231731687303715884105733 % full * 2 ^ upN 128 (170141183460469231731687303715884105733 % full)) = 9223372036854775808 from by decide +kernel, show loOf (170141183460469231731687303715884105733 % full * 2 ^ upN 128 (170141183460469231731687303715884105733 % full)) = 5 from by decide +kernel, show hiOf 170141183460469231731687303715884105733 = 9223372036854775808 from by decide +kernel, show loOf 170141183460469231731687303715884105733 = 5 from by decide +kernel, show ((upN 128 (170141183460469231731687303715884105733 % full) : Nat) : Int) = 0 from by decide +kernel] at h
  exact h
theorem k4_3 (C : CountOK) (w : World) : Calls Tryd.prog 13 #[.agg #[.int .u64 0, .int .u64 0]] w fun e w' => e = .returned (.int .i64 0) ∧ Below w.heap.size w w' := by
  have h := C.len 0 w
  rw [show hiOf 0 = 0 from by decide +kernel, show loOf 0 = 0 from by decide +kernel, show ((blen (0 % full) : Nat) : Int) = 0 from by decide +kernel] at h
  exact h
theorem k4_4 (C : CountOK) (w : World) : Calls Tryd.prog 13 #[.agg #[.int .u64 0, .int .u64 1]] w fun e w' => e = .returned (.int .i64 1) ∧ Below w.heap.size w w' := by
  have h := C.len 1 w
  rw [show hiOf 1 = 0 from by decide +kernel, show loOf 1 = 1 from by decide +kernel, show ((blen (1 % full) : Nat) : Int) = 1 from by decide +kernel] at h
  exact h
theorem k4_5 (C : CountOK) (w : World) : Calls Tryd.prog 13 #[.agg #[.int .u64 1, .int .u64 0]] w fun e w' => e = .returned (.int .i64 65) ∧ Below w.heap.size w w' := by
  have h := C.len 18446744073709551616 w
  rw [show hiOf 18446744073709551616 = 1 from by decide +kernel, show loOf 18446744073709551616 = 0 from by decide +kernel, show ((blen (18446744073709551616 % full) : Nat) : Int) = 65 from by decide +kernel] at h
  exact h
theorem k4_6 (C : CountOK) (w : World) (tb : Tab w) : Calls Tryd.prog 20 #[.agg #[.int .u64 0, .int .u64 0, .int .u64 0, .int .u64 0]] w fun e w' => e = .returned (.int .i64 256) ∧ Below w.heap.size w w' := by
  have h := C.tail 0 w tb
  rw [show wd0 0 = 0 from by decide +kernel, show wd1 0 = 0 from by decide +kernel, show wd2 0 = 0 from by decide +kernel, show wd3 0 = 0 from by decide +kernel, show ((tailN (0 % wfull) : Nat) : Int) = 256 from by decide +kernel] at h
  exact h
theorem k4_7 (C : CountOK) (w : World) (tb : Tab w) : Calls Tryd.prog 20 #[.agg #[.int .u64 0, .int .u64 2, .int .u64 0, .int .u64 0]] w fun e w' => e = .returned (.int .i64 65) ∧ Below w.heap.size w w' := by
  have h := C.tail 36893488147419103232 w tb
  rw [show wd0 36893488147419103232 = 0 from by decide +kernel, show wd1 36893488147419103232 = 2 from by decide +kernel, show wd2 36893488147419103232 = 0 from by decide +kernel, show wd3 36893488147419103232 = 0 from by decide +kernel, show ((tailN (36893488147419103232 % wfull) : Nat) : Int) = 65 from by decide +kernel] at h
  exact h
theorem k4_8 (C : CountOK) (w : World) : Calls Tryd.prog 19 #[.agg #[.int .u64 0, .int .u64 0, .int .u64 7, .int .u64 0]] w fun e w' => e = .returned (.int .i64 131) ∧ Below w.heap.size w w' := by
  have h := C.wlen 2381976568446569244243622252022377480192 w
  rw [show wd0 2381976568446569244243622252022377480192 = 0 from by decide +kernel, show wd1 2381976568446569244243622252022377480192 = 0 from by decide +kernel, show wd2 2381976568446569244243622252022377480192 = 7 from by decide +kernel, show wd3 2381976568446569244243622252022377480192 = 0 from by decide +kernel, show ((blen (2381976568446569244243622252022377480192 % wfull) : Nat) : Int) = 131 from by decide +kernel] at h
  exact h
set_option maxHeartbeats 4000000 in
set_option maxRecDepth 100000 in
theorem known4_walk 
     (C : Hid CountOK) (HC : Hid (∀ w, Tab w → Calls Tryd.prog 16 #[] w fun e w' => e = .returned (.bool true) ∧ Below w.heap.size w w')) (w : World) (tb : Tab w) :
    Calls Tryd.prog 9 #[] w fun e w' => e = .returned (.bool true) ∧ Below w.heap.size w w' := by
  have E1 := eqw4 0 0 0 0
  go_enter Tryd.func9, Tryd.ntmps9
  go_wp2_with fail
  (with_reducible refine (k4_0 C.out _).mono ?_); rintro e w1 ⟨rfl, hb⟩
  have kk := hb
  clear hb
  go_wp2_with fail
  (with_reducible refine (k4_1 C.out _).mono ?_); rintro e w2 ⟨rfl, hb⟩
  have hz := bC (bA (Below.refl _ _) _) hb
  have cX0_0 := cell_later hb (a := ⟨w1.heap.size, 0, none⟩) (v := .int .u64 0) (by go_simp)
  have cX0_1 := cell_later hb (a := ⟨w1.heap.size, 1, none⟩) (v := .int .u64 0) (by go_simp)
  have sX0 : w1.heap.size < w2.heap.size := World.block_lt_of_cell? _ _ cX0_0
  replace kk := bC kk hz
  clear hb hz
  go_wp2_with fail
  (with_reducible refine (k4_2 C.out _).mono ?_); rintro e w3 ⟨rfl, hb⟩
  have hz := bC (bA (Below.refl _ _) _) hb
  replace cX0_0 := cell_later hz cX0_0; replace cX0_1 := cell_later hz cX0_1
  replace sX0 : w1.heap.size < w3.heap.size := World.block_lt_of_cell? _ _ cX0_0
  have cX1_0 := cell_later hb (a := ⟨w2.heap.size, 0, none⟩) (v := .int .u64 0) (by go_simp)
  have cX1_1 := cell_later hb (a := ⟨w2.heap.size, 1, none⟩) (v := .int .u64 0) (by go_simp)
  have cX1_2 := cell_later hb (a := ⟨w2.heap.size, 2, none⟩) (v := .int .u64 0) (by go_simp)
  have cX1_3 := cell_later hb (a := ⟨w2.heap.size, 3, none⟩) (v := .int .u64 0) (by go_simp)
  have sX1 : w2.heap.size < w3.heap.size := World.block_lt_of_cell? _ _ cX1_0
  replace kk := bC kk hz
  clear hb hz
  go_wp2_with fail
  (with_reducible refine (k4_3 C.out _).mono ?_); rintro e w4 ⟨rfl, hb⟩
  have hz := bC (bA (Below.refl _ _) _) hb
  replace cX0_0 := cell_later hz cX0_0; replace cX0_1 := cell_later hz cX0_1
  replace sX0 : w1.heap.size < w4.heap.size := World.block_lt_of_cell? _ _ cX0_0
  replace cX1_0 := cell_later hz cX1_0; replace cX1_1 := cell_later hz cX1_1; replace cX1_2 := cell_later hz cX1_2; replace cX1_3 := cell_later hz cX1_3
  replace sX1 : w2.heap.size < w4.heap.size := World.block_lt_of_cell? _ _ cX1_0
  have cX2_0 := cell_later hb (a := ⟨w3.heap.size, 0, none⟩) (v := .int .u64 9223372036854775808) (by go_simp)
  have cX2_1 := cell_later hb (a := ⟨w3.heap.size, 1, none⟩) (v := .int .u64 5) (by go_simp)
  have sX2 : w3.heap.size < w4.heap.size := World.block_lt_of_cell? _ _ cX2_0
  replace kk := bC kk hz
  clear hb hz
  go_wp2_with fail
  (with_reducible refine (k4_4 C.out _).mono ?_); rintro e w5 ⟨rfl, hb⟩
  replace cX0_0 := cell_later hb cX0_0; replace cX0_1 := cell_later hb cX0_1
  replace sX0 : w1.heap.size < w5.heap.size := World.block_lt_of_cell? _ _ cX0_0
  replace cX1_0 := cell_later hb cX1_0; replace cX1_1 := cell_later hb cX1_1; replace cX1_2 := cell_later hb cX1_2; replace cX1_3 := cell_later hb cX1_3
  replace sX1 : w2.heap.size < w5.heap.size := World.block_lt_of_cell? _ _ cX1_0
  replace cX2_0 := cell_later hb cX2_0; replace cX2_1 := cell_later hb cX2_1
  replace sX2 : w3.heap.size < w5.heap.size := World.block_lt_of_cell? _ _ cX2_0
  replace kk := bC kk hb
  clear hb
  go_wp2_with fail
  (with_reducible refine (k4_5 C.out _).mono ?_); rintro e w6 ⟨rfl, hb⟩
  replace cX0_0 := cell_later hb cX0_0; replace cX0_1 := cell_later hb cX0_1
  replace sX0 : w1.heap.size < w6.heap.size := World.block_lt_of_cell? _ _ cX0_0
  replace cX1_0 := cell_later hb cX1_0; replace cX1_1 := cell_later hb cX1_1; replace cX1_2 := cell_later hb cX1_2; replace cX1_3 := cell_later hb cX1_3
  replace sX1 : w2.heap.size < w6.heap.size := World.block_lt_of_cell? _ _ cX1_0
  replace cX2_0 := cell_later hb cX2_0; replace cX2_1 := cell_later hb cX2_1
  replace sX2 : w3.heap.size < w6.heap.size := World.block_lt_of_cell? _ _ cX2_0
  replace kk := bC kk hb
  clear hb
  go_wp2_with fail
  (with_reducible refine (k4_6 C.out _ (tb.later kk)).mono ?_); rintro e w7 ⟨rfl, hb⟩
  clear cX0_0 cX0_1 sX0
  clear cX1_0 cX1_1 cX1_2 cX1_3 sX1
  clear cX2_0 cX2_1 sX2
  replace kk := bC kk hb
  clear hb
  go_wp2_with fail
  (with_reducible refine (k4_7 C.out _ (tb.later kk)).mono ?_); rintro e w8 ⟨rfl, hb⟩
  replace kk := bC kk hb
  clear hb
  go_wp2_with fail
  (with_reducible refine (k4_8 C.out _).mono ?_); rintro e w9 ⟨rfl, hb⟩
  replace kk := bC kk hb
  clear hb
  go_wp2_with fail
  (with_reducible refine (HC.out _ (tb.later kk)).mono ?_); rintro e w10 ⟨rfl, hb⟩
  replace kk := bC kk hb
  clear hb
  go_wp2_with fail
  go_ret
  exact ⟨rfl, kk⟩

end Go.Proofs.YtkhcbioohoeegaaDoor
