/-
  The contract of the helper counts of stage 4's statements: it returns true.
-/
import Derived.Test.YtkhcbioohoeegaaDoorCountP
set_option linter.unusedVariables false
set_option linter.unusedSimpArgs false
set_option maxRecDepth 100000
namespace Go.Proofs.YtkhcbioohoeegaaDoor
open Go.RowKit
attribute [local go_sem ↓] Go.wp_at_zero Go.wp_at_succ

theorem c4_r1 (C : CountOK) (w : World) : Calls Tryd.prog 11 #[.agg #[.int .u64 0, .int .u64 1]] w fun e w' => e = .returned (.tuple #[.agg #[.int .u64 9223372036854775808, .int .u64 0], .int .i64 127]) ∧ Below w.heap.size w w' := by
  have h := C.raise 1 w
  rw [show hiOf (1 % full * 2 ^ upN 128 (1 % full)) = 9223372036854775808 from by decide +kernel, show loOf (1 % full * 2 ^ upN 128 (1 % full)) = 0 from by decide +kernel, show hiOf 1 = 0 from by decide +kernel, show loOf 1 = 1 from by decide +kernel, show ((upN 128 (1 % full) : Nat) : Int) = 127 from by decide +kernel] at h
  exact h
theorem c4_w3 (C : CountOK) (w : World) : Calls Tryd.prog 18 #[.agg #[.int .u64 3, .int .u64 0, .int .u64 0, .int .u64 0]] w fun e w' => e = .returned (.tuple #[.agg #[.int .u64 0, .int .u64 0, .int .u64 0, .int .u64 13835058055282163712], .int .i64 254]) ∧ Below w.heap.size w w' := by
  have h := C.wraise 3 w
  rw [show wd0 (3 % wfull * 2 ^ upN 256 (3 % wfull)) = 0 from by decide +kernel, show wd1 (3 % wfull * 2 ^ upN 256 (3 % wfull)) = 0 from by decide +kernel, show wd2 (3 % wfull * 2 ^ upN 256 (3 % wfull)) = 0 from by decide +kernel, show wd3 (3 % wfull * 2 ^ upN 256 (3 % wfull)) = 13835058055282163712 from by decide +kernel, show wd0 3 = 3 from by decide +kernel, show wd1 3 = 0 from by decide +kernel, show wd2 3 = 0 from by decide +kernel, show wd3 3 = 0 from by decide +kernel, show ((upN 256 (3 % wfull) : Nat) : Int) = 254 from by decide +kernel] at h
  exact h
theorem c4_255 (C : CountOK) (w : World) : Calls Tryd.prog 13 #[.agg #[.int .u64 0, .int .u64 255]] w fun e w' => e = .returned (.int .i64 8) ∧ Below w.heap.size w w' := by
  have h := C.len 255 w
  rw [show hiOf 255 = 0 from by decide +kernel, show loOf 255 = 255 from by decide +kernel, show ((blen (255 % full) : Nat) : Int) = 8 from by decide +kernel] at h
  exact h
theorem c4_top (C : CountOK) (w : World) : Calls Tryd.prog 19 #[.agg #[.int .u64 0, .int .u64 0, .int .u64 0, .int .u64 9223372036854775808]] w fun e w' => e = .returned (.int .i64 256) ∧ Below w.heap.size w w' := by
  have h := C.wlen 57896044618658097711785492504343953926634992332820282019728792003956564819968 w
  rw [show wd0 57896044618658097711785492504343953926634992332820282019728792003956564819968 = 0 from by decide +kernel, show wd1 57896044618658097711785492504343953926634992332820282019728792003956564819968 = 0 from by decide +kernel, show wd2 57896044618658097711785492504343953926634992332820282019728792003956564819968 = 0 from by decide +kernel, show wd3 57896044618658097711785492504343953926634992332820282019728792003956564819968 = 9223372036854775808 from by decide +kernel, show ((blen (57896044618658097711785492504343953926634992332820282019728792003956564819968 % wfull) : Nat) : Int) = 256 from by decide +kernel] at h
  exact h
theorem c4_12 (C : CountOK) (w : World) (tb : Tab w) : Calls Tryd.prog 20 #[.agg #[.int .u64 12, .int .u64 0, .int .u64 0, .int .u64 0]] w fun e w' => e = .returned (.int .i64 2) ∧ Below w.heap.size w w' := by
  have h := C.tail 12 w tb
  rw [show wd0 12 = 12 from by decide +kernel, show wd1 12 = 0 from by decide +kernel, show wd2 12 = 0 from by decide +kernel, show wd3 12 = 0 from by decide +kernel, show ((tailN (12 % wfull) : Nat) : Int) = 2 from by decide +kernel] at h
  exact h
set_option maxHeartbeats 4000000 in
set_option maxRecDepth 100000 in
theorem counts4_any (C : CountOK) (w : World) (tb : Tab w) :
    Calls Tryd.prog 16 #[] w fun e w' => e = .returned (.bool true) ∧ Below w.heap.size w w' := by
  have E1 := eqw4 0 0 0 13835058055282163712
  go_enter Tryd.func16, Tryd.ntmps16
  go_wp2_with fail
  (with_reducible refine (c4_r1 C _).mono ?_); rintro e w1 ⟨rfl, hb⟩
  have kk := hb
  clear hb
  go_wp2_with fail
  (with_reducible refine (c4_w3 C _).mono ?_); rintro e w2 ⟨rfl, hb⟩
  have hz := bC (bA (Below.refl _ _) _) hb
  have cX0_0 := cell_later hb (a := ⟨w1.heap.size, 0, none⟩) (v := .int .u64 9223372036854775808) (by go_simp)
  have cX0_1 := cell_later hb (a := ⟨w1.heap.size, 1, none⟩) (v := .int .u64 0) (by go_simp)
  have sX0 : w1.heap.size < w2.heap.size := World.block_lt_of_cell? _ _ cX0_0
  replace kk := bC kk hz
  clear hb hz
  go_wp2_with fail
  (with_reducible refine (c4_255 C _).mono ?_); rintro e w3 ⟨rfl, hb⟩
  have hz := bC (bA (Below.refl _ _) _) hb
  replace cX0_0 := cell_later hz cX0_0; replace cX0_1 := cell_later hz cX0_1
  replace sX0 : w1.heap.size < w3.heap.size := World.block_lt_of_cell? _ _ cX0_0
  have cX1_0 := cell_later hb (a := ⟨w2.heap.size, 0, none⟩) (v := .int .u64 0) (by go_simp)
  have cX1_1 := cell_later hb (a := ⟨w2.heap.size, 1, none⟩) (v := .int .u64 0) (by go_simp)
  have cX1_2 := cell_later hb (a := ⟨w2.heap.size, 2, none⟩) (v := .int .u64 0) (by go_simp)
  have cX1_3 := cell_later hb (a := ⟨w2.heap.size, 3, none⟩) (v := .int .u64 13835058055282163712) (by go_simp)
  have sX1 : w2.heap.size < w3.heap.size := World.block_lt_of_cell? _ _ cX1_0
  replace kk := bC kk hz
  clear hb hz
  go_wp2_with fail
  (with_reducible refine (c4_top C _).mono ?_); rintro e w4 ⟨rfl, hb⟩
  replace cX0_0 := cell_later hb cX0_0; replace cX0_1 := cell_later hb cX0_1
  replace sX0 : w1.heap.size < w4.heap.size := World.block_lt_of_cell? _ _ cX0_0
  replace cX1_0 := cell_later hb cX1_0; replace cX1_1 := cell_later hb cX1_1; replace cX1_2 := cell_later hb cX1_2; replace cX1_3 := cell_later hb cX1_3
  replace sX1 : w2.heap.size < w4.heap.size := World.block_lt_of_cell? _ _ cX1_0
  replace kk := bC kk hb
  clear hb
  go_wp2_with fail
  (with_reducible refine (c4_12 C _ (tb.later kk)).mono ?_); rintro e w5 ⟨rfl, hb⟩
  clear cX0_0 cX0_1 sX0
  clear cX1_0 cX1_1 cX1_2 cX1_3 sX1
  replace kk := bC kk hb
  clear hb
  go_wp2_with fail
  go_ret
  exact ⟨rfl, kk⟩

end Go.Proofs.YtkhcbioohoeegaaDoor
