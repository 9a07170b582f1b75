/-
  The walk of the statement RootKnown.
-/
import Derived.Test.YtbibinmjipcdjaaRootP
set_option linter.unusedVariables false
set_option linter.unusedSimpArgs false
set_option maxRecDepth 100000
namespace Go.Proofs.Ytbibinmjipcdjaa
open Go.RowKit
attribute [local go_sem ↓] Go.wp_at_zero Go.wp_at_succ

theorem k6_0 (C : RootOK) (w : World) : Calls Try.prog 9 #[.agg #[.int .u64 0, .int .u64 0, .int .u64 0, .int .u64 0]] w fun e w' => e = .returned (.tuple #[.agg #[.int .u64 0, .int .u64 0], .bool true]) ∧ Below w.heap.size w w' := by
  have h := C.root 0 w
  rw [show hiOf (rootN (0 % wfull)) = 0 from by decide +kernel, show loOf (rootN (0 % wfull)) = 0 from by decide +kernel, show exactN (0 % wfull) = true from by decide +kernel, show wd0 0 = 0 from by decide +kernel, show wd1 0 = 0 from by decide +kernel, show wd2 0 = 0 from by decide +kernel, show wd3 0 = 0 from by decide +kernel] at h
  exact h
theorem k6_1 (C : RootOK) (w : World) : Calls Try.prog 9 #[.agg #[.int .u64 1, .int .u64 0, .int .u64 0, .int .u64 0]] w fun e w' => e = .returned (.tuple #[.agg #[.int .u64 0, .int .u64 1], .bool true]) ∧ Below w.heap.size w w' := by
  have h := C.root 1 w
  rw [show hiOf (rootN (1 % wfull)) = 0 from by decide +kernel, show loOf (rootN (1 % wfull)) = 1 from by decide +kernel, show exactN (1 % wfull) = true from by decide +kernel, show wd0 1 = 1 from by decide +kernel, show wd1 1 = 0 from by decide +kernel, show wd2 1 = 0 from by decide +kernel, show wd3 1 = 0 from by decide +kernel] at h
  exact h
theorem k6_2 (C : RootOK) (w : World) : Calls Try.prog 9 #[.agg #[.int .u64 18446744073709551615, .int .u64 18446744073709551615, .int .u64 18446744073709551615, .int .u64 18446744073709551615]] w fun e w' => e = .returned (.tuple #[.agg #[.int .u64 18446744073709551615, .int .u64 18446744073709551615], .bool false]) ∧ Below w.heap.size w w' := by
  have h := C.root 115792089237316195423570985008687907853269984665640564039457584007913129639935 w
  rw [show hiOf (rootN (115792089237316195423570985008687907853269984665640564039457584007913129639935 % wfull)) = 18446744073709551615 from by decide +kernel, show loOf (rootN (115792089237316195423570985008687907853269984665640564039457584007913129639935 % wfull)) = 18446744073709551615 from by decide +kernel, show exactN (115792089237316195423570985008687907853269984665640564039457584007913129639935 % wfull) = false from by decide +kernel, show wd0 115792089237316195423570985008687907853269984665640564039457584007913129639935 = 18446744073709551615 from by decide +kernel, show wd1 115792089237316195423570985008687907853269984665640564039457584007913129639935 = 18446744073709551615 from by decide +kernel, show wd2 115792089237316195423570985008687907853269984665640564039457584007913129639935 = 18446744073709551615 from by decide +kernel, show wd3 115792089237316195423570985008687907853269984665640564039457584007913129639935 = 18446744073709551615 from by decide +kernel] at h
  exact h
theorem k6_3 (C : RootOK) (w : World) : Calls Try.prog 9 #[.agg #[.int .u64 0, .int .u64 0, .int .u64 0, .int .u64 4611686018427387904]] w fun e w' => e = .returned (.tuple #[.agg #[.int .u64 9223372036854775808, .int .u64 0], .bool true]) ∧ Below w.heap.size w w' := by
  have h := C.root 28948022309329048855892746252171976963317496166410141009864396001978282409984 w
  rw [show hiOf (rootN (28948022309329048855892746252171976963317496166410141009864396001978282409984 % wfull)) = 9223372036854775808 from by decide +kernel, show loOf (rootN (28948022309329048855892746252171976963317496166410141009864396001978282409984 % wfull)) = 0 from by decide +kernel, show exactN (28948022309329048855892746252171976963317496166410141009864396001978282409984 % wfull) = true from by decide +kernel, show wd0 28948022309329048855892746252171976963317496166410141009864396001978282409984 = 0 from by decide +kernel, show wd1 28948022309329048855892746252171976963317496166410141009864396001978282409984 = 0 from by decide +kernel, show wd2 28948022309329048855892746252171976963317496166410141009864396001978282409984 = 0 from by decide +kernel, show wd3 28948022309329048855892746252171976963317496166410141009864396001978282409984 = 4611686018427387904 from by decide +kernel] at h
  exact h
theorem k6_4 (C : RootOK) (w : World) : Calls Try.prog 9 #[.agg #[.int .u64 2, .int .u64 0, .int .u64 0, .int .u64 0]] w fun e w' => e = .returned (.tuple #[.agg #[.int .u64 0, .int .u64 1], .bool false]) ∧ Below w.heap.size w w' := by
  have h := C.root 2 w
  rw [show hiOf (rootN (2 % wfull)) = 0 from by decide +kernel, show loOf (rootN (2 % wfull)) = 1 from by decide +kernel, show exactN (2 % wfull) = false from by decide +kernel, show wd0 2 = 2 from by decide +kernel, show wd1 2 = 0 from by decide +kernel, show wd2 2 = 0 from by decide +kernel, show wd3 2 = 0 from by decide +kernel] at h
  exact h
set_option maxHeartbeats 4000000 in
set_option maxRecDepth 100000 in
theorem known6_walk 
     (C : Hid RootOK) (HC : Hid (∀ w, Calls Try.prog 11 #[] w fun e w' => e = .returned (.bool true) ∧ Below w.heap.size w w')) (w : World) :
    Calls Try.prog 8 #[] w fun e w' => e = .returned (.bool true) ∧ Below w.heap.size w w' := by
  go_enter Try.func8, Try.ntmps8
  go_wp2_with fail
  (with_reducible refine (k6_0 C.out _).mono ?_); rintro e w1 ⟨rfl, hb⟩
  have kk := hb
  clear hb
  go_wp2_with fail
  (with_reducible refine (k6_1 C.out _).mono ?_); rintro e w2 ⟨rfl, hb⟩
  have hz := bC (bA (Below.refl _ _) _) hb
  have cX0_0 := cell_later hb (a := ⟨w1.heap.size, 0, none⟩) (v := .int .u64 0) (by go_simp)
  have cX0_1 := cell_later hb (a := ⟨w1.heap.size, 1, none⟩) (v := .int .u64 0) (by go_simp)
  have sX0 : w1.heap.size < w2.heap.size := World.block_lt_of_cell? _ _ cX0_0
  replace kk := bC kk hz
  clear hb hz
  go_wp2_with fail
  (with_reducible refine (k6_2 C.out _).mono ?_); rintro e w3 ⟨rfl, hb⟩
  have hz := bC (bA (Below.refl _ _) _) hb
  replace cX0_0 := cell_later hz cX0_0; replace cX0_1 := cell_later hz cX0_1
  replace sX0 : w1.heap.size < w3.heap.size := World.block_lt_of_cell? _ _ cX0_0
  have cX1_0 := cell_later hb (a := ⟨w2.heap.size, 0, none⟩) (v := .int .u64 0) (by go_simp)
  have cX1_1 := cell_later hb (a := ⟨w2.heap.size, 1, none⟩) (v := .int .u64 1) (by go_simp)
  have sX1 : w2.heap.size < w3.heap.size := World.block_lt_of_cell? _ _ cX1_0
  replace kk := bC kk hz
  clear hb hz
  go_wp2_with fail
  (with_reducible refine (k6_3 C.out _).mono ?_); rintro e w4 ⟨rfl, hb⟩
  have hz := bC (bA (Below.refl _ _) _) hb
  replace cX0_0 := cell_later hz cX0_0; replace cX0_1 := cell_later hz cX0_1
  replace sX0 : w1.heap.size < w4.heap.size := World.block_lt_of_cell? _ _ cX0_0
  replace cX1_0 := cell_later hz cX1_0; replace cX1_1 := cell_later hz cX1_1
  replace sX1 : w2.heap.size < w4.heap.size := World.block_lt_of_cell? _ _ cX1_0
  have cX2_0 := cell_later hb (a := ⟨w3.heap.size, 0, none⟩) (v := .int .u64 18446744073709551615) (by go_simp)
  have cX2_1 := cell_later hb (a := ⟨w3.heap.size, 1, none⟩) (v := .int .u64 18446744073709551615) (by go_simp)
  have sX2 : w3.heap.size < w4.heap.size := World.block_lt_of_cell? _ _ cX2_0
  replace kk := bC kk hz
  clear hb hz
  go_wp2_with fail
  (with_reducible refine (k6_4 C.out _).mono ?_); rintro e w5 ⟨rfl, hb⟩
  have hz := bC (bA (Below.refl _ _) _) hb
  replace cX0_0 := cell_later hz cX0_0; replace cX0_1 := cell_later hz cX0_1
  replace sX0 : w1.heap.size < w5.heap.size := World.block_lt_of_cell? _ _ cX0_0
  replace cX1_0 := cell_later hz cX1_0; replace cX1_1 := cell_later hz cX1_1
  replace sX1 : w2.heap.size < w5.heap.size := World.block_lt_of_cell? _ _ cX1_0
  replace cX2_0 := cell_later hz cX2_0; replace cX2_1 := cell_later hz cX2_1
  replace sX2 : w3.heap.size < w5.heap.size := World.block_lt_of_cell? _ _ cX2_0
  have cX3_0 := cell_later hb (a := ⟨w4.heap.size, 0, none⟩) (v := .int .u64 9223372036854775808) (by go_simp)
  have cX3_1 := cell_later hb (a := ⟨w4.heap.size, 1, none⟩) (v := .int .u64 0) (by go_simp)
  have sX3 : w4.heap.size < w5.heap.size := World.block_lt_of_cell? _ _ cX3_0
  replace kk := bC kk hz
  clear hb hz
  go_wp2_with fail
  (with_reducible refine (HC.out _).mono ?_); rintro e w6 ⟨rfl, hb⟩
  have hz := bC (bA (Below.refl _ _) _) hb
  clear cX0_0 cX0_1 sX0
  clear cX1_0 cX1_1 sX1
  clear cX2_0 cX2_1 sX2
  clear cX3_0 cX3_1 sX3
  replace kk := bC kk hz
  clear hb hz
  go_wp2_with fail
  go_ret
  exact ⟨rfl, kk⟩

end Go.Proofs.Ytbibinmjipcdjaa
