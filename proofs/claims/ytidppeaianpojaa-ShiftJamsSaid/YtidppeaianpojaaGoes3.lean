/-
  The contract of the helper goes of stage 3's statements: it returns true.
-/
import Derived.Test.YtidppeaianpojaaShiftG
set_option linter.unusedVariables false
set_option linter.unusedSimpArgs false
namespace Go.Proofs.Ytidppeaianpojaa
open Go.RowKit
attribute [local go_sem ↓] Go.wp_at_zero Go.wp_at_succ

theorem eqw3 (a0 a1 a2 a3 : Int) (w : World) : (binOp .eql 34 (.agg #[.int .u64 a0, .int .u64 a1, .int .u64 a2, .int .u64 a3]) (.agg #[.int .u64 a0, .int .u64 a1, .int .u64 a2, .int .u64 a3])).run Try.prog w = .ok (.bool true) w := by
  rw [eql_wide]; simp
theorem s3_r51 (w : World) : Calls Try.prog 14 #[.agg #[.int .u64 0, .int .u64 5], .int .i64 1] w fun e w' => e = .returned (.agg #[.int .u64 0, .int .u64 2]) ∧ Below w.heap.size w w' := by
  have h := rightB 5 1 (by decide) (by decide) w
  rw [show hiOf (5 % full / 2 ^ Int.toNat 1) = 0 from by decide +kernel, show loOf (5 % full / 2 ^ Int.toNat 1) = 2 from by decide +kernel, show hiOf 5 = 0 from by decide +kernel, show loOf 5 = 5 from by decide +kernel] at h
  exact h
theorem s3_j51 (w : World) : Calls Try.prog 16 #[.agg #[.int .u64 0, .int .u64 5], .int .i64 1] w fun e w' => e = .returned (.agg #[.int .u64 0, .int .u64 3]) ∧ Below w.heap.size w w' := by
  have h := jamB 5 1 (by decide) (by decide) w
  rw [show hiOf (jamN (5 % full) (Int.toNat 1)) = 0 from by decide +kernel, show loOf (jamN (5 % full) (Int.toNat 1)) = 3 from by decide +kernel, show hiOf 5 = 0 from by decide +kernel, show loOf 5 = 5 from by decide +kernel] at h
  exact h
theorem s3_j1 (w : World) : Calls Try.prog 16 #[.agg #[.int .u64 0, .int .u64 1], .int .i64 200] w fun e w' => e = .returned (.agg #[.int .u64 0, .int .u64 1]) ∧ Below w.heap.size w w' := by
  have h := jamB 1 200 (by decide) (by decide) w
  rw [show hiOf (jamN (1 % full) (Int.toNat 200)) = 0 from by decide +kernel, show loOf (jamN (1 % full) (Int.toNat 200)) = 1 from by decide +kernel, show hiOf 1 = 0 from by decide +kernel, show loOf 1 = 1 from by decide +kernel] at h
  exact h
theorem s3_l1 (w : World) : Calls Try.prog 11 #[.agg #[.int .u64 0, .int .u64 1], .int .i64 127] w fun e w' => e = .returned (.agg #[.int .u64 9223372036854775808, .int .u64 0]) ∧ Below w.heap.size w w' := by
  have h := leftB 1 127 (by decide) (by decide) w
  rw [show hiOf (1 * 2 ^ Int.toNat 127) = 9223372036854775808 from by decide +kernel, show loOf (1 * 2 ^ Int.toNat 127) = 0 from by decide +kernel, show hiOf 1 = 0 from by decide +kernel, show loOf 1 = 1 from by decide +kernel] at h
  exact h
theorem s3_lost (w : World) : Calls Try.prog 24 #[.agg #[.int .u64 1, .int .u64 0, .int .u64 0, .int .u64 0], .int .i64 1] w fun e w' => e = .returned (.bool true) ∧ Below w.heap.size w w' := by
  have h := lostW 1 1 (by decide) (by decide) w
  rw [show (1 % wfull % 2 ^ Int.toNat 1 != 0) = true from by decide +kernel, show wd0 1 = 1 from by decide +kernel, show wd1 1 = 0 from by decide +kernel, show wd2 1 = 0 from by decide +kernel, show wd3 1 = 0 from by decide +kernel] at h
  exact h
set_option maxHeartbeats 4000000 in
set_option maxRecDepth 100000 in
theorem goes3_any  (w : World) :
    Calls Try.prog 18 #[] w fun e w' => e = .returned (.bool true) ∧ Below w.heap.size w w' := by
  go_enter Try.func18, Try.ntmps18
  go_wp2_with fail
  (with_reducible refine (s3_r51 _).mono ?_); rintro e w1 ⟨rfl, hb⟩
  have kk := hb
  clear hb
  go_wp2_with fail
  (with_reducible refine (s3_j51 _).mono ?_); rintro e w2 ⟨rfl, hb⟩
  replace kk := bC kk hb
  clear hb
  go_wp2_with fail
  (with_reducible refine (s3_j1 _).mono ?_); rintro e w3 ⟨rfl, hb⟩
  replace kk := bC kk hb
  clear hb
  go_wp2_with fail
  (with_reducible refine (s3_l1 _).mono ?_); rintro e w4 ⟨rfl, hb⟩
  replace kk := bC kk hb
  clear hb
  go_wp2_with fail
  (with_reducible refine (s3_lost _).mono ?_); rintro e w5 ⟨rfl, hb⟩
  replace kk := bC kk hb
  clear hb
  go_wp2_with fail
  go_ret
  exact ⟨rfl, kk⟩

end Go.Proofs.Ytidppeaianpojaa
