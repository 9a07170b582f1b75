/-
  Contracts at the constants of the statement ShiftKnown.
-/
import Derived.Test.YtidppeaianpojaaGoes3
import Derived.Test.YtidppeaianpojaaNumN
set_option linter.unusedVariables false
set_option linter.unusedSimpArgs false
namespace Go.Proofs.Ytidppeaianpojaa
open Go.RowKit
attribute [local go_sem ↓] Go.wp_at_zero Go.wp_at_succ

theorem jamN_far {x : Int} {k : Nat} (h0 : 0 ≤ x) (h1 : x < 2 ^ k) : jamN x k = if x = 0 then 0 else 1 := by
  unfold jamN
  rw [Int.emod_eq_of_lt h0 h1, Int.ediv_eq_zero_of_lt h0 h1]
  rfl
theorem k3_jz (w : World) : Calls Try.prog 16 #[.agg #[.int .u64 0, .int .u64 0], .int .i64 1099511627776] w fun e w' => e = .returned (.agg #[.int .u64 0, .int .u64 0]) ∧ Below w.heap.size w w' := by
  have h := jamB 0 1099511627776 (by decide) (by decide) w
  rw [jamN_far (mod_f 0).1 (Int.lt_of_lt_of_le (mod_f 0).2 (full_pow ▸ two_pow_le (by decide))), show (if (0 : Int) % full = 0 then (0 : Int) else 1) = 0 from by decide +kernel, show hiOf 0 = 0 from rfl, show loOf 0 = 0 from rfl] at h
  exact h
theorem k3_wj (w : World) : Calls Try.prog 23 #[.agg #[.int .u64 0, .int .u64 0, .int .u64 0, .int .u64 1], .int .i64 4611686018427387904] w fun e w' => e = .returned (.agg #[.int .u64 1, .int .u64 0, .int .u64 0, .int .u64 0]) ∧ Below w.heap.size w w' := by
  have h := wjamW 6277101735386680763835789423207666416102355444464034512896 4611686018427387904 (by decide) (by decide) w
  rw [jamN_far (mod_w _).1 (Int.lt_of_lt_of_le (mod_w _).2 (wfull_pow ▸ two_pow_le (by decide))), show (if (6277101735386680763835789423207666416102355444464034512896 : Int) % wfull = 0 then (0 : Int) else 1) = 1 from by decide +kernel, show wd0 1 = 1 from by decide +kernel, show wd1 1 = 0 from by decide +kernel, show wd2 1 = 0 from by decide +kernel, show wd3 1 = 0 from by decide +kernel, show wd0 6277101735386680763835789423207666416102355444464034512896 = 0 from by decide +kernel, show wd1 6277101735386680763835789423207666416102355444464034512896 = 0 from by decide +kernel, show wd2 6277101735386680763835789423207666416102355444464034512896 = 0 from by decide +kernel, show wd3 6277101735386680763835789423207666416102355444464034512896 = 1 from by decide +kernel] at h
  exact h
theorem k3_0 (w : World) : Calls Try.prog 11 #[.agg #[.int .u64 0, .int .u64 1], .int .i64 128] w fun e w' => e = .returned (.agg #[.int .u64 0, .int .u64 0]) ∧ Below w.heap.size w w' := by
  have h := leftB 1 128 (by decide) (by decide) w
  rw [show hiOf (1 * 2 ^ Int.toNat 128) = 0 from by decide +kernel, show loOf (1 * 2 ^ Int.toNat 128) = 0 from by decide +kernel, show hiOf 1 = 0 from by decide +kernel, show loOf 1 = 1 from by decide +kernel] at h
  exact h
theorem k3_1 (w : World) : Calls Try.prog 11 #[.agg #[.int .u64 0, .int .u64 1], .int .i64 64] w fun e w' => e = .returned (.agg #[.int .u64 1, .int .u64 0]) ∧ Below w.heap.size w w' := by
  have h := leftB 1 64 (by decide) (by decide) w
  rw [show hiOf (1 * 2 ^ Int.toNat 64) = 1 from by decide +kernel, show loOf (1 * 2 ^ Int.toNat 64) = 0 from by decide +kernel, show hiOf 1 = 0 from by decide +kernel, show loOf 1 = 1 from by decide +kernel] at h
  exact h
theorem k3_2 (w : World) : Calls Try.prog 11 #[.agg #[.int .u64 18446744073709551615, .int .u64 18446744073709551615], .int .i64 0] w fun e w' => e = .returned (.agg #[.int .u64 18446744073709551615, .int .u64 18446744073709551615]) ∧ Below w.heap.size w w' := by
  have h := leftB 340282366920938463463374607431768211455 0 (by decide) (by decide) w
  rw [show hiOf (340282366920938463463374607431768211455 * 2 ^ Int.toNat 0) = 18446744073709551615 from by decide +kernel, show loOf (340282366920938463463374607431768211455 * 2 ^ Int.toNat 0) = 18446744073709551615 from by decide +kernel, show hiOf 340282366920938463463374607431768211455 = 18446744073709551615 from by decide +kernel, show loOf 340282366920938463463374607431768211455 = 18446744073709551615 from by decide +kernel] at h
  exact h
theorem k3_3 (w : World) : Calls Try.prog 11 #[.agg #[.int .u64 18446744073709551615, .int .u64 18446744073709551615], .int .i64 (-5)] w fun e w' => e = .returned (.agg #[.int .u64 18446744073709551615, .int .u64 18446744073709551615]) ∧ Below w.heap.size w w' := by
  have h := leftB 340282366920938463463374607431768211455 (-5) (by decide) (by decide) w
  rw [show hiOf (340282366920938463463374607431768211455 * 2 ^ Int.toNat (-5)) = 18446744073709551615 from by decide +kernel, show loOf (340282366920938463463374607431768211455 * 2 ^ Int.toNat (-5)) = 18446744073709551615 from by decide +kernel, show hiOf 340282366920938463463374607431768211455 = 18446744073709551615 from by decide +kernel, show loOf 340282366920938463463374607431768211455 = 18446744073709551615 from by decide +kernel] at h
  exact h
theorem k3_4 (w : World) : Calls Try.prog 14 #[.agg #[.int .u64 18446744073709551615, .int .u64 18446744073709551615], .int .i64 (-5)] w fun e w' => e = .returned (.agg #[.int .u64 18446744073709551615, .int .u64 18446744073709551615]) ∧ Below w.heap.size w w' := by
  have h := rightB 340282366920938463463374607431768211455 (-5) (by decide) (by decide) w
  rw [show hiOf (340282366920938463463374607431768211455 % full / 2 ^ Int.toNat (-5)) = 18446744073709551615 from by decide +kernel, show loOf (340282366920938463463374607431768211455 % full / 2 ^ Int.toNat (-5)) = 18446744073709551615 from by decide +kernel, show hiOf 340282366920938463463374607431768211455 = 18446744073709551615 from by decide +kernel, show loOf 340282366920938463463374607431768211455 = 18446744073709551615 from by decide +kernel] at h
  exact h
theorem k3_5 (w : World) : Calls Try.prog 16 #[.agg #[.int .u64 18446744073709551615, .int .u64 18446744073709551615], .int .i64 (-5)] w fun e w' => e = .returned (.agg #[.int .u64 18446744073709551615, .int .u64 18446744073709551615]) ∧ Below w.heap.size w w' := by
  have h := jamB 340282366920938463463374607431768211455 (-5) (by decide) (by decide) w
  rw [show hiOf (jamN (340282366920938463463374607431768211455 % full) (Int.toNat (-5))) = 18446744073709551615 from by decide +kernel, show loOf (jamN (340282366920938463463374607431768211455 % full) (Int.toNat (-5))) = 18446744073709551615 from by decide +kernel, show hiOf 340282366920938463463374607431768211455 = 18446744073709551615 from by decide +kernel, show loOf 340282366920938463463374607431768211455 = 18446744073709551615 from by decide +kernel] at h
  exact h
theorem k3_6 (w : World) : Calls Try.prog 14 #[.agg #[.int .u64 9223372036854775808, .int .u64 0], .int .i64 127] w fun e w' => e = .returned (.agg #[.int .u64 0, .int .u64 1]) ∧ Below w.heap.size w w' := by
  have h := rightB 170141183460469231731687303715884105728 127 (by decide) (by decide) w
  rw [show hiOf (170141183460469231731687303715884105728 % full / 2 ^ Int.toNat 127) = 0 from by decide +kernel, show loOf (170141183460469231731687303715884105728 % full / 2 ^ Int.toNat 127) = 1 from by decide +kernel, show hiOf 170141183460469231731687303715884105728 = 9223372036854775808 from by decide +kernel, show loOf 170141183460469231731687303715884105728 = 0 from by decide +kernel] at h
  exact h
theorem k3_7 (w : World) : Calls Try.prog 14 #[.agg #[.int .u64 18446744073709551615, .int .u64 18446744073709551615], .int .i64 128] w fun e w' => e = .returned (.agg #[.int .u64 0, .int .u64 0]) ∧ Below w.heap.size w w' := by
  have h := rightB 340282366920938463463374607431768211455 128 (by decide) (by decide) w
  rw [show hiOf (340282366920938463463374607431768211455 % full / 2 ^ Int.toNat 128) = 0 from by decide +kernel, show loOf (340282366920938463463374607431768211455 % full / 2 ^ Int.toNat 128) = 0 from by decide +kernel, show hiOf 340282366920938463463374607431768211455 = 18446744073709551615 from by decide +kernel, show loOf 340282366920938463463374607431768211455 = 18446744073709551615 from by decide +kernel] at h
  exact h
theorem k3_8 (w : World) : Calls Try.prog 16 #[.agg #[.int .u64 0, .int .u64 4], .int .i64 1] w fun e w' => e = .returned (.agg #[.int .u64 0, .int .u64 2]) ∧ Below w.heap.size w w' := by
  have h := jamB 4 1 (by decide) (by decide) w
  rw [show hiOf (jamN (4 % full) (Int.toNat 1)) = 0 from by decide +kernel, show loOf (jamN (4 % full) (Int.toNat 1)) = 2 from by decide +kernel, show hiOf 4 = 0 from by decide +kernel, show loOf 4 = 4 from by decide +kernel] at h
  exact h
theorem k3_10 (w : World) : Calls Try.prog 20 #[.agg #[.int .u64 1, .int .u64 0, .int .u64 0, .int .u64 0], .int .i64 255] w fun e w' => e = .returned (.agg #[.int .u64 0, .int .u64 0, .int .u64 0, .int .u64 9223372036854775808]) ∧ Below w.heap.size w w' := by
  have h := wleftW 1 255 (by decide) (by decide) w
  rw [show wd0 (1 * 2 ^ Int.toNat 255) = 0 from by decide +kernel, show wd1 (1 * 2 ^ Int.toNat 255) = 0 from by decide +kernel, show wd2 (1 * 2 ^ Int.toNat 255) = 0 from by decide +kernel, show wd3 (1 * 2 ^ Int.toNat 255) = 9223372036854775808 from by decide +kernel, show wd0 1 = 1 from by decide +kernel, show wd1 1 = 0 from by decide +kernel, show wd2 1 = 0 from by decide +kernel, show wd3 1 = 0 from by decide +kernel] at h
  exact h
theorem k3_11 (w : World) : Calls Try.prog 20 #[.agg #[.int .u64 1, .int .u64 0, .int .u64 0, .int .u64 0], .int .i64 256] w fun e w' => e = .returned (.agg #[.int .u64 0, .int .u64 0, .int .u64 0, .int .u64 0]) ∧ Below w.heap.size w w' := by
  have h := wleftW 1 256 (by decide) (by decide) w
  rw [show wd0 (1 * 2 ^ Int.toNat 256) = 0 from by decide +kernel, show wd1 (1 * 2 ^ Int.toNat 256) = 0 from by decide +kernel, show wd2 (1 * 2 ^ Int.toNat 256) = 0 from by decide +kernel, show wd3 (1 * 2 ^ Int.toNat 256) = 0 from by decide +kernel, show wd0 1 = 1 from by decide +kernel, show wd1 1 = 0 from by decide +kernel, show wd2 1 = 0 from by decide +kernel, show wd3 1 = 0 from by decide +kernel] at h
  exact h
theorem k3_13 (w : World) : Calls Try.prog 24 #[.agg #[.int .u64 0, .int .u64 1, .int .u64 0, .int .u64 0], .int .i64 64] w fun e w' => e = .returned (.bool false) ∧ Below w.heap.size w w' := by
  have h := lostW 18446744073709551616 64 (by decide) (by decide) w
  rw [show (18446744073709551616 % wfull % 2 ^ Int.toNat 64 != 0) = false from by decide +kernel, show wd0 18446744073709551616 = 0 from by decide +kernel, show wd1 18446744073709551616 = 1 from by decide +kernel, show wd2 18446744073709551616 = 0 from by decide +kernel, show wd3 18446744073709551616 = 0 from by decide +kernel] at h
  exact h
theorem k3_14 (w : World) : Calls Try.prog 24 #[.agg #[.int .u64 0, .int .u64 1, .int .u64 0, .int .u64 0], .int .i64 65] w fun e w' => e = .returned (.bool true) ∧ Below w.heap.size w w' := by
  have h := lostW 18446744073709551616 65 (by decide) (by decide) w
  rw [show (18446744073709551616 % wfull % 2 ^ Int.toNat 65 != 0) = true from by decide +kernel, show wd0 18446744073709551616 = 0 from by decide +kernel, show wd1 18446744073709551616 = 1 from by decide +kernel, show wd2 18446744073709551616 = 0 from by decide +kernel, show wd3 18446744073709551616 = 0 from by decide +kernel] at h
  exact h


end Go.Proofs.Ytidppeaianpojaa
