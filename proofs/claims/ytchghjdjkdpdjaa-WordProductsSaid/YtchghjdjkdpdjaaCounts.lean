/-
  The contract of the statements' own helper counts: it returns true.
-/
import Derived.Test.YtchghjdjkdpdjaaWordB
import Derived.Test.YtchghjdjkdpdjaaBoxes
set_option linter.unusedVariables false
namespace Go.Proofs.Ytchghjdjkdpdjaa
open Go.RowKit

theorem counts_add (w : World) :
    Calls Try.prog 10 #[.agg #[.int .u64 0, .int .u64 18446744073709551615], .agg #[.int .u64 0, .int .u64 1]] w fun e w' =>
      e = .returned (.tuple #[.agg #[.int .u64 1, .int .u64 0], .bool false]) ∧ Below w.heap.size w w' :=
  (add_any 0 18446744073709551615 0 1 u0 uMax u0 u1 w).mono fun e w' ⟨he, hb⟩ => ⟨he.trans (by
    rw [show hiOf (val 0 18446744073709551615 + val 0 1) = 1 from by decide +kernel, show loOf (val 0 18446744073709551615 + val 0 1) = 0 from by decide +kernel, show decide (full ≤ val 0 18446744073709551615 + val 0 1) = false from by decide +kernel]), hb⟩
theorem counts_sub (w : World) :
    Calls Try.prog 11 #[.agg #[.int .u64 0, .int .u64 0], .agg #[.int .u64 0, .int .u64 1]] w fun e w' =>
      e = .returned (.tuple #[.agg #[.int .u64 18446744073709551615, .int .u64 18446744073709551615], .bool true]) ∧ Below w.heap.size w w' :=
  (sub_any 0 0 0 1 u0 u0 u0 u1 w).mono fun e w' ⟨he, hb⟩ => ⟨he.trans (by
    rw [show hiOf (val 0 0 - val 0 1) = 18446744073709551615 from by decide +kernel, show loOf (val 0 0 - val 0 1) = 18446744073709551615 from by decide +kernel, show decide (val 0 0 < val 0 1) = true from by decide +kernel]), hb⟩
theorem counts_mul (w : World) :
    Calls Try.prog 19 #[.int .u64 4294967296, .int .u64 4294967296] w fun e w' =>
      e = .returned (.agg #[.int .u64 1, .int .u64 0]) ∧ Below w.heap.size w w' :=
  (mul_any 4294967296 4294967296 (u64_small (by decide) (by decide)) (u64_small (by decide) (by decide)) w).mono fun e w' ⟨he, hb⟩ => ⟨he.trans (by
    rw [show hiOf (4294967296 * 4294967296) = 1 from by decide +kernel, show loOf (4294967296 * 4294967296) = 0 from by decide +kernel]), hb⟩
theorem counts_cmp (w : World) :
    Calls Try.prog 22 #[.agg #[.int .u64 0, .int .u64 1], .agg #[.int .u64 0, .int .u64 2]] w fun e w' =>
      e = .returned (.int .i64 (-1)) ∧ Below w.heap.size w w' :=
  (cmp_any 0 1 0 2 u0 u1 u0 u2 w).mono fun e w' ⟨he, hb⟩ => ⟨he.trans (by
    rw [show cmpI (val 0 1) (val 0 2) = -1 from by decide +kernel]), hb⟩
theorem counts_bit (w : World) :
    Calls Try.prog 23 #[.agg #[.int .u64 1, .int .u64 0], .int .i64 64] w fun e w' =>
      e = .returned (.bool true) ∧ Below w.heap.size w w' :=
  (bit_any 1 0 64 u1 u0 w).mono fun e w' ⟨he, hb⟩ => ⟨he.trans (by
    rw [show bitI (val 1 0) 64 = true from by decide +kernel]), hb⟩

set_option maxHeartbeats 1000000 in
theorem counts_any (w : World) :
    Calls Try.prog 18 #[] w fun e w' => e = .returned (.bool true) ∧ Below w.heap.size w w' := by
  go_enter Try.func18, Try.ntmps18
  go_wp2_with fail
  (with_reducible refine (counts_add _).mono ?_); rintro e w1 ⟨rfl, hb1⟩
  go_wp2_with fail
  (with_reducible refine (counts_sub _).mono ?_); rintro e w2 ⟨rfl, hb2⟩
  have hz2 : w1.heap.size < w2.heap.size := by have := hb2.size; simp at this; omega
  obtain ⟨hc2, hf2⟩ := bcell hb2
  go_wp2_with fail
  (with_reducible refine (counts_mul _).mono ?_); rintro e w3 ⟨rfl, hb3⟩
  go_wp2_with fail
  (with_reducible refine (counts_cmp _).mono ?_); rintro e w4 ⟨rfl, hb4⟩
  go_wp2_with fail
  (with_reducible refine (counts_bit _).mono ?_); rintro e w5 ⟨rfl, hb5⟩
  go_wp2_with fail
  go_ret
  exact ⟨rfl, bC (bC (bC (bA (bC (bA (bC (Below.refl _ _) hb1) _) hb2) _) hb3) hb4) hb5⟩

end Go.Proofs.Ytchghjdjkdpdjaa
