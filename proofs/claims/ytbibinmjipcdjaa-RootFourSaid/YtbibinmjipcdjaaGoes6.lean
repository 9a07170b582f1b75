/-
  The contract of the helper goes of stage 6's statements: it returns true.
-/
import Derived.Test.YtbibinmjipcdjaaRootP
set_option linter.unusedVariables false
set_option linter.unusedSimpArgs false
set_option maxRecDepth 100000
namespace Go.Proofs.Ytbibinmjipcdjaa
open Go.RowKit
attribute [local go_sem ↓] Go.wp_at_zero Go.wp_at_succ

theorem c6_8 (C : RootOK) (w : World) : Calls Try.prog 9 #[.agg #[.int .u64 8, .int .u64 0, .int .u64 0, .int .u64 0]] w fun e w' => e = .returned (.tuple #[.agg #[.int .u64 0, .int .u64 2], .bool false]) ∧ Below w.heap.size w w' := by
  have h := C.root 8 w
  rw [show hiOf (rootN (8 % wfull)) = 0 from by decide +kernel, show loOf (rootN (8 % wfull)) = 2 from by decide +kernel, show exactN (8 % wfull) = false from by decide +kernel, show wd0 8 = 8 from by decide +kernel, show wd1 8 = 0 from by decide +kernel, show wd2 8 = 0 from by decide +kernel, show wd3 8 = 0 from by decide +kernel] at h
  exact h
theorem c6_9 (C : RootOK) (w : World) : Calls Try.prog 9 #[.agg #[.int .u64 9, .int .u64 0, .int .u64 0, .int .u64 0]] w fun e w' => e = .returned (.tuple #[.agg #[.int .u64 0, .int .u64 3], .bool true]) ∧ Below w.heap.size w w' := by
  have h := C.root 9 w
  rw [show hiOf (rootN (9 % wfull)) = 0 from by decide +kernel, show loOf (rootN (9 % wfull)) = 3 from by decide +kernel, show exactN (9 % wfull) = true from by decide +kernel, show wd0 9 = 9 from by decide +kernel, show wd1 9 = 0 from by decide +kernel, show wd2 9 = 0 from by decide +kernel, show wd3 9 = 0 from by decide +kernel] at h
  exact h
set_option maxHeartbeats 4000000 in
set_option maxRecDepth 100000 in
theorem goes6_any (C : RootOK) (w : World) :
    Calls Try.prog 11 #[] w fun e w' => e = .returned (.bool true) ∧ Below w.heap.size w w' := by
  go_enter Try.func11, Try.ntmps11
  go_wp2_with fail
  (with_reducible refine (c6_8 C _).mono ?_); rintro e w1 ⟨rfl, hb⟩
  have kk := hb
  clear hb
  go_wp2_with fail
  (with_reducible refine (c6_9 C _).mono ?_); rintro e w2 ⟨rfl, hb⟩
  have hz := bC (bA (Below.refl _ _) _) hb
  have cX0_0 := cell_later hb (a := ⟨w1.heap.size, 0, none⟩) (v := .int .u64 0) (by go_simp)
  have cX0_1 := cell_later hb (a := ⟨w1.heap.size, 1, none⟩) (v := .int .u64 2) (by go_simp)
  have sX0 : w1.heap.size < w2.heap.size := World.block_lt_of_cell? _ _ cX0_0
  replace kk := bC kk hz
  clear hb hz
  go_wp2_with fail
  go_ret
  exact ⟨rfl, (bA kk _)⟩

end Go.Proofs.Ytbibinmjipcdjaa
