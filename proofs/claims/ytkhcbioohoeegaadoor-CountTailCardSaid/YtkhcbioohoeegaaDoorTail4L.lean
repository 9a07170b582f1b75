/-
  CountTail over digits.
-/
import Derived.Test.YtkhcbioohoeegaaDoorTail4
import Derived.Test.YtkhcbioohoeegaaDoorCounts4
import Derived.Test.YtkhcbioohoeegaaDoorShiftG
set_option linter.unusedVariables false
set_option linter.unusedSimpArgs false
set_option maxRecDepth 100000
namespace Go.Proofs.YtkhcbioohoeegaaDoor
open Go.RowKit
attribute [local go_sem ↓] Go.wp_at_zero Go.wp_at_succ

theorem tail4_walk (C : CountOK) (A : Int) (w : World) (tb : Tab w) :
    Calls Tryd.prog 7 #[.agg #[.int .u64 (wd0 (A)), .int .u64 (wd1 (A)), .int .u64 (wd2 (A)), .int .u64 (wd3 (A))]] w fun e w' => e = .returned (.bool true) ∧ Below w.heap.size w w' := by
  obtain ⟨r0, r1⟩ := mod_w A
  have hl := C.tail A
  have hz := zeroW A
  have CN := Lib.hid (counts4_any C)
  by_cases h : A % wfull = 0
  · rw [h, tail_zero, show ((256 : Nat) : Int) = 256 from rfl] at hl
    rw [h, show ((0 : Int) == 0) = true from rfl] at hz
    exact tail4_zero _ _ _ _ (Lib.hid hl) (Lib.hid hz) CN w tb
  · have hx : 0 < A % wfull := by omega
    rw [show (A % wfull == 0) = false by simp [h]] at hz
    obtain ⟨t0, t1, t2⟩ := tail_spec hx r1
    have l1 := lostW A (tailN (A % wfull) : Int) (by omega) (by omega)
    rw [Int.toNat_natCast, t1, show ((0 : Int) != 0) = false from rfl] at l1
    have l2 := wrightW A (tailN (A % wfull) : Int) (by omega) (by omega)
    rw [Int.toNat_natCast] at l2
    have l3 := lostW A ((tailN (A % wfull) : Int) + 1) (by omega) (by omega)
    have t3 : A % wfull % 2 ^ (tailN (A % wfull) + 1) ≠ 0 := fun h => by
      have := ((lost_split _ _ 1).1 h).2
      rw [Int.pow_one] at this; omega
    rw [show ((tailN (A % wfull) : Int) + 1).toNat = tailN (A % wfull) + 1 by omega, show (A % wfull % 2 ^ (tailN (A % wfull) + 1) != 0) = true by simp [t3]] at l3
    refine tail4_not _ _ _ _ _ _ _ _ _ _ (Lib.hid hl) (Lib.hid hz) (Lib.hid l1) (Lib.hid l2) (Lib.hid l3) CN ?_ ?_ ?_ ?_ w tb
    · simp
    · simp; omega
    · rw [and_one (wd0_u _)]; unfold wd0; omega
    · exact IntWalk.i64_in _ (by omega)


theorem tail4_law (C : CountOK) (a0 a1 a2 a3 : Int) (ua0 : U64 a0) (ua1 : U64 a1) (ua2 : U64 a2) (ua3 : U64 a3) (w : World) (tb : Tab w) :
    Calls Tryd.prog 7 #[.agg #[.int .u64 a0, .int .u64 a1, .int .u64 a2, .int .u64 a3]] w fun e w' => e = .returned (.bool true) ∧ Below w.heap.size w w' := by
  have h := tail4_walk C (wval a0 a1 a2 a3) w tb
  obtain ⟨e0, e1, e2, e3⟩ := wd_wval ua0 ua1 ua2 ua3
  rw [e0, e1, e2, e3] at h
  exact h


end Go.Proofs.YtkhcbioohoeegaaDoor
