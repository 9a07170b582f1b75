/-
  CountBetween over digits.
-/
import Derived.Test.YtkhcbioohoeegaaDoorBetween4A
import Derived.Test.YtkhcbioohoeegaaDoorBetween4B
import Derived.Test.YtkhcbioohoeegaaDoorCounts4
import Derived.Test.YtkhcbioohoeegaaDoorShiftG
set_option linter.unusedVariables false
set_option linter.unusedSimpArgs false
set_option maxRecDepth 100000
namespace Go.Proofs.YtkhcbioohoeegaaDoor
open Go.RowKit
attribute [local go_sem ↓] Go.wp_at_zero Go.wp_at_succ

theorem one_dig : wd0 1 = 1 ∧ wd1 1 = 0 ∧ wd2 1 = 0 ∧ wd3 1 = 0 := ⟨rfl, rfl, rfl, rfl⟩
theorem cmpI_neg (x y : Int) : decide (cmpI x y < 0) = decide (x < y) := by
  unfold cmpI; rw [decide_eq_decide]; split <;> (try split) <;> omega
theorem pow_lt_w {k : Nat} (h : k < 256) : 0 ≤ (1 : Int) * 2 ^ k ∧ (1 : Int) * 2 ^ k < wfull := by
  have h1 := two_pow_pos k
  have h2 := two_pow_le (show k + 1 ≤ 256 by omega)
  rw [show (2 : Int) ^ 256 = wfull from by decide +kernel, Int.pow_succ] at h2
  omega
theorem leftOne {k : Nat} (i : Int) (hi : i = (k : Int)) (hk : k < 256) (w : World) : Calls Tryd.prog 25 #[.agg #[.int .u64 1, .int .u64 0, .int .u64 0, .int .u64 0], .int .i64 i] w fun e w' => e = .returned (.agg #[.int .u64 (wd0 (1 * 2 ^ k)), .int .u64 (wd1 (1 * 2 ^ k)), .int .u64 (wd2 (1 * 2 ^ k)), .int .u64 (wd3 (1 * 2 ^ k))]) ∧ Below w.heap.size w w' := by
  have h := wleftW 1 i (by omega) (by omega) w
  obtain ⟨e0, e1, e2, e3⟩ := one_dig
  rw [e0, e1, e2, e3, hi, Int.toNat_natCast] at h
  rw [hi]; exact h
theorem between4_walk (C : CountOK) (A : Int) (w : World) (tb : Tab w) :
    Calls Tryd.prog 5 #[.agg #[.int .u64 (wd0 (A)), .int .u64 (wd1 (A)), .int .u64 (wd2 (A)), .int .u64 (wd3 (A))]] w fun e w' => e = .returned (.bool true) ∧ Below w.heap.size w w' := by
  obtain ⟨r0, r1⟩ := mod_w A
  have hl := C.wlen A
  have hz := zeroW A
  have CN := Lib.hid (counts4_any C)
  by_cases h : A % wfull = 0
  · rw [h, show ((blen 0 : Nat) : Int) = 0 from rfl] at hl
    rw [h, show ((0 : Int) == 0) = true from rfl] at hz
    exact between4_zero _ _ _ _ (Lib.hid hl) (Lib.hid hz) CN w tb
  · have hx : 0 < A % wfull := by omega
    rw [show (A % wfull == 0) = false by simp [h]] at hz
    have b1 := blen_pos hx
    have b2 := blen_w r0 r1
    have b3 := blen_low hx
    have b4 := lt_blen (A % wfull) r0
    have c1 := cmpW A (1 * 2 ^ (blen (A % wfull) - 1))
    have p1 := pow_lt_w (k := blen (A % wfull) - 1) (by omega)
    rw [Int.emod_eq_of_lt p1.1 p1.2] at c1
    have d1 : decide (cmpI (A % wfull) (1 * 2 ^ (blen (A % wfull) - 1)) < 0) = false := by rw [cmpI_neg]; simp; omega
    by_cases g : blen (A % wfull) = 256
    · have l1 := leftOne (k := blen (A % wfull) - 1) 255 (by omega) (by omega)
      rw [g, show ((256 : Nat) : Int) = 256 from rfl] at hl
      exact between4_top _ _ _ _ _ _ _ _ _ (Lib.hid hl) (Lib.hid hz) (Lib.hid l1) (Lib.hid c1) CN d1 w tb
    · have l1 := leftOne (k := blen (A % wfull) - 1) ((blen (A % wfull) : Int) - 1) (by omega) (by omega)
      have l2 := leftOne (k := blen (A % wfull)) (blen (A % wfull) : Int) rfl (by omega)
      have p2 := pow_lt_w (k := blen (A % wfull)) (by omega)
      have c2 := cmpW A (1 * 2 ^ blen (A % wfull))
      rw [Int.emod_eq_of_lt p2.1 p2.2] at c2
      refine between4_in _ _ _ _ _ _ _ _ _ _ _ _ _ _ _ _ (Lib.hid hl) (Lib.hid hz) (Lib.hid l1) (Lib.hid c1) (Lib.hid l2) (Lib.hid c2) CN d1 ?_ ?_ ?_ ?_ ?_ w tb
      · rw [cmpI_neg]; simp; omega
      · simp; omega
      · simp; omega
      · simp; omega
      · exact IntWalk.i64_in _ (by omega)


theorem between4_law (C : CountOK) (a0 a1 a2 a3 : Int) (ua0 : U64 a0) (ua1 : U64 a1) (ua2 : U64 a2) (ua3 : U64 a3) (w : World) (tb : Tab w) :
    Calls Tryd.prog 5 #[.agg #[.int .u64 a0, .int .u64 a1, .int .u64 a2, .int .u64 a3]] w fun e w' => e = .returned (.bool true) ∧ Below w.heap.size w w' := by
  have h := between4_walk C (wval a0 a1 a2 a3) w tb
  obtain ⟨e0, e1, e2, e3⟩ := wd_wval ua0 ua1 ua2 ua3
  rw [e0, e1, e2, e3] at h
  exact h


end Go.Proofs.YtkhcbioohoeegaaDoor
