/-
  ShiftOrder over digits.
-/
import Derived.Test.YtidppeaianpojaaOrder3N
import Derived.Test.YtidppeaianpojaaOrder3Y
import Derived.Test.YtidppeaianpojaaMath3
set_option linter.unusedVariables false
set_option linter.unusedSimpArgs false
namespace Go.Proofs.Ytidppeaianpojaa
open Go.RowKit
attribute [local go_sem ↓] Go.wp_at_zero Go.wp_at_succ

theorem cmpI_gt (x y : Int) : decide (0 < cmpI x y) = decide (y < x) := by
  unfold cmpI; rw [decide_eq_decide]; split <;> (try split) <;> omega
theorem cmpI_le (x y : Int) : decide (cmpI x y ≤ 0) = decide (x ≤ y) := by
  unfold cmpI; rw [decide_eq_decide]; split <;> (try split) <;> omega
theorem order3_walk (A B n : Int) (hn : -9223372036854775808 ≤ n ∧ n ≤ 9223372036854775807) (w : World) :
    Calls Try.prog 8 #[.agg #[.int .u64 (wd0 (A)), .int .u64 (wd1 (A)), .int .u64 (wd2 (A)), .int .u64 (wd3 (A))], .agg #[.int .u64 (wd0 (B)), .int .u64 (wd1 (B)), .int .u64 (wd2 (B)), .int .u64 (wd3 (B))], .int .i64 n] w fun e w' => e = .returned (.bool true) ∧ Below w.heap.size w w' := by
  obtain ⟨r0, r1⟩ := mod_w A
  obtain ⟨s0, s1⟩ := mod_w B
  have dA := div_back (A % wfull) n.toNat r0
  have dB := div_back (B % wfull) n.toNat s0
  have jA := jam_lt r0 r1 wfull_even n.toNat
  have jB := jam_lt s0 s1 wfull_even n.toNat
  have h0 := cmpW A B
  have hA := wrightW A n hn.1 hn.2
  have hB := wrightW B n hn.1 hn.2
  have gA := wjamW A n hn.1 hn.2
  have gB := wjamW B n hn.1 hn.2
  by_cases h : B % wfull < A % wfull
  · have c1 := cmpW (B % wfull / 2 ^ n.toNat) (A % wfull / 2 ^ n.toNat)
    rw [Int.emod_eq_of_lt dA.1 (by omega), Int.emod_eq_of_lt dB.1 (by omega)] at c1
    have c2 := cmpW (jamN (B % wfull) n.toNat) (jamN (A % wfull) n.toNat)
    rw [Int.emod_eq_of_lt jA.1 jA.2, Int.emod_eq_of_lt jB.1 jB.2] at c2
    refine order3_yes _ _ _ _ _ _ _ _ _ _ _ _ _ _ _ _ _ _ _ _ _ _ _ _ n _ _ _ (Lib.hid h0) (Lib.hid hB) (Lib.hid hA) (Lib.hid c1) (Lib.hid gB) (Lib.hid gA) (Lib.hid c2) ?_ ?_ ?_ w
    · rw [cmpI_gt]; simp [h]
    · rw [cmpI_le]; simp [div_mono (Int.le_of_lt h)]
    · rw [cmpI_le]; simp [jam_mono (Int.le_of_lt h)]
  · have c1 := cmpW (A % wfull / 2 ^ n.toNat) (B % wfull / 2 ^ n.toNat)
    rw [Int.emod_eq_of_lt dA.1 (by omega), Int.emod_eq_of_lt dB.1 (by omega)] at c1
    have c2 := cmpW (jamN (A % wfull) n.toNat) (jamN (B % wfull) n.toNat)
    rw [Int.emod_eq_of_lt jA.1 jA.2, Int.emod_eq_of_lt jB.1 jB.2] at c2
    refine order3_no _ _ _ _ _ _ _ _ _ _ _ _ _ _ _ _ _ _ _ _ _ _ _ _ n _ _ _ (Lib.hid h0) (Lib.hid hA) (Lib.hid hB) (Lib.hid c1) (Lib.hid gA) (Lib.hid gB) (Lib.hid c2) ?_ ?_ ?_ w
    · rw [cmpI_gt]; simp; omega
    · rw [cmpI_le]; simp [div_mono (Int.not_lt.1 h)]
    · rw [cmpI_le]; simp [jam_mono (Int.not_lt.1 h)]
theorem order3_law (a0 a1 a2 a3 b0 b1 b2 b3 n : Int) (ua0 : U64 a0) (ua1 : U64 a1) (ua2 : U64 a2) (ua3 : U64 a3) (ub0 : U64 b0) (ub1 : U64 b1) (ub2 : U64 b2) (ub3 : U64 b3) (hn : -9223372036854775808 ≤ n ∧ n ≤ 9223372036854775807) (w : World) :
    Calls Try.prog 8 #[.agg #[.int .u64 a0, .int .u64 a1, .int .u64 a2, .int .u64 a3], .agg #[.int .u64 b0, .int .u64 b1, .int .u64 b2, .int .u64 b3], .int .i64 n] w fun e w' => e = .returned (.bool true) ∧ Below w.heap.size w w' := by
  have h := order3_walk (wval a0 a1 a2 a3) (wval b0 b1 b2 b3) n hn w
  obtain ⟨e0, e1, e2, e3⟩ := wd_wval ua0 ua1 ua2 ua3
  obtain ⟨f0, f1, f2, f3⟩ := wd_wval ub0 ub1 ub2 ub3
  rw [e0, e1, e2, e3, f0, f1, f2, f3] at h
  exact h


end Go.Proofs.Ytidppeaianpojaa
