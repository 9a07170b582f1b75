/-
  RootFour over digits.
-/
import Derived.Test.YtbibinmjipcdjaaFour6
import Derived.Test.YtbibinmjipcdjaaMath6
import Derived.Test.YtbibinmjipcdjaaGsB
set_option linter.unusedVariables false
set_option linter.unusedSimpArgs false
set_option maxRecDepth 100000
namespace Go.Proofs.Ytbibinmjipcdjaa
open Go.RowKit
attribute [local go_sem ↓] Go.wp_at_zero Go.wp_at_succ

theorem four6_walk (C : RootOK) (A : Int) (w : World) :
    Calls Try.prog 7 #[.agg #[.int .u64 (wd0 (A)), .int .u64 (wd1 (A)), .int .u64 (wd2 (A)), .int .u64 (wd3 (A))]] w fun e w' => e = .returned (.bool true) ∧ Below w.heap.size w w' := by
  obtain ⟨r0, r1⟩ := mod_w A
  have d := div_back (A % wfull) 2 r0
  have p4 : (2 : Int) ^ 2 = 4 := rfl
  have h1 := wrightW A 2 (by decide) (by decide)
  rw [show (2 : Int).toNat = 2 from rfl, p4] at h1
  rw [p4] at d
  have CN := Lib.hid (goes6_any C)
  obtain ⟨x, hx⟩ : ∃ x, A % wfull / 4 = x := ⟨_, rfl⟩
  rw [hx] at h1 d
  have x0 : 0 ≤ x := d.1
  have x1 : x * 4 < wfull := by omega
  have x2 : x < wfull := by omega
  have h2 := C.root x
  rw [Int.emod_eq_of_lt x0 x2] at h2
  have h3 := wleftW x 2 (by decide) (by decide)
  rw [show (2 : Int).toNat = 2 from rfl, p4] at h3
  have h4 := C.root (x * 4)
  rw [Int.emod_eq_of_lt (by omega) x1] at h4
  obtain ⟨a0, a1, a2, a3⟩ := root_range x0 x2
  obtain ⟨b0, b1, b2, b3⟩ := root_range (by omega : 0 ≤ x * 4) x1
  have h5 := leftB (rootN x) 1 (by decide) (by decide)
  rw [show (1 : Int).toNat = 1 from rfl, Int.pow_one] at h5
  -- twice the root, or one more
  have k1 : rootN x * 2 ≤ rootN (x * 4) := by
    refine root_mono' (a := (rootN x * 2) * (rootN x * 2)) (b := x * 4) ?_ ⟨by omega, Int.le_refl _, by rw [Int.pow_zero, Int.mul_add, Int.add_mul]; omega⟩ (root_spec (by omega) x1)
    have : rootN x * 2 * (rootN x * 2) = rootN x * rootN x * 4 := by rw [show (4 : Int) = 2 * 2 from rfl]; ac_rfl
    omega
  have k2 : rootN (x * 4) < rootN x * 2 + 2 := by
    rcases Int.lt_or_le (rootN (x * 4)) (rootN x * 2 + 2) with g | g
    · exact g
    · exfalso
      have h := sq_le (by omega) g
      have e : (rootN x * 2 + 2) * (rootN x * 2 + 2) = (rootN x + 1) * (rootN x + 1) * 4 := by
        rw [show rootN x * 2 + 2 = (rootN x + 1) * 2 by omega, show (4 : Int) = 2 * 2 from rfl]; ac_rfl
      omega
  have t1 : rootN x * 2 < full := by omega
  have h6 := sub_any (hiOf (rootN (x * 4))) (loOf (rootN (x * 4))) (hiOf (rootN x * 2)) (loOf (rootN x * 2)) (hiOf_u _) (loOf_u _) (hiOf_u _) (loOf_u _)
  rw [val_hiLo b0 b1, val_hiLo (by omega) t1, show decide (rootN (x * 4) < rootN x * 2) = false by simp; omega] at h6
  have sq4 : rootN x * 2 * (rootN x * 2) = rootN x * rootN x * 4 := by rw [show (4 : Int) = 2 * 2 from rfl]; ac_rfl
  by_cases e : rootN (x * 4) = rootN x * 2
  · rw [e, Int.sub_self, show hiOf 0 = 0 from rfl, show loOf 0 = 0 from rfl] at h6
    have ee : exactN (x * 4) = exactN x := by
      unfold exactN; rw [e, sq4, Bool.eq_iff_iff, beq_iff_eq, beq_iff_eq]; omega
    rw [ee, e] at h4
    cases hex : exactN x with
    | true =>
      rw [hex] at h2 h4
      exact four6_exact _ _ _ _ _ _ _ _ _ _ _ _ _ _ _ _ _ _ (Lib.hid h1) (Lib.hid h2) (Lib.hid h3) (Lib.hid h4) (Lib.hid h5) (Lib.hid h6) CN w
    | false =>
      rw [hex] at h2 h4
      exact four6_zero _ _ _ _ _ _ _ _ _ _ _ _ _ _ _ _ _ _ (Lib.hid h1) (Lib.hid h2) (Lib.hid h3) (Lib.hid h4) (Lib.hid h5) (Lib.hid h6) CN w
  · have e1 : rootN (x * 4) = rootN x * 2 + 1 := by omega
    rw [e1, show rootN x * 2 + 1 - rootN x * 2 = 1 by omega, show hiOf 1 = 0 from rfl, show loOf 1 = 1 from rfl] at h6
    have n1 : exactN (x * 4) = false := by
      unfold exactN; rw [e1]; simp; rw [Int.mul_add, Int.add_mul, sq4]; omega
    have n2 : exactN x = false := by
      unfold exactN; simp
      intro g
      have : rootN (x * 4) = rootN x * 2 := by
        refine rootN_of (by omega) x1 ⟨by omega, by omega, ?_⟩
        rw [Int.pow_zero, Int.mul_add, Int.add_mul, sq4]; omega
      omega
    rw [n1, e1] at h4
    rw [n2] at h2
    exact four6_one _ _ _ _ _ _ _ _ _ _ _ _ _ _ _ _ _ _ (Lib.hid h1) (Lib.hid h2) (Lib.hid h3) (Lib.hid h4) (Lib.hid h5) (Lib.hid h6) CN w


theorem four6_law (C : RootOK) (a0 a1 a2 a3 : Int) (ua0 : U64 a0) (ua1 : U64 a1) (ua2 : U64 a2) (ua3 : U64 a3) (w : World) :
    Calls Try.prog 7 #[.agg #[.int .u64 a0, .int .u64 a1, .int .u64 a2, .int .u64 a3]] w fun e w' => e = .returned (.bool true) ∧ Below w.heap.size w w' := by
  have h := four6_walk C (wval a0 a1 a2 a3) w
  obtain ⟨e0, e1, e2, e3⟩ := wd_wval ua0 ua1 ua2 ua3
  rw [e0, e1, e2, e3] at h
  exact h


end Go.Proofs.Ytbibinmjipcdjaa
