/-
  RootOrder over digits.
-/
import Derived.Test.YtbibinmjipcdjaaOrder6N
import Derived.Test.YtbibinmjipcdjaaOrder6Y
import Derived.Test.YtbibinmjipcdjaaMath6
set_option linter.unusedVariables false
set_option linter.unusedSimpArgs false
set_option maxRecDepth 100000
namespace Go.Proofs.Ytbibinmjipcdjaa
open Go.RowKit
attribute [local go_sem ↓] Go.wp_at_zero Go.wp_at_succ

theorem order6_walk (C : RootOK) (A B : Int) (w : World) :
    Calls Try.prog 6 #[.agg #[.int .u64 (wd0 (A)), .int .u64 (wd1 (A)), .int .u64 (wd2 (A)), .int .u64 (wd3 (A))], .agg #[.int .u64 (wd0 (B)), .int .u64 (wd1 (B)), .int .u64 (wd2 (B)), .int .u64 (wd3 (B))]] w fun e w' => e = .returned (.bool true) ∧ Below w.heap.size w w' := by
  obtain ⟨r0, r1⟩ := mod_w A
  obtain ⟨s0, s1⟩ := mod_w B
  have qa := root_range r0 r1
  have qb := root_range s0 s1
  have hA := C.root A
  have hB := C.root B
  have hc := cmpW A B
  have CN := Lib.hid (goes6_any C)
  by_cases h : B % wfull < A % wfull
  · have hd := cmpB (rootN (B % wfull)) (rootN (A % wfull))
    rw [Int.emod_eq_of_lt qa.1 qa.2.1, Int.emod_eq_of_lt qb.1 qb.2.1] at hd
    have hl := root_le s0 (Int.le_of_lt h) r1
    exact order6_yes _ _ _ _ _ _ _ _ _ _ _ _ _ _ _ _ (Lib.hid hc) (Lib.hid hB) (Lib.hid hA) (Lib.hid hd) CN (by rw [cmp6_gt]; simp [h]) (by rw [cmp6_le]; simp [hl]) w
  · have hd := cmpB (rootN (A % wfull)) (rootN (B % wfull))
    rw [Int.emod_eq_of_lt qa.1 qa.2.1, Int.emod_eq_of_lt qb.1 qb.2.1] at hd
    have hl := root_le r0 (Int.not_lt.1 h) s1
    exact order6_no _ _ _ _ _ _ _ _ _ _ _ _ _ _ _ _ (Lib.hid hc) (Lib.hid hA) (Lib.hid hB) (Lib.hid hd) CN (by rw [cmp6_gt]; simp; omega) (by rw [cmp6_le]; simp [hl]) w
theorem order6_law (C : RootOK) (a0 a1 a2 a3 b0 b1 b2 b3 : Int) (ua0 : U64 a0) (ua1 : U64 a1) (ua2 : U64 a2) (ua3 : U64 a3) (ub0 : U64 b0) (ub1 : U64 b1) (ub2 : U64 b2) (ub3 : U64 b3) (w : World) :
    Calls Try.prog 6 #[.agg #[.int .u64 a0, .int .u64 a1, .int .u64 a2, .int .u64 a3], .agg #[.int .u64 b0, .int .u64 b1, .int .u64 b2, .int .u64 b3]] w fun e w' => e = .returned (.bool true) ∧ Below w.heap.size w w' := by
  have h := order6_walk C (wval a0 a1 a2 a3) (wval b0 b1 b2 b3) w
  obtain ⟨e0, e1, e2, e3⟩ := wd_wval ua0 ua1 ua2 ua3
  obtain ⟨f0, f1, f2, f3⟩ := wd_wval ub0 ub1 ub2 ub3
  rw [e0, e1, e2, e3, f0, f1, f2, f3] at h
  exact h


end Go.Proofs.Ytbibinmjipcdjaa
