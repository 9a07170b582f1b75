/-
  RootBetween over digits.
-/
import Derived.Test.YtbibinmjipcdjaaBetween6
import Derived.Test.YtbibinmjipcdjaaMath6
set_option linter.unusedVariables false
set_option linter.unusedSimpArgs false
set_option maxRecDepth 100000
namespace Go.Proofs.Ytbibinmjipcdjaa
open Go.RowKit
attribute [local go_sem ↓] Go.wp_at_zero Go.wp_at_succ

theorem between6_walk (C : RootOK) (A : Int) (w : World) :
    Calls Try.prog 4 #[.agg #[.int .u64 (wd0 (A)), .int .u64 (wd1 (A)), .int .u64 (wd2 (A)), .int .u64 (wd3 (A))]] w fun e w' => e = .returned (.bool true) ∧ Below w.heap.size w w' := by
  obtain ⟨r0, r1⟩ := mod_w A
  obtain ⟨q0, q1, q2, q3⟩ := root_range r0 r1
  have hr := C.root A
  have EXD : exactN (A % wfull) = (rootN (A % wfull) * rootN (A % wfull) == A % wfull) := rfl
  obtain ⟨s0, s1, _⟩ := sq_lt_w q0 q1
  have hm := mulW (rootN (A % wfull)) (rootN (A % wfull))
  rw [Int.emod_eq_of_lt q0 q1] at hm
  have ha := addB (rootN (A % wfull)) 1
  rw [one_hl6.1, one_hl6.2, Int.emod_eq_of_lt q0 q1, show (1 : Int) % full = 1 from by decide +kernel] at ha
  have hc := cmpW (rootN (A % wfull) * rootN (A % wfull)) A
  rw [Int.emod_eq_of_lt s0 s1] at hc
  have CN := Lib.hid (goes6_any C)
  have EX := eql_of s0 s1 r0 r1 _ EXD.symm
  obtain ⟨m0, m1, m2, m3⟩ := wd_mod A
  rw [m0, m1, m2, m3] at EX
  have d1 : decide (0 < cmpI (rootN (A % wfull) * rootN (A % wfull)) (A % wfull)) = false := by rw [cmp6_gt]; simp; omega
  by_cases g : full ≤ rootN (A % wfull) + 1
  · rw [show decide (full ≤ rootN (A % wfull) + 1) = true by simp [g]] at ha
    exact between6_carry _ _ _ _ _ _ _ _ _ _ _ _ _ _ (Lib.hid hr) (Lib.hid hm) (Lib.hid ha) (Lib.hid hc) CN d1 EX w
  · rw [show decide (full ≤ rootN (A % wfull) + 1) = false by simp; omega] at ha
    have t0 : 0 ≤ rootN (A % wfull) + 1 := by omega
    have t1 : rootN (A % wfull) + 1 < full := by omega
    obtain ⟨n0, n1, _⟩ := sq_lt_w t0 t1
    have hn := mulW (rootN (A % wfull) + 1) (rootN (A % wfull) + 1)
    rw [Int.emod_eq_of_lt t0 t1] at hn
    have hd := cmpW ((rootN (A % wfull) + 1) * (rootN (A % wfull) + 1)) A
    rw [Int.emod_eq_of_lt n0 n1] at hd
    exact between6_plain _ _ _ _ _ _ _ _ _ _ _ _ _ _ _ _ _ _ _ (Lib.hid hr) (Lib.hid hm) (Lib.hid ha) (Lib.hid hc) (Lib.hid hn) (Lib.hid hd) CN d1 (by rw [cmp6_gt]; simp; omega) EX w


theorem between6_law (C : RootOK) (a0 a1 a2 a3 : Int) (ua0 : U64 a0) (ua1 : U64 a1) (ua2 : U64 a2) (ua3 : U64 a3) (w : World) :
    Calls Try.prog 4 #[.agg #[.int .u64 a0, .int .u64 a1, .int .u64 a2, .int .u64 a3]] w fun e w' => e = .returned (.bool true) ∧ Below w.heap.size w w' := by
  have h := between6_walk C (wval a0 a1 a2 a3) w
  obtain ⟨e0, e1, e2, e3⟩ := wd_wval ua0 ua1 ua2 ua3
  rw [e0, e1, e2, e3] at h
  exact h


end Go.Proofs.Ytbibinmjipcdjaa
