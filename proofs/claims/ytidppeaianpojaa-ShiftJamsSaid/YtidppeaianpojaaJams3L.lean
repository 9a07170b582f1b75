/-
  ShiftJams over digits.
-/
import Derived.Test.YtidppeaianpojaaJams3N
import Derived.Test.YtidppeaianpojaaJams3O
import Derived.Test.YtidppeaianpojaaJams3U
import Derived.Test.YtidppeaianpojaaMath3
set_option linter.unusedVariables false
set_option linter.unusedSimpArgs false
namespace Go.Proofs.Ytidppeaianpojaa
open Go.RowKit
attribute [local go_sem ↓] Go.wp_at_zero Go.wp_at_succ

theorem and_odd {v : Int} (h : U64 v) (ho : v % 2 = 1) : bits .and .u64 v 1 = 1 := by rw [and_one h, ho]
theorem wd0_odd {q : Int} (ho : q % 2 = 1) : wd0 q % 2 = 1 := by unfold wd0; omega
theorem wzeroE {x : Int} (h0 : 0 ≤ x) (h1 : x < wfull) (r : Bool) (hr : decide (x = 0) = r) (w : World) : (binOp .eql 34 (.agg #[.int .u64 (wd0 (x)), .int .u64 (wd1 (x)), .int .u64 (wd2 (x)), .int .u64 (wd3 (x))]) (.agg #[.int .u64 0, .int .u64 0, .int .u64 0, .int .u64 0])).run Try.prog w = .ok (.bool r) w := by
  subst hr
  rw [eql_wide]
  have h := wd_inj h0 h1 (show (0 : Int) ≤ 0 by decide) (show (0 : Int) < wfull by decide +kernel)
  rw [show wd0 0 = 0 from rfl, show wd1 0 = 0 from rfl, show wd2 0 = 0 from rfl, show wd3 0 = 0 from rfl] at h
  congr 2
  rw [decide_eq_decide]; exact h
theorem jams3_walk (A n : Int) (hn : -9223372036854775808 ≤ n ∧ n ≤ 9223372036854775807) (w : World) :
    Calls Try.prog 6 #[.agg #[.int .u64 (wd0 (A)), .int .u64 (wd1 (A)), .int .u64 (wd2 (A)), .int .u64 (wd3 (A))], .int .i64 n] w fun e w' => e = .returned (.bool true) ∧ Below w.heap.size w w' := by
  obtain ⟨r0, r1⟩ := mod_w A
  have d := div_back (A % wfull) n.toNat r0
  have j := jam_lt r0 r1 wfull_even n.toNat
  have h1 := wrightW A n hn.1 hn.2
  have h2 := wjamW A n hn.1 hn.2
  have h4 := lostW A n hn.1 hn.2
  have jz := jam_zero r0 n.toNat
  have EA := wzeroE r0 r1 _ rfl
  obtain ⟨m0, m1, m2, m3⟩ := wd_mod A
  rw [m0, m1, m2, m3] at EA
  have EY := wzeroE j.1 j.2 (decide (A % wfull = 0)) (by rw [decide_eq_decide]; exact jz)
  have e0 : ∀ q : Int, wd0 (q - q) = 0 ∧ wd1 (q - q) = 0 ∧ wd2 (q - q) = 0 ∧ wd3 (q - q) = 0 := fun q => by rw [Int.sub_self]; exact ⟨rfl, rfl, rfl, rfl⟩
  have n0 : ∀ w, (binOp .neq 34 (.agg #[.int .u64 0, .int .u64 0, .int .u64 0, .int .u64 0]) (.agg #[.int .u64 0, .int .u64 0, .int .u64 0, .int .u64 0])).run Try.prog w = .ok (.bool false) w := fun w => neq_of_eql (eqw3 0 0 0 0 w)
  by_cases hl : A % wfull % 2 ^ n.toNat = 0
  · have ej : jamN (A % wfull) n.toNat = A % wfull / 2 ^ n.toNat := by unfold jamN; rw [if_pos hl]
    rw [show (A % wfull % 2 ^ n.toNat != 0) = false by simp [hl]] at h4
    rw [ej] at h2 EY
    have h3 := subW (A % wfull / 2 ^ n.toNat) (A % wfull / 2 ^ n.toNat)
    obtain ⟨z0, z1, z2, z3⟩ := e0 (A % wfull / 2 ^ n.toNat)
    rw [z0, z1, z2, z3, show decide (A % wfull / 2 ^ n.toNat % wfull < A % wfull / 2 ^ n.toNat % wfull) = false by simp] at h3
    exact jams3_no _ _ _ _ _ _ _ _ n _ (Lib.hid h1) (Lib.hid h2) (Lib.hid h3) (Lib.hid h4) EY EA n0 (fun w => neq_of_eql (eqw3 _ _ _ _ w)) w
  · rw [show (A % wfull % 2 ^ n.toNat != 0) = true by simp [hl]] at h4
    by_cases ho : A % wfull / 2 ^ n.toNat % 2 = 1
    · have ej : jamN (A % wfull) n.toNat = A % wfull / 2 ^ n.toNat := by unfold jamN; rw [if_neg hl]; omega
      rw [ej] at h2 EY
      have h3 := subW (A % wfull / 2 ^ n.toNat) (A % wfull / 2 ^ n.toNat)
      obtain ⟨z0, z1, z2, z3⟩ := e0 (A % wfull / 2 ^ n.toNat)
      rw [z0, z1, z2, z3, show decide (A % wfull / 2 ^ n.toNat % wfull < A % wfull / 2 ^ n.toNat % wfull) = false by simp] at h3
      exact jams3_odd _ _ _ _ _ _ _ _ n _ (Lib.hid h1) (Lib.hid h2) (Lib.hid h3) (Lib.hid h4) EY EA n0 (and_odd (wd0_u _) (wd0_odd ho)) w
    · have ej : jamN (A % wfull) n.toNat = A % wfull / 2 ^ n.toNat + 1 := by unfold jamN; rw [if_neg hl]; omega
      rw [ej] at h2 EY j
      have h3 := subW (A % wfull / 2 ^ n.toNat + 1) (A % wfull / 2 ^ n.toNat)
      rw [show A % wfull / 2 ^ n.toNat + 1 - A % wfull / 2 ^ n.toNat = 1 by omega, show wd0 1 = 1 from rfl, show wd1 1 = 0 from rfl, show wd2 1 = 0 from rfl, show wd3 1 = 0 from rfl,
        Int.emod_eq_of_lt j.1 j.2, Int.emod_eq_of_lt d.1 (show A % wfull / 2 ^ n.toNat < wfull by omega), show decide (A % wfull / 2 ^ n.toNat + 1 < A % wfull / 2 ^ n.toNat) = false by simp; omega] at h3
      exact jams3_up _ _ _ _ _ _ _ _ _ _ _ _ n _ (Lib.hid h1) (Lib.hid h2) (Lib.hid h3) (Lib.hid h4) EY EA (fun w => neq_of_eql (b := false) (by rw [eql_wide]; rfl)) (fun w => neq_of_eql (eqw3 1 0 0 0 w)) (and_odd (wd0_u _) (wd0_odd (by omega))) w
theorem jams3_law (a0 a1 a2 a3 n : Int) (ua0 : U64 a0) (ua1 : U64 a1) (ua2 : U64 a2) (ua3 : U64 a3) (hn : -9223372036854775808 ≤ n ∧ n ≤ 9223372036854775807) (w : World) :
    Calls Try.prog 6 #[.agg #[.int .u64 a0, .int .u64 a1, .int .u64 a2, .int .u64 a3], .int .i64 n] w fun e w' => e = .returned (.bool true) ∧ Below w.heap.size w w' := by
  have h := jams3_walk (wval a0 a1 a2 a3) n hn w
  obtain ⟨e0, e1, e2, e3⟩ := wd_wval ua0 ua1 ua2 ua3
  rw [e0, e1, e2, e3] at h
  exact h


end Go.Proofs.Ytidppeaianpojaa
