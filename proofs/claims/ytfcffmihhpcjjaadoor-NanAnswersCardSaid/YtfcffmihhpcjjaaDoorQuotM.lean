/-
  Arithmetic of quotients: an estimate of a digit of a quotient, and what becomes of it; long division bit by bit.
-/
import Derived.Test.YtfcffmihhpcjjaaDoorGsA
import Derived.Test.YtfcffmihhpcjjaaDoorGcA
set_option linter.unusedVariables false
set_option linter.unusedSimpArgs false
set_option maxRecDepth 100000
namespace Go.Proofs.YtfcffmihhpcjjaaDoor
open Go.RowKit

/-- What holds of an estimate q of the quotient Q, and of its rest r. -/
structure KInv (A un y1 y0 Q q r : Int) : Prop where
  sum : q * y1 + r = A
  ge : Q ≤ q
  r0 : 0 ≤ r
  q1 : q ≤ 4294967297
  Q0 : 0 ≤ Q
  Qy : Q * (y1 * 4294967296 + y0) ≤ A * 4294967296 + un
  Qn : A * 4294967296 + un < (Q + 1) * (y1 * 4294967296 + y0)
  Qs : Q < 4294967296
  a0 : 2147483648 ≤ y1
  a1 : y1 < 4294967296
  b0 : 0 ≤ y0
  b1 : y0 < 4294967296
  u0 : 0 ≤ un
  u1 : un < 4294967296
theorem mul_le_of {a b c : Int} (hc : 0 ≤ c) (h : a ≤ b) : a * c ≤ b * c := Int.mul_le_mul_of_nonneg_right h hc
theorem k_quot {A un Y : Int} (hY : 0 < Y) (hA0 : 0 ≤ A) (hA : A < Y) (u0 : 0 ≤ un) (u1 : un < 4294967296) :
    0 ≤ (A * 4294967296 + un) / Y ∧ (A * 4294967296 + un) / Y * Y ≤ A * 4294967296 + un ∧ A * 4294967296 + un < ((A * 4294967296 + un) / Y + 1) * Y ∧ (A * 4294967296 + un) / Y < 4294967296 := by
  have h1 := Int.emod_add_mul_ediv (A * 4294967296 + un) Y
  have h2 := Int.emod_nonneg (A * 4294967296 + un) (show Y ≠ 0 by omega)
  have h3 := Int.emod_lt_of_pos (A * 4294967296 + un) hY
  rw [Int.mul_comm Y] at h1
  refine ⟨Int.ediv_nonneg (by omega) (by omega), by omega, by rw [Int.add_mul]; omega, ?_⟩
  exact Int.ediv_lt_of_lt_mul hY (by omega)
theorem k_start {A un y1 y0 : Int} (a0 : 2147483648 ≤ y1) (a1 : y1 < 4294967296) (b0 : 0 ≤ y0) (b1 : y0 < 4294967296) (hA0 : 0 ≤ A) (hA : A < y1 * 4294967296 + y0) (u0 : 0 ≤ un) (u1 : un < 4294967296) :
    KInv A un y1 y0 ((A * 4294967296 + un) / (y1 * 4294967296 + y0)) (A / y1) (A - A / y1 * y1) ∧ A - A / y1 * y1 < 4294967296 := by
  obtain ⟨q0, q1, q2, q3⟩ := k_quot (Y := y1 * 4294967296 + y0) (by omega) hA0 hA u0 u1
  have h1 := Int.emod_add_mul_ediv A y1
  have h2 := Int.emod_nonneg A (show y1 ≠ 0 by omega)
  have h3 := Int.emod_lt_of_pos A (show 0 < y1 by omega)
  rw [Int.mul_comm y1] at h1
  generalize (A * 4294967296 + un) / (y1 * 4294967296 + y0) = Q at *
  refine ⟨⟨by omega, ?_, by omega, ?_, q0, q1, q2, q3, a0, a1, b0, b1, u0, u1⟩, by omega⟩
  · refine (Int.le_ediv_iff_mul_le (by omega)).2 ?_
    rw [Int.mul_add, ← Int.mul_assoc] at q1
    have := Int.mul_nonneg q0 b0
    omega
  · have : A / y1 < 4294967298 := Int.ediv_lt_of_lt_mul (by omega) (by omega)
    omega
theorem KInv.done {A un y1 y0 Q q r : Int} (h : KInv A un y1 y0 Q q r) (g : q * y0 ≤ 4294967296 * r + un) : q = Q := by
  obtain ⟨sum, ge, r0, q1, Q0, Qy, Qn, Qs, a0, a1, b0, b1, u0, u1⟩ := h
  have h1 : q * (y1 * 4294967296 + y0) ≤ A * 4294967296 + un := by rw [Int.mul_add, ← Int.mul_assoc]; omega
  have : q < Q + 1 := by
    refine Int.lt_of_mul_lt_mul_right (a := y1 * 4294967296 + y0) ?_ (by omega)
    omega
  omega
theorem KInv.less {A un y1 y0 Q q r : Int} (h : KInv A un y1 y0 Q q r) (hr : r < 4294967296) (g : 4294967296 ≤ q ∨ 4294967296 * r + un < q * y0) : KInv A un y1 y0 Q (q - 1) (r + y1) ∧ 1 ≤ q ∧ q - 1 ≤ 4294967296 := by
  obtain ⟨sum, ge, r0, q1, Q0, Qy, Qn, Qs, a0, a1, b0, b1, u0, u1⟩ := h
  have h1 : Q ≤ q - 1 := by
    rcases g with g | g
    · omega
    · rcases Int.lt_or_le Q q with h | h
      · omega
      · exfalso
        have h2 : q * (y1 * 4294967296 + y0) ≤ A * 4294967296 + un := Int.le_trans (mul_le_of (by omega) h) Qy
        rw [Int.mul_add, ← Int.mul_assoc] at h2
        omega
  exact ⟨⟨by rw [Int.sub_mul]; omega, h1, by omega, by omega, Q0, Qy, Qn, Qs, a0, a1, b0, b1, u0, u1⟩, by omega, by omega⟩
theorem KInv.out {A un y1 y0 Q q r : Int} (h : KInv A un y1 y0 Q q r) (hr : 4294967296 ≤ r) (hq : q ≤ 4294967296) : q = Q := by
  have q0 : 0 ≤ q := Int.le_trans h.Q0 h.ge
  refine h.done ?_
  have h1 : q * y0 ≤ 4294967296 * y0 := mul_le_of h.b0 hq
  have := h.b1; have := h.u0
  omega

/-! ### Long division, bit by bit -/

theorem div_bit (N D : Int) (k : Nat) (hN : 0 ≤ N) (hD : 0 < D) :
    let r := N / 2 ^ (k + 1) % D; let b := N / 2 ^ k % 2; let p : Int := if 2 * r + b < D then 0 else 1
    N / 2 ^ k / D = 2 * (N / 2 ^ (k + 1) / D) + p ∧ N / 2 ^ k % D = 2 * r + b - p * D ∧ 0 ≤ r ∧ r < D ∧ (b = 0 ∨ b = 1) ∧ (p = 0 ∨ p = 1) := by
  intro r b p
  have e : N / 2 ^ (k + 1) = N / 2 ^ k / 2 := by rw [Int.pow_succ, Int.ediv_ediv_of_nonneg (by have := two_pow_pos k; omega)]
  have hM : 0 ≤ N / 2 ^ k := Int.ediv_nonneg hN (by have := two_pow_pos k; omega)
  have hr : r = N / 2 ^ k / 2 % D := by show _ % D = _; rw [e]
  have hb : b = N / 2 ^ k % 2 := rfl
  have hp : p = if 2 * r + b < D then 0 else 1 := rfl
  rw [e]
  clear_value r b p
  generalize N / 2 ^ k = M at *
  have r0 := Int.emod_nonneg (M / 2) (show D ≠ 0 by omega)
  have r1 := Int.emod_lt_of_pos (M / 2) hD
  have r2 := Int.emod_add_mul_ediv (M / 2) D
  rw [← hr] at r0 r1 r2
  have hb2 : b = 0 ∨ b = 1 := by omega
  have hp2 : p = 0 ∨ p = 1 := by rw [hp]; split <;> simp
  have key : M = (2 * r + b - p * D) + D * (2 * (M / 2 / D) + p) := by
    have : M = 2 * (M / 2) + b := by omega
    have e2 : D * (2 * (M / 2 / D) + p) = 2 * (D * (M / 2 / D)) + p * D := by rw [Int.mul_add, Int.mul_left_comm, Int.mul_comm D p]
    omega
  have range : 0 ≤ 2 * r + b - p * D ∧ 2 * r + b - p * D < D := by
    rw [hp]; split
    · simp; omega
    · rw [Int.one_mul]; omega
  have u := (Int.ediv_emod_unique (a := M) (r := 2 * r + b - p * D) (q := 2 * (M / 2 / D) + p) hD).2 ⟨key.symm, range.1, range.2⟩
  exact ⟨u.1, u.2, r0, r1, hb2, hp2⟩

end Go.Proofs.YtfcffmihhpcjjaaDoor
