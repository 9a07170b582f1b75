/-
  Plain arithmetic of integer square roots. No Go in sight.
-/
import Derived.Test.YtbibinmjipcdjaaGsB
import Derived.Test.YtbibinmjipcdjaaGnB
set_option linter.unusedVariables false
set_option maxRecDepth 100000
namespace Go.Proofs.Ytbibinmjipcdjaa

def rt : Nat → Int → Int → Int
  | 0, _, r => r
  | k + 1, a, r => if (r + 2 ^ k) * (r + 2 ^ k) ≤ a then rt k a (r + 2 ^ k) else rt k a r
/-- The greatest integer whose square is at most a. -/
def rootN (a : Int) : Int := rt 128 a 0
theorem rt_spec (a : Int) : ∀ (k : Nat) (r : Int), RootAt a r k → RootAt a (rt k a r) 0 := by
  intro k
  induction k with
  | zero => intro r h; exact h
  | succ k ih =>
    intro r h
    unfold rt
    by_cases g : (r + 2 ^ k) * (r + 2 ^ k) ≤ a
    · rw [if_pos g]; exact ih _ (root_yes h g)
    · rw [if_neg g]; exact ih _ (root_no h (by omega))
theorem root_spec {a : Int} (h0 : 0 ≤ a) (h1 : a < wfull) : RootAt a (rootN a) 0 :=
  rt_spec a 128 0 ⟨by omega, by simpa using h0, by rw [Int.zero_add, show (2 : Int) ^ 128 * 2 ^ 128 = wfull from by decide +kernel]; exact h1⟩
theorem sq_le {r s : Int} (h0 : 0 ≤ r) (h : r ≤ s) : r * r ≤ s * s := Int.mul_le_mul h h h0 (by omega)
theorem root_mono' {a b r s : Int} (h : a ≤ b) (hr : RootAt a r 0) (hs : RootAt b s 0) : r ≤ s := by
  obtain ⟨r0, r1, r2⟩ := hr
  obtain ⟨s0, s1, s2⟩ := hs
  rcases Int.lt_or_le s r with g | g
  · exfalso
    have := sq_le (r := s + 2 ^ 0) (s := r) (by rw [Int.pow_zero]; omega) (by rw [Int.pow_zero]; omega)
    omega
  · exact g
theorem root_unique {a r s : Int} (hr : RootAt a r 0) (hs : RootAt a s 0) : r = s := by
  have h1 := root_mono' (Int.le_refl a) hr hs
  have h2 := root_mono' (Int.le_refl a) hs hr
  omega
theorem rootN_of {a r : Int} (h0 : 0 ≤ a) (h1 : a < wfull) (h : RootAt a r 0) : rootN a = r := root_unique (root_spec h0 h1) h
theorem root_range {a : Int} (h0 : 0 ≤ a) (h1 : a < wfull) : 0 ≤ rootN a ∧ rootN a < full ∧ rootN a * rootN a ≤ a ∧ a < (rootN a + 1) * (rootN a + 1) := by
  obtain ⟨r0, r1, r2⟩ := root_spec h0 h1
  rw [Int.pow_zero] at r2
  refine ⟨r0, ?_, r1, r2⟩
  rcases Int.lt_or_le (rootN a) full with g | g
  · exact g
  · exfalso
    have h2 := sq_le (r := full) (by decide) g
    rw [show full * full = wfull from by decide +kernel] at h2
    omega
theorem root_le {a b : Int} (h0 : 0 ≤ a) (h : a ≤ b) (h1 : b < wfull) : rootN a ≤ rootN b := root_mono' h (root_spec h0 (by omega)) (root_spec (by omega) h1)
theorem root_sq {r : Int} (h0 : 0 ≤ r) (h1 : r * r < wfull) : rootN (r * r) = r :=
  rootN_of (Int.mul_nonneg h0 h0) h1 ⟨h0, Int.le_refl _, by rw [Int.pow_zero, Int.mul_add, Int.add_mul]; omega⟩
theorem sq_lt_w {r : Int} (h0 : 0 ≤ r) (h1 : r < full) : 0 ≤ r * r ∧ r * r < wfull ∧ r * r ≤ (full - 1) * (full - 1) := by
  have h2 := sq_le h0 (show r ≤ full - 1 by omega)
  have h3 : (full - 1) * (full - 1) < wfull := by decide +kernel
  exact ⟨Int.mul_nonneg h0 h0, by omega, h2⟩
/-- What may stand in the root's place. -/
def exactN (a : Int) : Bool := rootN a * rootN a == a
end Go.Proofs.Ytbibinmjipcdjaa
