/-
  Small arithmetic. No Go in sight.
-/
import Derived.Test.YthoffjogpmkjkaaWideM
namespace Go.Proofs.Ythoffjogpmkjkaa

theorem cmpI_lt (x y : Int) : decide (cmpI x y < 0) = decide (x < y) := by
  have c := cmpI_cases x y
  rw [Bool.eq_iff_iff]; simp only [decide_eq_true_eq]
  rcases Int.lt_trichotomy x y with h | h | h
  · rw [c.1 h]; simp [h]
  · rw [c.2.2 h]; simp; omega
  · rw [c.2.1 h]; simp; omega
theorem mod_full (n : Int) : 0 ≤ n % full ∧ n % full < full := ⟨Int.emod_nonneg n (by decide), Int.emod_lt_of_pos n (by decide)⟩
theorem mod_wfull (n : Int) : 0 ≤ n % wfull ∧ n % wfull < wfull := ⟨Int.emod_nonneg n (by decide), Int.emod_lt_of_pos n (by decide)⟩

end Go.Proofs.Ythoffjogpmkjkaa
