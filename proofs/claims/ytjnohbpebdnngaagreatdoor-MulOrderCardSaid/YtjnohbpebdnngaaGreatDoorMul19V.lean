/-
  Products of two numbers of a format, by the numbers' sizes; plain arithmetic.
-/
import Derived.Test.YtjnohbpebdnngaaGreatDoorMul19M
import Derived.Test.YtjnohbpebdnngaaGreatDoorAdd18F
set_option linter.unusedVariables false
set_option linter.unusedSimpArgs false
set_option maxRecDepth 100000
namespace Go.Proofs.YtjnohbpebdnngaaGreatDoor
open Go.RowKit

/-- By the numbers' sizes. -/
theorem ml_val {f m a b : Int} {ng : Bool} (f0 : 0 ≤ f) (hf : f < 4) (a0 : 0 ≤ a) (b0 : 0 ≤ b) (ca : clsF f a ≤ 2) (cb : clsF f b ≤ 2) :
    pkB f m ng (mlE f a b) (mlS f a b) = dcB f m ng (vF f a * vF f b) (-2199023256062) false ∧ ∀ t, pkFl f m t ng (mlE f a b) (mlS f a b) = dcFl f m t ng (vF f a * vF f b) (-2199023256062) false := by
  obtain ⟨v, m0, m1, x0, x1⟩ := vF_val f0 hf a0 ca
  obtain ⟨w, n0, n1, y0, y1⟩ := vF_val f0 hf b0 cb
  obtain ⟨p0, p1, p2, p3, p4, p5, p6, p7, p8⟩ := f_nums f0 hf
  obtain ⟨e1, e2⟩ := ml_exact (m := m) (ng := ng) f0 hf a0 b0 ca cb
  obtain ⟨c1, c2⟩ := dc_scale (f := f) (m := m) (q := uM f a * uM f b) (E := uX f a + uX f b) (ng := ng) ((uX f a + 1099511628031).toNat + (uX f b + 1099511628031).toNat) (Int.mul_nonneg m0 n0)
  rw [show uX f a + uX f b - (((uX f a + 1099511628031).toNat + (uX f b + 1099511628031).toNat : Nat) : Int) = -2199023256062 by omega] at c1 c2
  have k : vF f a * vF f b = uM f a * uM f b * 2 ^ ((uX f a + 1099511628031).toNat + (uX f b + 1099511628031).toNat) := by
    rw [v, w, Int.pow_add]
    simp only [Int.mul_assoc, Int.mul_left_comm]
  rw [k]
  exact ⟨e1.trans c1.symm, fun t => (e2 t).trans (c2 t).symm⟩
theorem ml_dcE {f a b : Int} (f0 : 0 ≤ f) (hf : f < 4) (a0 : 0 ≤ a) (b0 : 0 ≤ b) (ca : clsF f a = 1 ∨ clsF f a = 2) (cb : clsF f b = 1 ∨ clsF f b = 2) : 0 < vF f a * vF f b ∧ uE f a + uE f b ≤ dcE (vF f a * vF f b) (-2199023256062) ∧ dcE (vF f a * vF f b) (-2199023256062) ≤ uE f a + uE f b + 1 := by
  obtain ⟨va, da⟩ := vF_dcE f0 hf a0 ca
  obtain ⟨vb, db⟩ := vF_dcE f0 hf b0 cb
  unfold dcE at da db ⊢
  have pa := blen_pos va; have pb := blen_pos vb
  have la := blen_low va; have lb := blen_low vb
  have ua := lt_blen (vF f a) (by omega); have ub := lt_blen (vF f b) (by omega)
  refine ⟨Int.mul_pos va vb, ?_, ?_⟩
  · have h1 : (2 : Int) ^ (blen (vF f a) - 1) * 2 ^ (blen (vF f b) - 1) ≤ vF f a * vF f b := Int.mul_le_mul la lb (by have := two_pow_pos (blen (vF f b) - 1); omega) (by omega)
    rw [← Int.pow_add] at h1
    have := blen_above h1
    omega
  · have h1 : vF f a * vF f b < 2 ^ blen (vF f a) * 2 ^ blen (vF f b) := by
      have h1 : vF f a * vF f b ≤ 2 ^ blen (vF f a) * vF f b := Int.mul_le_mul_of_nonneg_right (by omega) (by omega)
      have h2 : (2 : Int) ^ blen (vF f a) * vF f b < 2 ^ blen (vF f a) * 2 ^ blen (vF f b) := Int.mul_lt_mul_of_pos_left ub (two_pow_pos _)
      omega
    rw [← Int.pow_add] at h1
    have := blen_le (Int.mul_nonneg (show 0 ≤ vF f a by omega) (show 0 ≤ vF f b by omega)) h1
    omega

end Go.Proofs.YtjnohbpebdnngaaGreatDoor
