/-
  Numbers of the four formats: widths, precisions, ends; fields; plain arithmetic.
-/
import Derived.Test.YtfcffmihhpcjjaaDoorGsA
import Derived.Test.YtfcffmihhpcjjaaDoorGcA
set_option linter.unusedVariables false
set_option linter.unusedSimpArgs false
set_option maxRecDepth 100000
namespace Go.Proofs.YtfcffmihhpcjjaaDoor
open Go.RowKit

def fW (f : Int) : Nat := if f = 0 then 16 else if f = 1 then 32 else if f = 2 then 64 else if f = 3 then 128 else 0
def fP (f : Int) : Nat := if f = 0 then 11 else if f = 1 then 24 else if f = 2 then 53 else if f = 3 then 113 else 0
def fE (f : Int) : Nat := if f = 0 then 15 else if f = 1 then 127 else if f = 2 then 1023 else if f = 3 then 16383 else 0
/-- The lowest bits, as many as the format has. -/
def cutF (f b : Int) : Int := b % 2 ^ fW f
def negF (f b : Int) : Bool := decide (b / 2 ^ (fW f - 1) % 2 = 1) && decide (f < 4)
def expF (f b : Int) : Int := if f < 4 then b % 2 ^ (fW f - 1) / 2 ^ (fP f - 1) else 0
def fracF (f b : Int) : Int := if f < 4 then b % 2 ^ (fP f - 1) else 0
def expOf (f e : Int) : Int := if e < 0 ∨ 1048576 < e then 0 else e % 2 ^ (fW f - fP f)
def makeF (f : Int) (neg : Bool) (e frac : Int) : Int := if f < 4 then expOf f e * 2 ^ (fP f - 1) + frac % 2 ^ (fP f - 1) + (if neg then 2 ^ (fW f - 1) else 0) else 0
def infF (f : Int) (neg : Bool) : Int := makeF f neg (2 * fE f + 1) 0
def maxF (f : Int) (neg : Bool) : Int := makeF f neg (2 * fE f) (2 ^ (fP f - 1) - 1)

theorem f_cases {f : Int} (h0 : 0 ≤ f) (h : f < 4) : f = 0 ∨ f = 1 ∨ f = 2 ∨ f = 3 := by omega
theorem fW_no {f : Int} (h : ¬ f < 4) : fW f = 0 := by unfold fW; rw [if_neg (by omega), if_neg (by omega), if_neg (by omega), if_neg (by omega)]
theorem fP_no {f : Int} (h : ¬ f < 4) : fP f = 0 := by unfold fP; rw [if_neg (by omega), if_neg (by omega), if_neg (by omega), if_neg (by omega)]
theorem fE_no {f : Int} (h : ¬ f < 4) : fE f = 0 := by unfold fE; rw [if_neg (by omega), if_neg (by omega), if_neg (by omega), if_neg (by omega)]
/-- What the four have in common. -/
theorem f_nums {f : Int} (h0 : 0 ≤ f) (h : f < 4) : 11 ≤ fP f ∧ fP f < fW f ∧ fW f ≤ 128 ∧ fW f - fP f ≤ 15 ∧ 5 ≤ fW f - fP f ∧ (2 : Int) ^ (fW f - fP f) = 2 * fE f + 2 ∧ fE f ≤ 16383 ∧ 15 ≤ fE f ∧ fP f ≤ 113 := by
  rcases f_cases h0 h with rfl | rfl | rfl | rfl <;> decide +kernel
theorem pow_split2 {a b : Nat} (h : a ≤ b) : (2 : Int) ^ b = 2 ^ a * 2 ^ (b - a) := by rw [← Int.pow_add, show a + (b - a) = b by omega]
theorem expOf_range {f : Int} (h0 : 0 ≤ f) (h : f < 4) (e : Int) : 0 ≤ expOf f e ∧ expOf f e < 2 ^ (fW f - fP f) := by
  have hp := two_pow_pos (fW f - fP f)
  unfold expOf
  split
  · omega
  · exact ⟨Int.emod_nonneg _ (by omega), Int.emod_lt_of_pos _ hp⟩
/-- The parts of what is made: sizes. -/
theorem make_parts {f : Int} (h0 : 0 ≤ f) (h : f < 4) (neg : Bool) (e frac : Int) :
    0 ≤ frac % 2 ^ (fP f - 1) ∧ frac % 2 ^ (fP f - 1) < 2 ^ (fP f - 1) ∧
    0 ≤ expOf f e * 2 ^ (fP f - 1) + frac % 2 ^ (fP f - 1) ∧ expOf f e * 2 ^ (fP f - 1) + frac % 2 ^ (fP f - 1) < 2 ^ (fW f - 1) ∧
    0 ≤ makeF f neg e frac ∧ makeF f neg e frac < 2 ^ fW f := by
  obtain ⟨e0, e1⟩ := expOf_range h0 h e
  obtain ⟨p0, p1, p2, _⟩ := f_nums h0 h
  have hp := two_pow_pos (fP f - 1)
  have r0 := Int.emod_nonneg frac (show (2 : Int) ^ (fP f - 1) ≠ 0 by omega)
  have r1 := Int.emod_lt_of_pos frac hp
  have s : (2 : Int) ^ (fW f - 1) = 2 ^ (fP f - 1) * 2 ^ (fW f - fP f) := by rw [← Int.pow_add, show fP f - 1 + (fW f - fP f) = fW f - 1 by omega]
  have sum := mul_add_lt hp e0 e1 r0 r1
  rw [Int.mul_comm _ (expOf f e), ← s] at sum
  have sW : (2 : Int) ^ fW f = 2 * 2 ^ (fW f - 1) := by rw [← Int.pow_succ', show fW f - 1 + 1 = fW f by omega]
  refine ⟨r0, r1, sum.1, sum.2, ?_, ?_⟩
  · unfold makeF; rw [if_pos h]; have := two_pow_pos (fW f - 1); split <;> omega
  · unfold makeF; rw [if_pos h]; have := two_pow_pos (fW f - 1); split <;> omega
theorem makeF_zero {f : Int} (h : ¬ f < 4) (neg : Bool) (e frac : Int) : makeF f neg e frac = 0 := by unfold makeF; rw [if_neg h]

end Go.Proofs.YtfcffmihhpcjjaaDoor
