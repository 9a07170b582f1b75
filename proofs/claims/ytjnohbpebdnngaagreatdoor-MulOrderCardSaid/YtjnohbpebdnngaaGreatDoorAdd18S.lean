/-
  Encodings without their signs; plain arithmetic.
-/
import Derived.Test.YtjnohbpebdnngaaGreatDoorAdd18F
set_option linter.unusedVariables false
set_option linter.unusedSimpArgs false
set_option maxRecDepth 100000
namespace Go.Proofs.YtjnohbpebdnngaaGreatDoor
open Go.RowKit

/-- An encoding without its sign. -/
def szF (f b : Int) : Int := makeF f false (expF f b) (fracF f b)
theorem sz_full {f b : Int} (f0 : 0 ≤ f) : 0 ≤ szF f b ∧ szF f b < full := make_full f0 _ _ _
/-- What a finite number without sign is. -/
def plainF (f b : Int) : Prop := 0 ≤ b ∧ b < full ∧ clsF f b ≤ 2 ∧ negF f b = false ∧ cutF f b = b
theorem sz_same {f b : Int} (f0 : 0 ≤ f) (hf : f < 4) (b0 : 0 ≤ b) (c : clsF f b ≤ 2) : plainF f (szF f b) ∧ vF f (szF f b) = vF f b := by
  obtain ⟨x0, x1, x2, x3⟩ := exp_range f0 hf b0
  obtain ⟨r0, r1⟩ := frac_range (b := b) f0 hf
  obtain ⟨e1, e2, e3⟩ := make_fields f0 hf false (expF f b) (fracF f b)
  rw [expOf_id f0 hf x0 x1] at e1
  rw [Int.emod_eq_of_lt r0 r1] at e2
  have cc := cls_congr (f := f) e1 e2
  have m : uM f (szF f b) = uM f b := by unfold uM szF; rw [e1, e2]
  have x : uX f (szF f b) = uX f b := by unfold uX szF; rw [e1]
  have cz : clsF f (szF f b) = clsF f b := cc
  obtain ⟨_, _, _, _, q5, q6⟩ := make_parts f0 hf false (expF f b) (fracF f b)
  obtain ⟨s0, s1⟩ := sz_full (f := f) (b := b) f0
  refine ⟨⟨s0, s1, by omega, e3, ?_⟩, ?_⟩
  · unfold cutF szF; exact Int.emod_eq_of_lt q5 q6
  · unfold vF uE uS; rw [cz, m, x]
theorem dcE_bounds {f q : Int} (f0 : 0 ≤ f) (hf : f < 4) (hu : (2 : Int) ^ ulpF f ∣ q) (q0 : 0 ≤ q) (q1 : q < 2 ^ (topF + 1)) : (0 < q → -20000 ≤ dcE q (-1099511628031)) ∧ dcE q (-1099511628031) ≤ 20000 := by
  obtain ⟨p0, p1, p2, p3, p4, p5, p6, p7, p8⟩ := f_nums f0 hf
  have u := ulpF_eq f0 hf
  have l := blen_le q0 q1
  constructor
  · intro h
    have := blen_above (Int.le_of_dvd h hu)
    unfold dcE; omega
  · unfold topF at l; unfold dcE; omega
theorem vF_below {f b : Int} (f0 : 0 ≤ f) (b0 : 0 ≤ b) : vF f b < 2 ^ (topF + 1) := by
  have := vF_top (f := f) f0 b0
  have e2 : (2 : Int) ^ (topF + 1) = 2 ^ topF * 2 := Int.pow_succ ..
  have := two_pow_pos topF
  omega
/-- Greater encodings are greater numbers. -/
theorem sz_mono {f lo hi : Int} (f0 : 0 ≤ f) (hf : f < 4) (l : plainF f lo) (h : plainF f hi) (le : lo ≤ hi) : vF f lo ≤ vF f hi := by
  obtain ⟨l0, l1, l2, l3, l4⟩ := l
  obtain ⟨h0, h1, h2, h3, h4⟩ := h
  apply Classical.byContradiction; intro k
  have vl := vF_nonneg f0 l0; have vh := vF_nonneg f0 h0
  obtain ⟨a1, a2⟩ := dcE_bounds f0 hf (vF_unit f0 hf l0 l2) vl (vF_below f0 l0)
  obtain ⟨b1, b2⟩ := dcE_bounds f0 hf (vF_unit f0 hf h0 h2) vh (vF_below f0 h0)
  have M := dc_mono (m := 4) (E := -1099511628031) f0 vh (show vF f hi ≤ vF f lo by omega) (fun q => by have := b1 q; omega) (fun q => by have := a1 q; omega) (by omega)
  have s1 := (dc_same (m := 4) f0 hf (by decide) l0 l2).1
  have s2 := (dc_same (m := 4) f0 hf (by decide) h0 h2).1
  rw [l3, l4] at s1
  rw [h3, h4] at s2
  rw [s1, s2] at M
  have : lo = hi := by omega
  rw [this] at k; exact k (Int.le_refl _)

end Go.Proofs.YtjnohbpebdnngaaGreatDoor
