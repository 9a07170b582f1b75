/-
  Products of two numbers of a format: order; plain arithmetic.
-/
import Derived.Test.YtjnohbpebdnngaaGreatDoorMul19S
import Derived.Test.YtjnohbpebdnngaaGreatDoorMul19V
import Derived.Test.YtjnohbpebdnngaaGreatDoorAdd18S
set_option linter.unusedVariables false
set_option linter.unusedSimpArgs false
set_option maxRecDepth 100000
namespace Go.Proofs.YtjnohbpebdnngaaGreatDoor
open Go.RowKit

/-! ### order -/
theorem order_ml {f m lo hi z : Int} (f0 : 0 ≤ f) (hf : f < 4) (hm : m < 5) (l : plainF f lo) (h : plainF f hi) (pz : plainF f z) (cz : clsF f z ≠ 0) (le : lo ≤ hi) : mlB f m lo z ≤ mlB f m hi z := by
  have v := sz_mono f0 hf l h le
  obtain ⟨l0, l1, l2, l3, l4⟩ := l
  obtain ⟨h0, h1, h2, h3, h4⟩ := h
  obtain ⟨z0, z1, z2, z3, z4⟩ := pz
  have rl := cls_range f lo; have rh := cls_range f hi; have rz := cls_range f z
  have cz' : clsF f z = 1 ∨ clsF f z = 2 := by omega
  have vz := vF_nonneg f0 z0; have vl := vF_nonneg f0 l0; have vh := vF_nonneg f0 h0
  have n1 : mlN f lo z = false := by unfold mlN; rw [l3, z3]; rfl
  have n2 : mlN f hi z = false := by unfold mlN; rw [h3, z3]; rfl
  rw [(ml_fin f0 hf hm l0 l1 z0 z1 l2 z2).1, (ml_fin f0 hf hm h0 h1 z0 z1 h2 z2).1, n1, n2, (ml_val f0 hf l0 z0 l2 z2).1, (ml_val f0 hf h0 z0 h2 z2).1]
  have zz : ∀ b, 0 ≤ b → clsF f b ≤ 2 → 0 < vF f b * vF f z → clsF f b = 1 ∨ clsF f b = 2 := fun b b0 b2 p => by
    have rb := cls_range f b
    apply Classical.byContradiction; intro k
    rw [(vF_zero f0 hf b0 b2).2 (by omega), Int.zero_mul] at p; omega
  have el := uE_range (f := f) f0 l0; have eh := uE_range (f := f) f0 h0; have ez := uE_range (f := f) f0 z0
  refine dc_mono f0 (Int.mul_nonneg vl vz) (Int.mul_le_mul_of_nonneg_right v vz) (fun p => ?_) (fun p => ?_) ?_
  · have := ml_dcE f0 hf l0 z0 (zz lo l0 l2 p) cz'; omega
  · have := ml_dcE f0 hf h0 z0 (zz hi h0 h2 p) cz'; omega
  · by_cases p : 0 < vF f hi * vF f z
    · have := ml_dcE f0 hf h0 z0 (zz hi h0 h2 p) cz'; omega
    · have e : vF f hi * vF f z = 0 := by have := Int.mul_nonneg vh vz; omega
      rw [e]; decide
/-! ### sizes, infinities among them -/
theorem inf_fields {f b : Int} (hf : f < 4) (c : clsF f b = 3) : expF f b = 2 * fE f + 1 ∧ fracF f b = 0 := by
  unfold clsF at c; rw [if_pos hf] at c
  split at c
  · split at c <;> omega
  · split at c
    · split at c
      · rename_i a' b' c'; exact ⟨b', c'⟩
      · split at c <;> omega
    · omega
def sizeF (f b : Int) : Prop := plainF f b ∨ b = infF f false
theorem sz_size {f b : Int} (f0 : 0 ≤ f) (hf : f < 4) (b0 : 0 ≤ b) (na : nanF f b = false) : sizeF f (szF f b) := by
  have c4 : clsF f b ≤ 3 := by unfold nanF at na; have := of_decide_eq_false na; omega
  by_cases c : clsF f b = 3
  · right
    obtain ⟨x, y⟩ := inf_fields hf c
    unfold szF infF; rw [x, y]
  · left; exact (sz_same f0 hf b0 (by omega)).1
theorem plain_inf {f b : Int} (f0 : 0 ≤ f) (hf : f < 4) (p : plainF f b) : b < infF f false := by
  obtain ⟨b0, b1, c, n, k⟩ := p
  obtain ⟨x0, x1, x2, x3⟩ := exp_range f0 hf b0
  have ms := make_split f0 hf b0
  rw [n, k] at ms
  have cr := cls_range f b
  have ne : expF f b ≠ 2 * fE f + 1 := by
    intro h; unfold clsF at c; rw [if_pos hf, if_neg (by omega), if_pos h] at c; split at c
    · omega
    · split at c <;> omega
  have := make_le_max (k := fracF f b) f0 hf x0 (show expF f b ≤ 2 * fE f by omega)
  rw [ms] at this
  rw [max_inf f0 hf]; omega
theorem ml_le_inf {f m a b : Int} (f0 : 0 ≤ f) (hf : f < 4) (hm : m < 5) (a0 : 0 ≤ a) (a1 : a < full) (b0 : 0 ≤ b) (b1 : b < full) (ca : clsF f a ≤ 2) (cb : clsF f b ≤ 2) (n : mlN f a b = false) : mlB f m a b ≤ infF f false := by
  obtain ⟨er0, er1, sr0, sr1⟩ := ml_range (f := f) f0 a0 b0
  rw [(ml_fin (m := m) f0 hf hm a0 a1 b0 b1 ca cb).1, n]
  by_cases z : mlS f a b = 0
  · rw [z, (pk_zero hf hm).1, nought_val f0 hf, if_neg (by decide)]
    exact (make_full f0 (f := f) false (2 * fE f + 1) 0).1
  · rw [(pk_num hf hm z).1]
    obtain ⟨s0, s1⟩ := pkS_range (show 0 < mlS f a b by omega) sr1
    exact (num_range (e := pkE (mlE f a b) (mlS f a b)) f0 hf hm s0 s1).2
/-- Sizes that are no less make a product that is no less. -/
theorem order_all {f m lo hi z : Int} (f0 : 0 ≤ f) (hf : f < 4) (hm : m < 5) (l : sizeF f lo) (h : sizeF f hi) (pz : plainF f z) (cz : clsF f z ≠ 0) (le : lo ≤ hi) : mlB f m lo z ≤ mlB f m hi z := by
  have rz := cls_range f z
  have inf : ∀ b, b = infF f false → mlB f m b z = infF f false := fun b hb => by
    have g : 0 ≤ infF f false ∧ infF f false < full := make_full f0 (f := f) false (2 * fE f + 1) 0
    obtain ⟨c, n⟩ := inf_cls f0 hf false
    obtain ⟨z0, z1, z2, z3, z4⟩ := pz
    subst hb
    rw [(ml_inf (m := m) hf hm g.1 g.2 z0 z1 c (by omega)).1, show mlN f (infF f false) z = false by unfold mlN; rw [n, z3]; rfl]
  rcases h with h | h
  · rcases l with l | l
    · exact order_ml f0 hf hm l h pz cz le
    · have := plain_inf f0 hf h; omega
  · rw [inf hi h]
    rcases l with l | l
    · obtain ⟨l0, l1, l2, l3, l4⟩ := l
      obtain ⟨z0, z1, z2, z3, z4⟩ := pz
      exact ml_le_inf f0 hf hm l0 l1 z0 z1 l2 z2 (by unfold mlN; rw [l3, z3]; rfl)
    · rw [inf lo l]; exact Int.le_refl _

end Go.Proofs.YtjnohbpebdnngaaGreatDoor
