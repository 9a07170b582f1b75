/-
  Products of two numbers of a format: noughts and infinities; plain arithmetic.
-/
import Derived.Test.YtjnohbpebdnngaaGreatDoorMul19F
import Derived.Test.YtjnohbpebdnngaaGreatDoorMul19L
set_option linter.unusedVariables false
set_option linter.unusedSimpArgs false
set_option maxRecDepth 100000
namespace Go.Proofs.YtjnohbpebdnngaaGreatDoor
open Go.RowKit

/-- A nought. -/
theorem ml_nought {f m a z : Int} (f0 : 0 ≤ f) (hf : f < 4) (hm : m < 5) (a0 : 0 ≤ a) (a1 : a < full) (z0 : 0 ≤ z) (z1 : z < full) (cz : clsF f z = 0) (na : nanF f a = false) :
    (clsF f a = 3 → mlB f m a z = defF f ∧ ∀ t, mlFl f m t a z = 1) ∧ (clsF f a ≠ 3 → mlB f m a z = makeF f (mlN f a z) 0 0 ∧ ∀ t, mlFl f m t a z = 0) := by
  have c4 : clsF f a ≤ 3 := by unfold nanF at na; have := of_decide_eq_false na; omega
  have nz : nanF f z = false := by unfold nanF; rw [cz]; rfl
  obtain ⟨e1, e2⟩ := ml_some (m := m) hf hm a0 a1 z0 z1 na nz
  constructor
  · intro h
    have i : mlI f a z = true := by unfold mlI badC; rw [decide_eq_true]; omega
    rw [e1, i, if_pos rfl]
    exact ⟨rfl, fun t => by rw [e2, i, if_pos rfl]⟩
  · intro h
    have i : mlI f a z = false := by unfold mlI badC; rw [decide_eq_false]; omega
    have s : mlS f a z = 0 := by rw [mlS_eq, (u_none (f := f) (b := z) (by omega)).2, Int.mul_zero]
    rw [e1, i, if_neg (by decide), if_neg (by omega), s, (pk_zero hf hm).1]
    exact ⟨rfl, fun t => by rw [e2, i, if_neg (by decide), if_neg (by omega), s, (pk_zero hf hm).2]⟩
/-- An infinity. -/
theorem ml_by_inf {f m a i : Int} (f0 : 0 ≤ f) (hf : f < 4) (hm : m < 5) (a0 : 0 ≤ a) (a1 : a < full) (i0 : 0 ≤ i) (i1 : i < full) (ci : clsF f i = 3) (na : nanF f a = false) :
    (clsF f a = 0 → mlB f m a i = defF f ∧ ∀ t, mlFl f m t a i = 1) ∧ (clsF f a ≠ 0 → mlB f m a i = infF f (mlN f a i) ∧ ∀ t, mlFl f m t a i = 0) := by
  have c4 : clsF f a ≤ 3 := by unfold nanF at na; have := of_decide_eq_false na; omega
  have rc := cls_range f a
  have ni : nanF f i = false := by unfold nanF; rw [ci]; rfl
  obtain ⟨e1, e2⟩ := ml_some (m := m) hf hm a0 a1 i0 i1 na ni
  constructor
  · intro h
    have k : mlI f a i = true := by unfold mlI badC; rw [decide_eq_true]; omega
    rw [e1, k, if_pos rfl]
    exact ⟨rfl, fun t => by rw [e2, k, if_pos rfl]⟩
  · intro h
    have k : mlI f a i = false := by unfold mlI badC; rw [decide_eq_false]; omega
    rw [e1, k, if_neg (by decide), if_pos (.inr ci)]
    exact ⟨rfl, fun t => by rw [e2, k, if_neg (by decide), if_pos (.inr ci)]⟩

/-! ### sizes, infinities among them -/
theorem inf_fields {f b : Int} (hf : f < 4) (c : clsF f b = 3) : expF f b = 2 * fE f + 1 ∧ fracF f b = 0 := by
  unfold clsF at c; rw [if_pos hf] at c
  split at c
  · split at c <;> omega
  · split at c
    · split at c
      · rename_i a' b' c'; exact ⟨b', c'⟩
      · split at c <;> omega
    · omega
def sizeF (f b : Int) : Prop := plainF f b ∨ b = infF f false
theorem sz_size {f b : Int} (f0 : 0 ≤ f) (hf : f < 4) (b0 : 0 ≤ b) (na : nanF f b = false) : sizeF f (szF f b) := by
  have c4 : clsF f b ≤ 3 := by unfold nanF at na; have := of_decide_eq_false na; omega
  by_cases c : clsF f b = 3
  · right
    obtain ⟨x, y⟩ := inf_fields hf c
    unfold szF infF; rw [x, y]
  · left; exact (sz_same f0 hf b0 (by omega)).1
theorem plain_inf {f b : Int} (f0 : 0 ≤ f) (hf : f < 4) (p : plainF f b) : b < infF f false := by
  obtain ⟨b0, b1, c, n, k⟩ := p
  obtain ⟨x0, x1, x2, x3⟩ := exp_range f0 hf b0
  have ms := make_split f0 hf b0
  rw [n, k] at ms
  have cr := cls_range f b
  have ne : expF f b ≠ 2 * fE f + 1 := by
    intro h; unfold clsF at c; rw [if_pos hf, if_neg (by omega), if_pos h] at c; split at c
    · omega
    · split at c <;> omega
  have := make_le_max (k := fracF f b) f0 hf x0 (show expF f b ≤ 2 * fE f by omega)
  rw [ms] at this
  rw [max_inf f0 hf]; omega
theorem ml_le_inf {f m a b : Int} (f0 : 0 ≤ f) (hf : f < 4) (hm : m < 5) (a0 : 0 ≤ a) (a1 : a < full) (b0 : 0 ≤ b) (b1 : b < full) (ca : clsF f a ≤ 2) (cb : clsF f b ≤ 2) (n : mlN f a b = false) : mlB f m a b ≤ infF f false := by
  obtain ⟨er0, er1, sr0, sr1⟩ := ml_range (f := f) f0 a0 b0
  rw [(ml_fin (m := m) f0 hf hm a0 a1 b0 b1 ca cb).1, n]
  by_cases z : mlS f a b = 0
  · rw [z, (pk_zero hf hm).1, nought_val f0 hf, if_neg (by decide)]
    exact (make_full f0 (f := f) false (2 * fE f + 1) 0).1
  · rw [(pk_num hf hm z).1]
    obtain ⟨s0, s1⟩ := pkS_range (show 0 < mlS f a b by omega) sr1
    exact (num_range (e := pkE (mlE f a b) (mlS f a b)) f0 hf hm s0 s1).2
/-- Sizes that are no less make a product that is no less. -/
theorem order_all {f m lo hi z : Int} (f0 : 0 ≤ f) (hf : f < 4) (hm : m < 5) (l : sizeF f lo) (h : sizeF f hi) (pz : plainF f z) (cz : clsF f z ≠ 0) (le : lo ≤ hi) : mlB f m lo z ≤ mlB f m hi z := by
  have rz := cls_range f z
  have inf : ∀ b, b = infF f false → mlB f m b z = infF f false := fun b hb => by
    have g : 0 ≤ infF f false ∧ infF f false < full := make_full f0 (f := f) false (2 * fE f + 1) 0
    obtain ⟨c, n⟩ := inf_cls f0 hf false
    obtain ⟨z0, z1, z2, z3, z4⟩ := pz
    subst hb
    rw [(ml_inf (m := m) hf hm g.1 g.2 z0 z1 c (by omega)).1, show mlN f (infF f false) z = false by unfold mlN; rw [n, z3]; rfl]
  rcases h with h | h
  · rcases l with l | l
    · exact order_ml f0 hf hm l h pz cz le
    · have := plain_inf f0 hf h; omega
  · rw [inf hi h]
    rcases l with l | l
    · obtain ⟨l0, l1, l2, l3, l4⟩ := l
      obtain ⟨z0, z1, z2, z3, z4⟩ := pz
      exact ml_le_inf f0 hf hm l0 l1 z0 z1 l2 z2 (by unfold mlN; rw [l3, z3]; rfl)
    · rw [inf lo l]; exact Int.le_refl _

end Go.Proofs.YtjnohbpebdnngaaGreatDoor
