/-
  Products of two numbers of a format: no order; signs; plain arithmetic.
-/
import Derived.Test.YtjnohbpebdnngaaGreatDoorMul19M
import Derived.Test.YtjnohbpebdnngaaGreatDoorAdd18L
set_option linter.unusedVariables false
set_option linter.unusedSimpArgs false
set_option maxRecDepth 100000
namespace Go.Proofs.YtjnohbpebdnngaaGreatDoor
open Go.RowKit

/-- What comes of two that are no NaNs. -/
theorem ml_some {f m a b : Int} (hf : f < 4) (hm : m < 5) (a0 : 0 ≤ a) (a1 : a < full) (b0 : 0 ≤ b) (b1 : b < full) (na : nanF f a = false) (nb : nanF f b = false) :
    mlB f m a b = (if mlI f a b then defF f else if clsF f a = 3 ∨ clsF f b = 3 then infF f (mlN f a b) else pkB f m (mlN f a b) (mlE f a b) (mlS f a b)) ∧
    ∀ t, mlFl f m t a b = (if mlI f a b then 1 else if clsF f a = 3 ∨ clsF f b = 3 then 0 else pkFl f m t (mlN f a b) (mlE f a b) (mlS f a b)) := by
  obtain ⟨an, fv⟩ := any_two a0 a1 b0 b1 na nb
  unfold mlB mlFl
  simp only [if_pos (show f < 4 ∧ m < 5 from ⟨hf, hm⟩)]
  cases mlI f a b with
  | true =>
    obtain ⟨k1, k2, k3⟩ := pick_inv hf [a, b]
    simp only [k1, k2, k3, fv, if_pos (rfl : true = true)]
    exact ⟨trivial, fun _ => trivial⟩
  | false =>
    obtain ⟨k1, k2, k3⟩ := pick_none (f := f) [a, b] an
    simp only [k3, if_neg (show ¬ (false = true) by decide)]
    exact ⟨trivial, fun _ => trivial⟩
/-- Classes, exponents, digits and the answer's sign are all that counts. -/
theorem ml_congr {f m a b a' b' : Int} (hf : f < 4) (hm : m < 5) (a0 : 0 ≤ a) (a1 : a < full) (b0 : 0 ≤ b) (b1 : b < full) (a0' : 0 ≤ a') (a1' : a' < full) (b0' : 0 ≤ b') (b1' : b' < full) (na : nanF f a = false) (nb : nanF f b = false)
    (ca : clsF f a' = clsF f a) (ea : uE f a' = uE f a) (sa : uS f a' = uS f a) (cb : clsF f b' = clsF f b) (eb : uE f b' = uE f b) (sb : uS f b' = uS f b) (hn : mlN f a' b' = mlN f a b) :
    mlB f m a' b' = mlB f m a b ∧ ∀ t, mlFl f m t a' b' = mlFl f m t a b := by
  obtain ⟨e1, e2⟩ := ml_some (m := m) hf hm a0 a1 b0 b1 na nb
  obtain ⟨g1, g2⟩ := ml_some (m := m) hf hm a0' a1' b0' b1' (by unfold nanF at *; rw [ca]; exact na) (by unfold nanF at *; rw [cb]; exact nb)
  have i : mlI f a' b' = mlI f a b := by unfold mlI; rw [ca, cb]
  have e : mlE f a' b' = mlE f a b := by unfold mlE; rw [ca, cb, ea, eb]
  have s : mlS f a' b' = mlS f a b := by unfold mlS; rw [ca, cb, sa, sb]
  rw [e1, g1, i, e, s, ca, cb, hn]
  refine ⟨rfl, fun t => ?_⟩
  rw [e2, g2, i, e, s, ca, cb, hn]
theorem ml_comm {f m a b : Int} (hf : f < 4) (hm : m < 5) (a0 : 0 ≤ a) (a1 : a < full) (b0 : 0 ≤ b) (b1 : b < full) (na : nanF f a = false) (nb : nanF f b = false) : mlB f m b a = mlB f m a b ∧ ∀ t, mlFl f m t b a = mlFl f m t a b := by
  obtain ⟨e1, e2⟩ := ml_some (m := m) hf hm a0 a1 b0 b1 na nb
  obtain ⟨g1, g2⟩ := ml_some (m := m) hf hm b0 b1 a0 a1 nb na
  have i : mlI f b a = mlI f a b := badC_turn ..
  have o : (clsF f b = 3 ∨ clsF f a = 3) ↔ (clsF f a = 3 ∨ clsF f b = 3) := Or.comm
  rw [e1, g1, i, mlN_turn, mlE_turn, mlS_turn]
  simp only [o]
  refine ⟨trivial, fun t => ?_⟩
  rw [e2, g2, i, mlN_turn, mlE_turn, mlS_turn]
  simp only [o]
/-- Both signs turned. -/
theorem ml_turn2 {f m a b : Int} (f0 : 0 ≤ f) (hf : f < 4) (hm : m < 5) (a0 : 0 ≤ a) (a1 : a < full) (b0 : 0 ≤ b) (b1 : b < full) (na : nanF f a = false) (nb : nanF f b = false) : mlB f m (turnF f a) (turnF f b) = mlB f m a b ∧ ∀ t, mlFl f m t (turnF f a) (turnF f b) = mlFl f m t a b := by
  obtain ⟨ta, ea, sa, ga⟩ := turn_same f0 hf a0
  obtain ⟨tb, eb, sb, gb⟩ := turn_same f0 hf b0
  obtain ⟨ta0, ta1⟩ := turn_full (f := f) (b := a) f0
  obtain ⟨tb0, tb1⟩ := turn_full (f := f) (b := b) f0
  exact ml_congr hf hm a0 a1 b0 b1 ta0 ta1 tb0 tb1 na nb ta ea sa tb eb sb (by unfold mlN; rw [ga, gb]; cases negF f a <;> cases negF f b <;> rfl)
/-- One sign turned, the mode mirrored. -/
theorem ml_turn {f m a b : Int} (f0 : 0 ≤ f) (hf : f < 4) (hm : m < 5) (a0 : 0 ≤ a) (a1 : a < full) (b0 : 0 ≤ b) (b1 : b < full) (na : nanF f a = false) (nb : nanF f b = false) : ∀ x y, mlB f m a b = x → mlB f (mirM m) (turnF f a) b = y →
    0 ≤ x ∧ x < full ∧ 0 ≤ y ∧ y < full ∧ (∀ t, mlFl f (mirM m) t (turnF f a) b = mlFl f m t a b) ∧ ((nanF f x = true ∧ y = x) ∨ (nanF f x = false ∧ y = turnF f x)) := by
  intro x y hx hy
  have m5 : mirM m < 5 := by have := mir_known m; rw [decide_eq_decide] at this; exact this.2 hm
  obtain ⟨ta, ea, sa, ga⟩ := turn_same f0 hf a0
  obtain ⟨ta0, ta1⟩ := turn_full (f := f) (b := a) f0
  have na' : nanF f (turnF f a) = false := by unfold nanF at *; rw [ta]; exact na
  obtain ⟨e1, e2⟩ := ml_some (m := m) hf hm a0 a1 b0 b1 na nb
  obtain ⟨g1, g2⟩ := ml_some (m := mirM m) hf m5 ta0 ta1 b0 b1 na' nb
  have ii : mlI f (turnF f a) b = mlI f a b := by unfold mlI; rw [ta]
  have EE : mlE f (turnF f a) b = mlE f a b := by unfold mlE; rw [ta, ea]
  have SS : mlS f (turnF f a) b = mlS f a b := by unfold mlS; rw [ta, sa]
  have NN : mlN f (turnF f a) b = !mlN f a b := by unfold mlN; rw [ga]; cases negF f a <;> cases negF f b <;> rfl
  obtain ⟨er0, er1, sr0, sr1⟩ := ml_range (f := f) f0 a0 b0
  rw [e1] at hx
  rw [g1, ii, ta, EE, SS, NN] at hy
  rw [ii, ta, EE, SS, NN] at g2
  cases hi : mlI f a b with
  | true =>
    rw [hi, if_pos rfl] at hx hy
    have d := def_full f0 (f := f)
    have dc := (def_cls f0 hf).1
    rw [← hx, ← hy]
    refine ⟨d.1, d.2, d.1, d.2, fun t => ?_, .inl ⟨by unfold nanF; rw [dc]; rfl, rfl⟩⟩
    rw [g2, e2, hi, if_pos rfl, if_pos rfl]
  | false =>
    have inf : ∀ g : Bool, 0 ≤ infF f g ∧ infF f g < full ∧ nanF f (infF f g) = false := fun g => by
      have := make_full f0 (f := f) g (2 * fE f + 1) 0
      exact ⟨this.1, this.2, by unfold nanF; rw [(inf_cls f0 hf g).1]; rfl⟩
    simp only [hi, if_neg (show ¬ (false = true) by decide)] at hx hy g2 e2
    by_cases c3 : clsF f a = 3 ∨ clsF f b = 3
    · simp only [if_pos c3] at hx hy g2 e2
      rw [← hx, ← hy]
      exact ⟨(inf _).1, (inf _).2.1, (inf _).1, (inf _).2.1, fun t => by rw [g2, e2], .inr ⟨(inf _).2.2, (turn_make f0 hf _ _ _).symm⟩⟩
    · simp only [if_neg c3] at hx hy g2 e2
      obtain ⟨p1, p2⟩ := pk_turn (ex := mlE f a b) (x := mlS f a b) (mlN f a b) f0 hf hm sr0 sr1
      obtain ⟨v0, v1, v2, v3⟩ := pk_class (ex := mlE f a b) (ng := mlN f a b) f0 hf hm sr0 sr1
      rw [p1, hx] at hy
      rw [hx] at v0 v1 v3
      obtain ⟨w0, w1⟩ := turn_full (f := f) (b := x) f0
      rw [hy] at w0 w1
      refine ⟨v0, v1, w0, w1, fun t => by rw [g2, e2]; exact p2 t, .inr ⟨by unfold nanF; rw [decide_eq_false]; rcases v3 with h | ⟨h, _⟩ <;> omega, hy.symm⟩⟩

end Go.Proofs.YtjnohbpebdnngaaGreatDoor
