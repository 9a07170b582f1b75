import Derived.Test.YtnlmceafleeaiaaGreatDoorGvA
import Derived.Test.YtnlmceafleeaiaaGreatDoorAdd18F
import Derived.Test.YtnlmceafleeaiaaGreatDoorRest0
set_option linter.unusedVariables false
set_option linter.unusedSimpArgs false
set_option maxRecDepth 100000
namespace Go.Proofs.YtnlmceafleeaiaaGreatDoor
open Go.RowKit
theorem ml_some {f m a b : Int} (hf : f < 4) (hm : m < 5) (a0 : 0 ≤ a) (a1 : a < full) (b0 : 0 ≤ b) (b1 : b < full) (na : nanF f a = false) (nb : nanF f b = false) :
    mlB f m a b = (if mlI f a b then defF f else if clsF f a = 3 ∨ clsF f b = 3 then infF f (mlN f a b) else pkB f m (mlN f a b) (mlE f a b) (mlS f a b)) ∧
    ∀ t, mlFl f m t a b = (if mlI f a b then 1 else if clsF f a = 3 ∨ clsF f b = 3 then 0 else pkFl f m t (mlN f a b) (mlE f a b) (mlS f a b)) := by
  obtain ⟨an, fv⟩ := any_two a0 a1 b0 b1 na nb
  unfold mlB mlFl
  simp only [if_pos (show f < 4 ∧ m < 5 from ⟨hf, hm⟩)]
  cases mlI f a b with
  | true =>
    obtain ⟨k1, k2, k3⟩ := pick_inv hf [a, b]
    simp only [k1, k2, k3, fv, if_pos (rfl : true = true)]
    exact ⟨trivial, fun _ => trivial⟩
  | false =>
    obtain ⟨k1, k2, k3⟩ := pick_none (f := f) [a, b] an
    simp only [k3, if_neg (show ¬ (false = true) by decide)]
    exact ⟨trivial, fun _ => trivial⟩
theorem ml_inf {f m a o : Int} (hf : f < 4) (hm : m < 5) (a0 : 0 ≤ a) (a1 : a < full) (o0 : 0 ≤ o) (o1 : o < full) (c3 : clsF f a = 3) (oc : clsF f o = 1 ∨ clsF f o = 2 ∨ clsF f o = 3) : mlB f m a o = infF f (mlN f a o) ∧ ∀ t, mlFl f m t a o = 0 := by
  obtain ⟨e1, e2⟩ := ml_some (m := m) hf hm a0 a1 o0 o1 (by unfold nanF; rw [c3]; rfl) (by unfold nanF; rw [decide_eq_false]; omega)
  have i : mlI f a o = false := by unfold mlI badC; rw [decide_eq_false]; omega
  rw [e1, i, if_neg (by decide), if_pos (.inl c3)]
  exact ⟨rfl, fun t => by rw [e2, i, if_neg (by decide), if_pos (.inl c3)]⟩
end Go.Proofs.YtnlmceafleeaiaaGreatDoor
