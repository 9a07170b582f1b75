import Derived.Test.YtjdjonekoodalaaGreatDoorGvA
set_option linter.unusedVariables false
set_option linter.unusedSimpArgs false
set_option maxRecDepth 100000
namespace Go.Proofs.YtjdjonekoodalaaGreatDoor
open Go.RowKit
theorem pick_full {f : Int} (f0 : 0 ≤ f) (i : Bool) (xs : List Int) : 0 ≤ pickV f i xs ∧ pickV f i xs < full := by
  unfold pickV; split
  · exact first_full f0 xs
  · exact ⟨by decide, by decide⟩
theorem ml_fullA {f m a b : Int} (f0 : 0 ≤ f) (hf : f < 4) (hm : m < 5) (a0 : 0 ≤ a) (a1 : a < full) (b0 : 0 ≤ b) (b1 : b < full) : 0 ≤ mlB f m a b ∧ mlB f m a b < full := by
  unfold mlB
  rw [if_pos ⟨hf, hm⟩]
  split
  · exact pick_full f0 _ _
  · split
    · exact make_full f0 (f := f) _ (2 * fE f + 1) 0
    · obtain ⟨_, _, s0, s1⟩ := ml_range (f := f) f0 a0 b0
      have := pk_class (m := m) (ex := mlE f a b) (ng := mlN f a b) f0 hf hm s0 s1
      exact ⟨this.1, this.2.1⟩
end Go.Proofs.YtjdjonekoodalaaGreatDoor
