import Derived.Laws.EntriesVeiled
import Derived.Test.YtjdjonekoodalaaGreatDoorFma20N
import Derived.Test.YtjdjonekoodalaaGreatDoorGtE
set_option linter.unusedVariables false
set_option linter.unusedSimpArgs false
set_option maxRecDepth 100000
namespace Go.Proofs.YtjdjonekoodalaaGreatDoor
open Go.RowKit
theorem ad_full23 {f m a b : Int} {s : Bool} (f0 : 0 ≤ f) (hf : f < 4) (hm : m < 5) (a0 : 0 ≤ a) (b0 : 0 ≤ b) : 0 ≤ adB f m a b s ∧ adB f m a b s < full := by
  unfold adB
  rw [if_pos ⟨hf, hm⟩]
  split
  · exact pick_full f0 _ _
  · split
    · exact make_full f0 (f := f) _ (2 * fE f + 1) 0
    · split
      · exact make_full f0 (f := f) _ (2 * fE f + 1) 0
      · obtain ⟨_, _, s0, s1⟩ := ad_range (f := f) s f0 a0 b0
        have := pk_class (m := m) (ex := adE f a b s) (ng := adN f m a b s) f0 hf hm s0 s1
        exact ⟨this.1, this.2.1⟩
theorem pick_flags23 (f : Int) (i : Bool) (xs : List Int) : 0 ≤ pickF f i xs ∧ pickF f i xs ≤ 255 := by
  unfold pickF; split <;> exact ⟨by decide, by decide⟩
theorem pk_flags23 (f m : Int) (t ng : Bool) (e x : Int) : 0 ≤ pkFl f m t ng e x ∧ pkFl f m t ng e x ≤ 255 := by
  have ov : ∀ g n : Int, 0 ≤ overFl g n ∧ overFl g n ≤ 255 := fun g n => by
    unfold overFl
    by_cases h : g < 4 ∧ n < 5
    · rw [if_pos h]; exact ⟨by decide, by decide⟩
    · rw [if_neg h]; exact ⟨by decide, by decide⟩
  have c4 : ∀ (p : Prop) [Decidable p], 0 ≤ (if p then (24 : Int) else 16) ∧ (if p then (24 : Int) else 16) ≤ 255 := fun p _ => by
    split <;> exact ⟨by decide, by decide⟩
  unfold pkFl
  split
  · unfold numFl
    split
    · exact ov f m
    · split
      · exact ⟨by decide, by decide⟩
      · exact c4 _
  · exact ⟨by decide, by decide⟩
theorem ad_flags23 (f m : Int) (t : Bool) (a b : Int) (s : Bool) : 0 ≤ adFl f m t a b s ∧ adFl f m t a b s ≤ 255 := by
  unfold adFl
  split
  · split
    · exact pick_flags23 _ _ _
    · split
      · exact ⟨by decide, by decide⟩
      · split
        · exact ⟨by decide, by decide⟩
        · exact pk_flags23 _ _ _ _ _ _
  · exact ⟨by decide, by decide⟩
theorem ml_flags23 (f m : Int) (t : Bool) (a b : Int) : 0 ≤ mlFl f m t a b ∧ mlFl f m t a b ≤ 255 := by
  unfold mlFl
  split
  · split
    · exact pick_flags23 _ _ _
    · split
      · exact ⟨by decide, by decide⟩
      · exact pk_flags23 _ _ _ _ _ _
  · exact ⟨by decide, by decide⟩
end Go.Proofs.YtjdjonekoodalaaGreatDoor
