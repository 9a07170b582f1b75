import Derived.Test.YtjdjonekoodalaaGreatDoorGtE
set_option linter.unusedVariables false
set_option linter.unusedSimpArgs false
set_option maxRecDepth 100000
namespace Go.Proofs.YtjdjonekoodalaaGreatDoor
open Go.RowKit
theorem ad_pos {f m a b : Int} (f0 : 0 ≤ f) (hf : f < 4) (hm : m < 5) (pa : plainF f a) (pb : plainF f b) : adB f m a b false = dcB f m false (vF f a + vF f b) (-1099511628031) false ∧ (2 : Int) ^ ulpF f ∣ vF f a + vF f b ∧ 0 ≤ vF f a + vF f b ∧ vF f a + vF f b < 2 ^ (topF + 1) := by
  obtain ⟨a0, a1, a2, a3, a4⟩ := pa
  obtain ⟨b0, b1, b2, b3, b4⟩ := pb
  obtain ⟨e1, _⟩ := ad_fin (m := m) (s := false) f0 hf hm a0 a1 b0 b1 a2 b2
  obtain ⟨d1, _, d3⟩ := ad_exact (m := m) (ng := false) (s := false) f0 a0 b0
  have n : adN f m a b false = false := by
    unfold adN noM adT; rw [a3, if_pos rfl, if_pos rfl]; split <;> rfl
  have x : adX f a b false = vF f a + vF f b := by unfold adX; rw [if_pos a3]
  have r := adX_range false f0 a0 b0
  rw [x] at r d1
  refine ⟨by rw [e1, n, d1], Int.dvd_add (vF_unit f0 hf a0 a2) (vF_unit f0 hf b0 b2), r.1, r.2.1⟩
end Go.Proofs.YtjdjonekoodalaaGreatDoor
