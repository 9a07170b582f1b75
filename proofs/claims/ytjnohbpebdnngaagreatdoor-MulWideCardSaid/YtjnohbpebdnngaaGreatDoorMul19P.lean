/-
  A number of a format in the next wider one.
-/
import Derived.Test.YtjnohbpebdnngaaGreatDoorMul19F
import Derived.Test.YtjnohbpebdnngaaGreatDoorGdA
set_option linter.unusedVariables false
set_option linter.unusedSimpArgs false
set_option maxRecDepth 100000
namespace Go.Proofs.YtjnohbpebdnngaaGreatDoor
open Go.RowKit

theorem wide_pack {f a : Int} (f0 : 0 ≤ f) (hf : f ≤ 2) (a0 : 0 ≤ a) (ca : clsF f a ≤ 2) : ∀ A, packV (f + 1) (negF f a) (clsF f a) (uE f a) (uS f a) = A →
    0 ≤ A ∧ A < full ∧ clsF (f + 1) A ≤ 2 ∧ negF (f + 1) A = negF f a ∧ uE (f + 1) A = uE f a ∧ uS (f + 1) A = uS f a := by
  intro A hA
  have cr := cls_range f a
  obtain ⟨s0, s1⟩ := uS_range (f := f) f0 a0
  obtain ⟨g0, g1⟩ := packV_full (show 0 ≤ f + 1 by omega) (negF f a) (clsF f a) (uE f a) (uS f a)
  rw [hA] at g0 g1
  refine ⟨g0, g1, ?_⟩
  by_cases c : clsF f a = 1 ∨ clsF f a = 2
  · obtain ⟨k, _⟩ := fit_wider f0 hf a0 c
    have kk := packK_yes (f := f + 1) (c := clsF f a) (e := uE f a) (s := uS f a) ⟨by omega, .inr (.inr ⟨c, k⟩)⟩
    unfold packV at hA
    rw [kk, if_pos rfl, if_neg (by omega), if_neg (by omega)] at hA
    obtain ⟨u1, u2, u3, u4, _⟩ := un_pack (show 0 ≤ f + 1 by omega) (by omega) (negF f a) k s1 A hA
    exact ⟨by omega, u4, u2, u3⟩
  · have z : clsF f a = 0 := by omega
    have kk := packK_yes (f := f + 1) (c := clsF f a) (e := uE f a) (s := uS f a) ⟨by omega, .inl z⟩
    unfold packV at hA
    rw [kk, if_pos rfl, if_pos z] at hA
    obtain ⟨n1, n2⟩ := nought_cls (f := f + 1) (by omega) (by omega) (negF f a)
    rw [hA] at n1 n2
    have u := u_none (f := f) (b := a) c
    have w := u_none (f := f + 1) (b := A) (by omega)
    exact ⟨by omega, n2, by rw [w.1, u.1], by rw [w.2, u.2]⟩


end Go.Proofs.YtjnohbpebdnngaaGreatDoor
