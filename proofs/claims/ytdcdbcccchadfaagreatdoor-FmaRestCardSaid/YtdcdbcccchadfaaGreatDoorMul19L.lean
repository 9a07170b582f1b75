import Derived.Test.YtdcdbcccchadfaaGreatDoorMul19M
import Derived.Test.YtdcdbcccchadfaaGreatDoorAdd18F
import Derived.Test.YtdcdbcccchadfaaGreatDoorAdd18L
import Derived.Test.YtdcdbcccchadfaaGreatDoorRest0
set_option linter.unusedVariables false
set_option linter.unusedSimpArgs false
set_option maxRecDepth 100000
namespace Go.Proofs.YtdcdbcccchadfaaGreatDoor
open Go.RowKit
theorem pow_fields {f e : Int} (f0 : 0 ≤ f) (hf : f < 4) (e0 : 1 ≤ e) (e1 : e ≤ 2 * fE f) : ∀ o, makeF f false e 0 = o → 0 ≤ o ∧ o < full ∧ clsF f o = 2 ∧ negF f o = false ∧ uE f o = e - fE f ∧ uS f o = 2 ^ 127 := by
  intro o ho
  obtain ⟨p0, p1, p2, p3, p4, p5, p6, p7, p8⟩ := f_nums f0 hf
  obtain ⟨m1, m2, m3⟩ := make_fields f0 hf false e 0
  obtain ⟨g0, g1⟩ := make_full f0 (f := f) false e 0
  rw [expOf_id f0 hf (by omega) (by omega)] at m1
  rw [Int.zero_emod] at m2
  rw [ho] at m1 m2 m3 g0 g1
  have c : clsF f o = 2 := (cls_2 hf).2 ⟨by omega, by omega⟩
  have um : uM f o = 2 ^ (fP f - 1) := by unfold uM; rw [if_neg (by omega), m2, Int.zero_add]
  have bl : blen (uM f o) = fP f - 1 + 1 := by
    rw [um]
    refine blen_of (Int.le_refl _) ?_
    have := two_pow_pos (fP f - 1)
    rw [Int.pow_succ]; omega
  refine ⟨g0, g1, c, m3, ?_, ?_⟩
  · unfold uE; rw [if_pos (.inr c), bl]
    unfold uX; rw [if_neg (by omega), m1]; omega
  · unfold uS; rw [if_pos (.inr c), bl, um, ← Int.pow_add]; congr 1; omega
end Go.Proofs.YtdcdbcccchadfaaGreatDoor
