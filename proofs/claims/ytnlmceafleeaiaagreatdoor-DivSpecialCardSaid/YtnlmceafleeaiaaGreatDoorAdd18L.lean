import Derived.Test.YtnlmceafleeaiaaGreatDoorAdd18M
import Derived.Test.YtnlmceafleeaiaaGreatDoorAdd18F
import Derived.Test.YtnlmceafleeaiaaGreatDoorRest0
set_option linter.unusedVariables false
set_option linter.unusedSimpArgs false
set_option maxRecDepth 100000
namespace Go.Proofs.YtnlmceafleeaiaaGreatDoor
open Go.RowKit
theorem inf_cut {f a : Int} (f0 : 0 ≤ f) (hf : f < 4) (a0 : 0 ≤ a) (c : clsF f a = 3) : infF f (negF f a) = cutF f a := by
  have ms := make_split f0 hf a0
  have : expF f a = 2 * fE f + 1 ∧ fracF f a = 0 := by
    unfold clsF at c; rw [if_pos hf] at c
    split at c
    · split at c <;> omega
    · split at c
      · split at c
        · rename_i a' b' c'; exact ⟨b', c'⟩
        · split at c <;> omega
      · omega
  rw [this.1, this.2] at ms; exact ms
theorem turn_make {f : Int} (f0 : 0 ≤ f) (hf : f < 4) (ng : Bool) (e k : Int) : turnF f (makeF f ng e k) = makeF f (!ng) e k := by
  obtain ⟨m1, m2, m3⟩ := make_fields f0 hf ng e k
  obtain ⟨r0, r1⟩ := expOf_range f0 hf e
  unfold turnF
  rw [m1, m2, m3]
  unfold makeF
  rw [if_pos hf, if_pos hf, expOf_id f0 hf r0 r1, Int.emod_emod]
theorem turn_up {f v : Int} (f0 : 0 ≤ f) (hf : f < 4) (v0 : 0 ≤ v) (v1 : v < 2 ^ (fW f - 1)) : turnF f v = v + 2 ^ (fW f - 1) ∧ turnF f (v + 2 ^ (fW f - 1)) = v := by
  obtain ⟨p0, p1, p2, p3, p4, p5, p6, p7, p8⟩ := f_nums f0 hf
  have hW : (2 : Int) ^ fW f = 2 ^ (fW f - 1) * 2 := pow_top (show 1 ≤ fW f by omega)
  have hp := two_pow_pos (fW f - 1)
  have n0 : negF f v = false := by unfold negF; rw [Int.ediv_eq_zero_of_lt v0 v1]; rfl
  have n1 : negF f (v + 2 ^ (fW f - 1)) = true := by
    unfold negF
    rw [show v + 2 ^ (fW f - 1) = v + 1 * 2 ^ (fW f - 1) by omega, Int.add_mul_ediv_right _ _ (by omega), Int.ediv_eq_zero_of_lt v0 v1, decide_eq_true hf]; rfl
  have s0 := make_split f0 hf v0
  have s1 := make_split f0 hf (b := v + 2 ^ (fW f - 1)) (by omega)
  have c0 : cutF f v = v := by unfold cutF; exact Int.emod_eq_of_lt v0 (by omega)
  have c1 : cutF f (v + 2 ^ (fW f - 1)) = v + 2 ^ (fW f - 1) := by unfold cutF; exact Int.emod_eq_of_lt (by omega) (by omega)
  rw [n0, c0] at s0
  rw [n1, c1, make_sign hf] at s1
  unfold turnF
  rw [n0, n1]
  refine ⟨?_, ?_⟩
  · rw [show (!false) = true from rfl, make_sign hf, s0]
  · rw [show (!true) = false from rfl]; omega
theorem pk_low {f m ex x : Int} (f0 : 0 ≤ f) (hf : f < 4) (hm : m < 5) (x0 : 0 ≤ x) (x1 : x < wfull) : 0 ≤ pkB f m false ex x ∧ pkB f m false ex x < 2 ^ (fW f - 1) := by
  by_cases z : x = 0
  · subst z
    rw [(pk_zero hf hm).1, nought_val f0 hf, if_neg (by decide)]; exact ⟨Int.le_refl _, two_pow_pos _⟩
  · rw [(pk_num hf hm z).1]
    obtain ⟨s0, s1⟩ := pkS_range (show 0 < x by omega) x1
    have := num_range (e := pkE ex x) f0 hf hm s0 s1
    have := inf_lt f0 hf
    omega
theorem pk_turn {f m ex x : Int} (ng : Bool) (f0 : 0 ≤ f) (hf : f < 4) (hm : m < 5) (x0 : 0 ≤ x) (x1 : x < wfull) : pkB f (mirM m) (!ng) ex x = turnF f (pkB f m ng ex x) ∧ ∀ t, pkFl f (mirM m) t (!ng) ex x = pkFl f m t ng ex x := by
  have m5 : mirM m < 5 := by have := mir_known m; rw [decide_eq_decide] at this; exact this.2 hm
  cases ng with
  | false =>
    obtain ⟨a, b⟩ := pk_mir (exp := ex) (x := x) f0 hf hm
    obtain ⟨l0, l1⟩ := pk_low (ex := ex) f0 hf hm x0 x1
    rw [show (!false) = true from rfl, a, (turn_up f0 hf l0 l1).1]
    exact ⟨rfl, b⟩
  | true =>
    obtain ⟨a, b⟩ := pk_mir (exp := ex) (x := x) f0 hf m5
    obtain ⟨l0, l1⟩ := pk_low (ex := ex) f0 hf m5 x0 x1
    rw [mir_mir] at a b
    rw [show (!true) = false from rfl, a, (turn_up f0 hf l0 l1).2]
    exact ⟨rfl, fun t => (b t).symm⟩
end Go.Proofs.YtnlmceafleeaiaaGreatDoor
