import Derived.Test.YtnlmceafleeaiaaGreatDoorGvA
import Derived.Test.YtnlmceafleeaiaaGreatDoorGoes21
set_option linter.unusedVariables false
set_option linter.unusedSimpArgs false
set_option maxRecDepth 100000
namespace Go.Proofs.YtnlmceafleeaiaaGreatDoor
open Go.RowKit
attribute [local go_sem ↓] Go.wp_at_zero Go.wp_at_succ
theorem goes21_any (A : DivOK) (w : World) (ft : FTab w) : Calls Tryz.prog 12 #[] w fun e w' => e = .returned (.bool true) ∧ Below w.heap.size w w' := by
  refine goes21_core (lH fun w ft => ?h2) (lH fun w ft => ?h6) (lH fun w ft => ?h10) (lH fun w ft => ?h14) w ft
  case h2 =>
    have h := A.div 0 0 false 15360 16896 (by decide) (by decide) (by decide) (by decide) (by decide) (by decide +kernel) (by decide) (by decide +kernel) w ft
    simp only [show dvB 0 0 15360 16896 = 13653 from by decide +kernel, show dvFl 0 0 false 15360 16896 = 16 from by decide +kernel, show hiOf 15360 = 0 from by decide +kernel, show hiOf 16896 = 0 from by decide +kernel, show hiOf 13653 = 0 from by decide +kernel, show loOf 15360 = 15360 from by decide +kernel, show loOf 16896 = 16896 from by decide +kernel, show loOf 13653 = 13653 from by decide +kernel] at h
    exact h
  case h6 =>
    have h := A.div 0 0 false 15360 32768 (by decide) (by decide) (by decide) (by decide) (by decide) (by decide +kernel) (by decide) (by decide +kernel) w ft
    simp only [show dvB 0 0 15360 32768 = 64512 from by decide +kernel, show dvFl 0 0 false 15360 32768 = 2 from by decide +kernel, show hiOf 15360 = 0 from by decide +kernel, show hiOf 32768 = 0 from by decide +kernel, show hiOf 64512 = 0 from by decide +kernel, show loOf 15360 = 15360 from by decide +kernel, show loOf 32768 = 32768 from by decide +kernel, show loOf 64512 = 64512 from by decide +kernel] at h
    exact h
  case h10 =>
    have h := A.div 0 0 false 0 0 (by decide) (by decide) (by decide) (by decide) (by decide) (by decide +kernel) (by decide) (by decide +kernel) w ft
    simp only [show dvB 0 0 0 0 = 32256 from by decide +kernel, show dvFl 0 0 false 0 0 = 1 from by decide +kernel, show hiOf 0 = 0 from by decide +kernel, show hiOf 32256 = 0 from by decide +kernel, show loOf 0 = 0 from by decide +kernel, show loOf 32256 = 32256 from by decide +kernel] at h
    exact h
  case h14 =>
    have h := A.div 0 0 false 17920 16384 (by decide) (by decide) (by decide) (by decide) (by decide) (by decide +kernel) (by decide) (by decide +kernel) w ft
    simp only [show dvB 0 0 17920 16384 = 16896 from by decide +kernel, show dvFl 0 0 false 17920 16384 = 0 from by decide +kernel, show hiOf 17920 = 0 from by decide +kernel, show hiOf 16384 = 0 from by decide +kernel, show hiOf 16896 = 0 from by decide +kernel, show loOf 17920 = 17920 from by decide +kernel, show loOf 16384 = 16384 from by decide +kernel, show loOf 16896 = 16896 from by decide +kernel] at h
    exact h
theorem plain21N (C : FormOK) (D : ClassOK) (f b : Int) (uf : 0 ≤ f ∧ f ≤ 255) (b0 : 0 ≤ b) (b1 : b < full) (w : World) (ft : FTab w) : Calls Tryz.prog 13 #[.int .u8 f, .agg #[.int .u64 (hiOf (b)), .int .u64 (loOf (b))]] w fun e w' => e = .returned (.bool (decide (clsF f b = 1 ∨ clsF f b = 2))) ∧ Below w.heap.size w w' := by
  have K := C.known f uf.1 uf.2
  have O := D.of f b uf.1 uf.2
  rw [Int.emod_eq_of_lt b0 b1] at O
  by_cases hf : f < 4
  · rw [decide_eq_true hf] at K
    by_cases h : clsF f b = 1
    · rw [decide_eq_true (show clsF f b = 1 ∨ clsF f b = 2 from .inl h)]
      exact plain21_a f _ _ _ _ (lH O) (lH K) (beq_iff_eq.2 h) w ft
    · have e : decide (clsF f b = 1 ∨ clsF f b = 2) = (clsF f b == 2) := by
        rw [Bool.eq_iff_iff]; simp only [decide_eq_true_eq, beq_iff_eq]; omega
      rw [e]
      exact plain21_b f _ _ _ _ (lH O) (lH K) (beq_eq_false_iff_ne.2 h) w ft
  · rw [decide_eq_false hf] at K
    have c : ¬ (clsF f b = 1 ∨ clsF f b = 2) := by unfold clsF; rw [if_neg hf]; omega
    rw [decide_eq_false c]
    exact plain21_no f _ _ _ _ (lH O) (lH K) w ft
end Go.Proofs.YtnlmceafleeaiaaGreatDoor
