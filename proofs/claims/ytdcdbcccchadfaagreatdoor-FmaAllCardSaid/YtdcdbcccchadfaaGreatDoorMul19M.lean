import Derived.Test.YtdcdbcccchadfaaGreatDoorGpA
import Derived.Test.YtdcdbcccchadfaaGreatDoorGjB
set_option linter.unusedVariables false
set_option linter.unusedSimpArgs false
set_option maxRecDepth 100000
namespace Go.Proofs.YtdcdbcccchadfaaGreatDoor
open Go.RowKit
attribute [local go_sem ↓] Go.wp_at_zero Go.wp_at_succ
def numC (c d : Int) : Bool := decide ((c = 1 ∨ c = 2) ∧ (d = 1 ∨ d = 2))
def tmE (c d x y : Int) : Int := if numC c d then IntKind.i64.wrap (IntKind.i64.wrap (x + y) + 1) else 0
def tmS (c d s t : Int) : Int := if numC c d then s * t else 0
def badC (c d : Int) : Bool := decide ((c = 0 ∧ d = 3) ∨ (c = 3 ∧ d = 0))
def mlI (f a b : Int) : Bool := badC (clsF f a) (clsF f b)
def mlN (f a b : Int) : Bool := negF f a != negF f b
def mlE (f a b : Int) : Int := tmE (clsF f a) (clsF f b) (uE f a) (uE f b)
def mlS (f a b : Int) : Int := tmS (clsF f a) (clsF f b) (uS f a) (uS f b)
theorem mlS_eq (f a b : Int) : mlS f a b = uS f a * uS f b := by
  unfold mlS tmS numC
  by_cases h : (clsF f a = 1 ∨ clsF f a = 2) ∧ (clsF f b = 1 ∨ clsF f b = 2)
  · rw [decide_eq_true h, if_pos rfl]
  · rw [decide_eq_false h, if_neg (by decide)]
    by_cases k : clsF f a = 1 ∨ clsF f a = 2
    · rw [(u_none (fun z => h ⟨k, z⟩)).2, Int.mul_zero]
    · rw [(u_none k).2, Int.zero_mul]
theorem ml_range {f a b : Int} (f0 : 0 ≤ f) (a0 : 0 ≤ a) (b0 : 0 ≤ b) : -9223372036854775808 ≤ mlE f a b ∧ mlE f a b ≤ 9223372036854775807 ∧ 0 ≤ mlS f a b ∧ mlS f a b < wfull := by
  have ea := uE_range (f := f) f0 a0; have eb := uE_range (f := f) f0 b0
  obtain ⟨s0, s1⟩ := uS_range (f := f) f0 a0; obtain ⟨t0, t1⟩ := uS_range (f := f) f0 b0
  have w2 : wfull = full * full := by decide +kernel
  rw [mlS_eq, w2]
  have h1 : uS f a * uS f b ≤ full * uS f b := Int.mul_le_mul_of_nonneg_right (by omega) t0
  have h2 : full * uS f b < full * full := Int.mul_lt_mul_of_pos_left t1 (by decide)
  refine ⟨?_, ?_, Int.mul_nonneg s0 t0, by omega⟩
  all_goals
    unfold mlE tmE
    split
    · rw [IntKind.wrap_i64, IntKind.wrap_i64]; omega
    · omega
theorem mlE_num {f a b : Int} (f0 : 0 ≤ f) (a0 : 0 ≤ a) (b0 : 0 ≤ b) (ca : clsF f a = 1 ∨ clsF f a = 2) (cb : clsF f b = 1 ∨ clsF f b = 2) : mlE f a b = uE f a + uE f b + 1 := by
  have ea := uE_range (f := f) f0 a0; have eb := uE_range (f := f) f0 b0
  unfold mlE tmE numC
  rw [decide_eq_true ⟨ca, cb⟩, if_pos rfl, IntKind.wrap_i64, IntKind.wrap_i64]; omega
theorem uM_zero {f b : Int} (f0 : 0 ≤ f) (hf : f < 4) (c : clsF f b = 0) : uM f b = 0 := by
  obtain ⟨x, y⟩ := (cls_0 hf).1 c
  unfold uM; rw [if_pos x]; exact y
end Go.Proofs.YtdcdbcccchadfaaGreatDoor
