/-
  What the document asks of package class; classes by size.
-/
import Derived.Test.YtfcffmihhpcjjaaDoorForm7P
import Derived.Test.YtfcffmihhpcjjaaDoorRef8
import Derived.Test.YtfcffmihhpcjjaaDoorQuotM
set_option linter.unusedVariables false
set_option linter.unusedSimpArgs false
set_option maxRecDepth 100000
namespace Go.Proofs.YtfcffmihhpcjjaaDoor
open Go.RowKit
attribute [local go_sem ↓] Go.wp_at_zero Go.wp_at_succ

/-- What the document asks of package class. -/
structure ClassOK : Prop where
  of : ∀ f b, 0 ≤ f → f ≤ 255 → ∀ w, FTab w → Calls Tryd.prog 19 #[.int .u8 f, .agg #[.int .u64 (hiOf (b)), .int .u64 (loOf (b))]] w fun e w' => e = .returned (.tuple #[.int .u8 (clsF f (b % full)), .bool (negF f (b % full))]) ∧ Below w.heap.size w w'
  nan : ∀ f b, 0 ≤ f → f ≤ 255 → ∀ w, FTab w → Calls Tryd.prog 18 #[.int .u8 f, .agg #[.int .u64 (hiOf (b)), .int .u64 (loOf (b))]] w fun e w' => e = .returned (.bool (nanF f (b % full))) ∧ Below w.heap.size w w'
  sig : ∀ f b, 0 ≤ f → f ≤ 255 → ∀ w, FTab w → Calls Tryd.prog 21 #[.int .u8 f, .agg #[.int .u64 (hiOf (b)), .int .u64 (loOf (b))]] w fun e w' => e = .returned (.bool (sigF f (b % full))) ∧ Below w.heap.size w w'

/-- The fields of what is made. -/
theorem make_fields {f : Int} (h0 : 0 ≤ f) (h : f < 4) (ng : Bool) (e m : Int) : expF f (makeF f ng e m) = expOf f e ∧ fracF f (makeF f ng e m) = m % 2 ^ (fP f - 1) ∧ negF f (makeF f ng e m) = ng := by
  obtain ⟨q1, q2, q3, q4, q5, q6⟩ := make_parts h0 h ng e m
  obtain ⟨p0, p1, p2, p3, p4, p5, p6, p7, p8⟩ := f_nums h0 h
  have hp := two_pow_pos (fP f - 1)
  have hw := two_pow_pos (fW f - 1)
  have z : makeF f ng e m = expOf f e * 2 ^ (fP f - 1) + m % 2 ^ (fP f - 1) + (if ng then 2 ^ (fW f - 1) else 0) := by unfold makeF; rw [if_pos h]
  have low : makeF f ng e m % 2 ^ (fW f - 1) = expOf f e * 2 ^ (fP f - 1) + m % 2 ^ (fP f - 1) := by
    rw [z]; split
    · rw [Int.add_emod_right, Int.emod_eq_of_lt q3 q4]
    · rw [Int.add_zero, Int.emod_eq_of_lt q3 q4]
  refine ⟨?_, ?_, ?_⟩
  · unfold expF; rw [if_pos h, low, Int.add_comm, Int.add_mul_ediv_right _ _ (by omega), Int.ediv_eq_zero_of_lt q1 q2, Int.zero_add]
  · unfold fracF; rw [if_pos h, ← mod_mod_pow (makeF f ng e m) (show fP f - 1 ≤ fW f - 1 by omega), low, Int.add_comm, Int.add_mul_emod_self_right, Int.emod_eq_of_lt q1 q2]
  · unfold negF; rw [show decide (f < 4) = true by simp [h], Bool.and_true]
    have d := Int.emod_add_mul_ediv (makeF f ng e m) (2 ^ (fW f - 1))
    rw [low] at d
    generalize makeF f ng e m / 2 ^ (fW f - 1) = t at *
    cases ng with
    | false =>
      rw [if_neg (by decide)] at z
      have : 2 ^ (fW f - 1) * t = 0 := by omega
      have : t = 0 := by rcases Int.mul_eq_zero.1 this with a | a <;> omega
      rw [this]; decide
    | true =>
      rw [if_pos rfl] at z
      have e1 : 2 ^ (fW f - 1) * t = 2 ^ (fW f - 1) * 1 := by omega
      have : t = 1 := Int.eq_of_mul_eq_mul_left (by omega) e1
      rw [this]; decide
/-- What is below the sign, by its fields. -/
theorem size_parts {f b : Int} (h0 : 0 ≤ f) (h : f < 4) (hb : 0 ≤ b) : expF f b * 2 ^ (fP f - 1) + fracF f b = b % 2 ^ (fW f - 1) := by
  obtain ⟨p0, p1, p2, _⟩ := f_nums h0 h
  unfold expF fracF; rw [if_pos h, if_pos h]
  have := Int.emod_add_mul_ediv (b % 2 ^ (fW f - 1)) (2 ^ (fP f - 1))
  rw [mod_mod_pow b (by omega), Int.mul_comm] at this
  omega
theorem cls_congr {f a b : Int} (e1 : expF f a = expF f b) (e2 : fracF f a = fracF f b) : clsF f a = clsF f b := by unfold clsF; rw [e1, e2]
/-- Classes by size alone: s: what is below the sign. -/
theorem cls_size {f b : Int} (h0 : 0 ≤ f) (h : f < 4) (hb : 0 ≤ b) : ∀ s I n q : Int, b % 2 ^ (fW f - 1) = s → infF f false = I → 2 ^ (fP f - 1) = n → I + 2 ^ (fP f - 2) = q →
    (s < I ↔ clsF f b ≤ 2) ∧ (s = I ↔ clsF f b = 3) ∧ (I < s ↔ 4 ≤ clsF f b) ∧ (s = 0 ↔ clsF f b = 0) ∧ (clsF f b = 1 ↔ s ≠ 0 ∧ s < n) ∧ (clsF f b = 4 ↔ q ≤ s) ∧ 0 ≤ s := by
  intro s I n q hs hI hn hq
  obtain ⟨p0, p1, p2, p3, p4, p5, p6, p7, p8⟩ := f_nums h0 h
  obtain ⟨x0, x1, x2, x3⟩ := exp_range h0 h hb
  obtain ⟨r0, r1⟩ := frac_range (b := b) h0 h
  have sp := size_parts h0 h hb
  rw [inf_val h0 h, if_neg (by decide), Int.add_zero] at hI
  have hp := two_pow_pos (fP f - 1)
  have n2 : (2 : Int) ^ (fP f - 1) = 2 * 2 ^ (fP f - 2) := by rw [← Int.pow_succ', show fP f - 2 + 1 = fP f - 1 by omega]
  rw [hs, hn] at sp
  rw [hn] at hI r1 n2 hp
  have hh := two_pow_pos (fP f - 2)
  unfold clsF
  rw [if_pos h]
  generalize (2 : Int) ^ (fP f - 2) = u at *
  generalize expF f b = e at *
  generalize fracF f b = r at *
  have en0 : 0 ≤ e * n := Int.mul_nonneg x0 (by omega)
  by_cases c0 : e = 0
  · subst c0
    rw [Int.zero_mul] at sp
    have i1 : 1 * n ≤ (2 * (fE f : Int) + 1) * n := mul_le_of (by omega) (by omega)
    rw [if_pos rfl]
    split <;> omega
  · have en1 : n ≤ e * n := by have := mul_le_of (c := n) (by omega) (show 1 ≤ e by omega); omega
    rw [if_neg c0]
    by_cases c1 : e = 2 * fE f + 1
    · subst c1
      rw [if_pos rfl]
      split
      · omega
      · split <;> omega
    · have en2 : (e + 1) * n ≤ (2 * (fE f : Int) + 1) * n := mul_le_of (by omega) (by omega)
      rw [Int.add_mul, Int.one_mul] at en2
      rw [if_neg c1]
      omega


end Go.Proofs.YtfcffmihhpcjjaaDoor
