/-
  What the document asks of package format; fields, plain arithmetic.
-/
import Derived.Test.YtfcffmihhpcjjaaDoorForm7T
import Derived.Test.YtfcffmihhpcjjaaDoorRef7
set_option linter.unusedVariables false
set_option linter.unusedSimpArgs false
set_option maxRecDepth 100000
namespace Go.Proofs.YtfcffmihhpcjjaaDoor
open Go.RowKit
attribute [local go_sem ↓] Go.wp_at_zero Go.wp_at_succ

/-- What the document asks of package format. -/
structure FormOK : Prop where
  known : ∀ f, 0 ≤ f → f ≤ 255 → ∀ w, FTab w → Calls Tryd.prog 16 #[.int .u8 f] w fun e w' => e = .returned (.bool (decide (f < 4))) ∧ Below w.heap.size w w'
  width : ∀ f, 0 ≤ f → f ≤ 255 → ∀ w, FTab w → Calls Tryd.prog 53 #[.int .u8 f] w fun e w' => e = .returned (.int .i64 (fW f)) ∧ Below w.heap.size w w'
  prec : ∀ f, 0 ≤ f → f ≤ 255 → ∀ w, FTab w → Calls Tryd.prog 25 #[.int .u8 f] w fun e w' => e = .returned (.int .i64 (fP f)) ∧ Below w.heap.size w w'
  emax : ∀ f, 0 ≤ f → f ≤ 255 → ∀ w, FTab w → Calls Tryd.prog 80 #[.int .u8 f] w fun e w' => e = .returned (.int .i64 (fE f)) ∧ Below w.heap.size w w'
  cut : ∀ f b, 0 ≤ f → f ≤ 255 → ∀ w, FTab w → Calls Tryd.prog 26 #[.int .u8 f, .agg #[.int .u64 (hiOf (b)), .int .u64 (loOf (b))]] w fun e w' => e = .returned (.agg #[.int .u64 (hiOf (cutF f (b % full))), .int .u64 (loOf (cutF f (b % full)))]) ∧ Below w.heap.size w w'
  fits : ∀ f b, 0 ≤ f → f ≤ 255 → ∀ w, FTab w → Calls Tryd.prog 20 #[.int .u8 f, .agg #[.int .u64 (hiOf (b)), .int .u64 (loOf (b))]] w fun e w' => e = .returned (.bool (decide (f < 4) && (cutF f (b % full) == b % full))) ∧ Below w.heap.size w w'
  split : ∀ f b, 0 ≤ f → f ≤ 255 → ∀ w, FTab w → Calls Tryd.prog 22 #[.int .u8 f, .agg #[.int .u64 (hiOf (b)), .int .u64 (loOf (b))]] w fun e w' => e = .returned (.tuple #[.bool (negF f (b % full)), .int .i64 (expF f (b % full)), .agg #[.int .u64 (hiOf (fracF f (b % full))), .int .u64 (loOf (fracF f (b % full)))]]) ∧ Below w.heap.size w w'
  make : ∀ f ng ex b, 0 ≤ f → f ≤ 255 → -9223372036854775808 ≤ ex → ex ≤ 9223372036854775807 → ∀ w, FTab w → Calls Tryd.prog 62 #[.int .u8 f, .bool ng, .int .i64 ex, .agg #[.int .u64 (hiOf (b)), .int .u64 (loOf (b))]] w fun e w' => e = .returned (.agg #[.int .u64 (hiOf (makeF f ng ex (b % full))), .int .u64 (loOf (makeF f ng ex (b % full)))]) ∧ Below w.heap.size w w'
  inf : ∀ f ng, 0 ≤ f → f ≤ 255 → ∀ w, FTab w → Calls Tryd.prog 34 #[.int .u8 f, .bool ng] w fun e w' => e = .returned (.agg #[.int .u64 (hiOf (infF f ng)), .int .u64 (loOf (infF f ng))]) ∧ Below w.heap.size w w'

/-! ### fields and what is made of them -/
theorem cut_range {f b : Int} (h0 : 0 ≤ f) (hb : 0 ≤ b) : 0 ≤ cutF f b ∧ cutF f b ≤ b ∧ cutF f b < 2 ^ fW f := mod_lt_self hb (fW f)
theorem cut_cut (f b : Int) : cutF f (cutF f b) = cutF f b := by unfold cutF; exact mod_mod_pow b (Nat.le_refl _)
theorem neg_cut {f : Int} (h0 : 0 ≤ f) (h : f < 4) (b : Int) : negF f (cutF f b) = negF f b := by
  obtain ⟨p0, p1, p2, _⟩ := f_nums h0 h
  unfold negF cutF
  have t := mod_bit b (fW f - 1)
  rw [show fW f - 1 + 1 = fW f by omega] at t
  rw [t]
theorem exp_cut {f : Int} (h0 : 0 ≤ f) (h : f < 4) (b : Int) : expF f (cutF f b) = expF f b := by
  obtain ⟨p0, p1, p2, _⟩ := f_nums h0 h
  unfold expF cutF; rw [if_pos h, if_pos h, mod_mod_pow b (by omega)]
theorem frac_cut {f : Int} (h0 : 0 ≤ f) (h : f < 4) (b : Int) : fracF f (cutF f b) = fracF f b := by
  obtain ⟨p0, p1, p2, _⟩ := f_nums h0 h
  unfold fracF cutF; rw [if_pos h, if_pos h, mod_mod_pow b (by omega)]
/-- Fields depend on what is cut alone. -/
theorem fields_of_cut {f a b : Int} (h0 : 0 ≤ f) (h : f < 4) (e : cutF f a = cutF f b) : negF f a = negF f b ∧ expF f a = expF f b ∧ fracF f a = fracF f b :=
  ⟨by rw [← neg_cut h0 h a, e, neg_cut h0 h b], by rw [← exp_cut h0 h a, e, exp_cut h0 h b], by rw [← frac_cut h0 h a, e, frac_cut h0 h b]⟩
theorem frac_range {f b : Int} (h0 : 0 ≤ f) (h : f < 4) : 0 ≤ fracF f b ∧ fracF f b < 2 ^ (fP f - 1) := by
  have hp := two_pow_pos (fP f - 1)
  unfold fracF; rw [if_pos h]
  exact ⟨Int.emod_nonneg _ (by omega), Int.emod_lt_of_pos _ hp⟩
theorem frac_full {f b : Int} (h0 : 0 ≤ f) (h : f < 4) : fracF f b < full := by
  obtain ⟨p0, p1, p2, p3, p4, p5, p6, p7, p8⟩ := f_nums h0 h
  have := frac_range (b := b) h0 h
  have t := two_pow_le (show fP f - 1 ≤ 128 by omega)
  rw [full_pow] at t; omega
theorem expOf_id {f e : Int} (h0 : 0 ≤ f) (h : f < 4) (e0 : 0 ≤ e) (e1 : e < 2 ^ (fW f - fP f)) : expOf f e = e := by
  obtain ⟨p0, p1, p2, p3, p4, p5, p6, p7, p8⟩ := f_nums h0 h
  unfold expOf; rw [if_neg (by omega), Int.emod_eq_of_lt e0 e1]
/-- What is taken apart is put together again. -/
theorem make_split {f b : Int} (h0 : 0 ≤ f) (h : f < 4) (hb : 0 ≤ b) : makeF f (negF f b) (expF f b) (fracF f b) = cutF f b := by
  obtain ⟨p0, p1, p2, p3, p4, p5, p6, p7, p8⟩ := f_nums h0 h
  obtain ⟨x0, x1, x2, x3⟩ := exp_range h0 h hb
  obtain ⟨r0, r1⟩ := frac_range (b := b) h0 h
  unfold makeF; rw [if_pos h, expOf_id h0 h x0 x1, Int.emod_eq_of_lt r0 r1]
  have hp := two_pow_pos (fP f - 1)
  have hw := two_pow_pos (fW f - 1)
  -- the rest below the sign
  have e1 : expF f b * 2 ^ (fP f - 1) + fracF f b = b % 2 ^ (fW f - 1) := by
    unfold expF fracF; rw [if_pos h, if_pos h]
    have := Int.emod_add_mul_ediv (b % 2 ^ (fW f - 1)) (2 ^ (fP f - 1))
    rw [mod_mod_pow b (by omega), Int.mul_comm] at this
    omega
  rw [e1]
  have e2 := Int.emod_add_mul_ediv (b % 2 ^ (fW f - 1 + 1)) (2 ^ (fW f - 1))
  rw [mod_mod_pow b (Nat.le_succ _)] at e2
  have e3 := mod_bit b (fW f - 1)
  have e4 : 0 ≤ b % 2 ^ (fW f - 1 + 1) / 2 ^ (fW f - 1) := Int.ediv_nonneg (mod_lt_self hb _).1 (by omega)
  have e5 : b % 2 ^ (fW f - 1 + 1) / 2 ^ (fW f - 1) < 2 := Int.ediv_lt_of_lt_mul hw (by have := (mod_lt_self hb (fW f - 1 + 1)).2.2; rw [Int.pow_succ] at this; rw [Int.mul_comm]; exact this)
  have c : cutF f b = b % 2 ^ (fW f - 1 + 1) := by unfold cutF; rw [show fW f - 1 + 1 = fW f by omega]
  rw [c, ← e2]
  unfold negF
  rw [show decide (f < 4) = true by simp [h], Bool.and_true]
  generalize b % 2 ^ (fW f - 1 + 1) / 2 ^ (fW f - 1) = s at *
  generalize b / 2 ^ (fW f - 1) = t at *
  by_cases hs : t % 2 = 1
  · rw [show decide (t % 2 = 1) = true by simp [hs], if_pos rfl, show s = 1 by omega, Int.mul_one]
  · rw [show decide (t % 2 = 1) = false by simp [hs], if_neg (by decide), show s = 0 by omega, Int.mul_zero]
theorem fW_full (f : Int) : (2 : Int) ^ fW f ≤ full := by have := two_pow_le (fW_le f); rwa [full_pow] at this
theorem make_full {f : Int} (h0 : 0 ≤ f) (ng : Bool) (e m : Int) : 0 ≤ makeF f ng e m ∧ makeF f ng e m < full := by
  by_cases h : f < 4
  · have := make_parts h0 h ng e m; have := fW_full f; omega
  · rw [makeF_zero h]; exact ⟨Int.le_refl _, by decide⟩
theorem cut_full {f b : Int} (h0 : 0 ≤ f) : cutF f (b % full) < full := by
  have := cut_range (f := f) h0 (mod_f b).1; have := (mod_f b).2; omega
theorem inf_val {f : Int} (h0 : 0 ≤ f) (h : f < 4) (ng : Bool) : infF f ng = (2 * fE f + 1) * 2 ^ (fP f - 1) + (if ng then 2 ^ (fW f - 1) else 0) := by
  obtain ⟨p0, p1, p2, p3, p4, p5, p6, p7, p8⟩ := f_nums h0 h
  unfold infF makeF; rw [if_pos h, expOf_id h0 h (by omega) (by omega), Int.zero_emod, Int.add_zero]
theorem max_val {f : Int} (h0 : 0 ≤ f) (h : f < 4) (ng : Bool) : maxF f ng = 2 * fE f * 2 ^ (fP f - 1) + (2 ^ (fP f - 1) - 1) + (if ng then 2 ^ (fW f - 1) else 0) := by
  obtain ⟨p0, p1, p2, p3, p4, p5, p6, p7, p8⟩ := f_nums h0 h
  have hp := two_pow_pos (fP f - 1)
  unfold maxF makeF; rw [if_pos h, expOf_id h0 h (by omega) (by omega), Int.emod_eq_of_lt (a := 2 ^ (fP f - 1) - 1) (by omega) (by omega)]
theorem nought_val {f : Int} (h0 : 0 ≤ f) (h : f < 4) (ng : Bool) : makeF f ng 0 0 = if ng then 2 ^ (fW f - 1) else 0 := by
  obtain ⟨p0, p1, p2, p3, p4, p5, p6, p7, p8⟩ := f_nums h0 h
  unfold makeF; rw [if_pos h, expOf_id h0 h (by omega) (by omega), Int.zero_emod, Int.zero_mul]; omega


end Go.Proofs.YtfcffmihhpcjjaaDoor
