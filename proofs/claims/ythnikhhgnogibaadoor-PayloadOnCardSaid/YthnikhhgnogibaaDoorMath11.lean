/-
  NaNs moved to another format: by definition, over numbers; plain arithmetic.
-/
import Derived.Test.YthnikhhgnogibaaDoorGjA
set_option linter.unusedVariables false
set_option linter.unusedSimpArgs false
set_option maxRecDepth 100000
namespace Go.Proofs.YthnikhhgnogibaaDoor
open Go.RowKit
attribute [local go_sem ↓] Go.wp_at_zero Go.wp_at_succ

/-- A payload of p bits as one of q bits. -/
def convL (p q : Nat) (x : Int) : Int := x * 2 ^ (q - p) / 2 ^ (p - q)
def moveK (f t b : Int) : Bool := decide (t < 4) && nanF f b
def loadF (f b : Int) : Int := fracF f b % 2 ^ (fP f - 2)
def moveB (f t b : Int) : Int := makeF t (negF f b) (2 * fE t + 1) (convL (fP f - 2) (fP t - 2) (loadF f b) + 2 ^ (fP t - 2))
def moveV (f t b : Int) : Int := if moveK f t b then moveB f t b else 0
def moveS (f t b : Int) : Int := if moveK f t b && sigF f b then 1 else 0

theorem conv_range {p q : Nat} {x : Int} (h0 : 0 ≤ x) (h1 : x < 2 ^ p) : 0 ≤ convL p q x ∧ convL p q x < 2 ^ q := by
  unfold convL
  have hp := two_pow_pos p; have hq := two_pow_pos q
  rcases Nat.le_total p q with h | h
  · have a := two_pow_pos (q - p)
    have e : (2 : Int) ^ q = 2 ^ p * 2 ^ (q - p) := by rw [← Int.pow_add, show p + (q - p) = q by omega]
    rw [show p - q = 0 by omega, Int.pow_zero, Int.ediv_one, e]
    exact ⟨Int.mul_nonneg h0 (by omega), Int.mul_lt_mul_of_pos_right h1 a⟩
  · have a := two_pow_pos (p - q)
    have e : (2 : Int) ^ p = 2 ^ q * 2 ^ (p - q) := by rw [← Int.pow_add, show q + (p - q) = p by omega]
    rw [show q - p = 0 by omega, Int.pow_zero, Int.mul_one]
    exact ⟨Int.ediv_nonneg h0 (by omega), Int.ediv_lt_of_lt_mul a (by omega)⟩
theorem conv_self (p : Nat) (x : Int) : convL p p x = x := by unfold convL; rw [Nat.sub_self, Int.pow_zero, Int.mul_one, Int.ediv_one]
theorem conv_back {p q : Nat} (h : p ≤ q) (x : Int) : convL q p (convL p q x) = x := by
  unfold convL
  rw [show p - q = 0 by omega, Int.pow_zero, Int.mul_one, Int.ediv_one]
  exact Int.mul_ediv_cancel _ (by have := two_pow_pos (q - p); omega)
theorem conv_up {p q r : Nat} (h : p ≤ q) (g : q ≤ r) (x : Int) : convL q r (convL p q x) = convL p r x := by
  unfold convL
  rw [show p - q = 0 by omega, show q - r = 0 by omega, show p - r = 0 by omega, Int.pow_zero, Int.ediv_one, Int.ediv_one, Int.ediv_one, Int.mul_assoc, ← Int.pow_add, show q - p + (r - q) = r - p by omega]
theorem conv_down {p q r : Nat} (h : q ≤ p) (g : r ≤ q) (x : Int) : convL q r (convL p q x) = convL p r x := by
  unfold convL
  rw [show q - p = 0 by omega, show r - q = 0 by omega, show r - p = 0 by omega, Int.pow_zero, Int.mul_one, Int.mul_one, Int.ediv_ediv_of_nonneg (by have := two_pow_pos (p - q); omega), ← Int.pow_add, show p - q + (q - r) = p - r by omega]
theorem fP_mono {f t : Int} (h0 : 0 ≤ f) (h : f ≤ t) (ht : t < 4) : fP f ≤ fP t := by
  rcases f_cases h0 (show f < 4 by omega) with rfl | rfl | rfl | rfl <;> rcases f_cases (show 0 ≤ t by omega) ht with rfl | rfl | rfl | rfl <;> first | decide | omega
theorem load_range {f : Int} (b : Int) : 0 ≤ loadF f b ∧ loadF f b < 2 ^ (fP f - 2) := by
  have hp := two_pow_pos (fP f - 2)
  exact ⟨Int.emod_nonneg _ (by omega), Int.emod_lt_of_pos _ hp⟩
theorem nan_parts {f b : Int} (h : nanF f b = true) : f < 4 ∧ expF f b = 2 * fE f + 1 ∧ (fracF f b < 2 ^ (fP f - 2) → sigF f b = true) ∧ (2 ^ (fP f - 2) ≤ fracF f b → sigF f b = false) := by
  have h4 := nan_known h
  unfold nanF at h
  have c : 4 ≤ clsF f b := by simpa using h
  unfold sigF
  unfold clsF at c ⊢
  rw [if_pos h4] at c ⊢
  split at c
  · split at c <;> omega
  · rename_i e0
    split at c
    · rename_i e1
      rw [if_neg e0, if_pos e1]
      split at c
      · omega
      · rename_i r0
        rw [if_neg r0]
        refine ⟨h4, e1, fun g => ?_, fun g => ?_⟩
        · rw [if_neg (by omega)]; rfl
        · rw [if_pos g]; rfl
    · omega
/-- A NaN made quiet, by its payload. -/
theorem quiet_load {f b : Int} (h0 : 0 ≤ f) (hb : 0 ≤ b) (h : nanF f b = true) : quietF f b = makeF f (negF f b) (2 * fE f + 1) (loadF f b + 2 ^ (fP f - 2)) := by
  obtain ⟨h4, e, s1, s2⟩ := nan_parts h
  obtain ⟨p0, p1, p2, p3, p4, p5, p6, p7, p8⟩ := f_nums h0 h4
  obtain ⟨r0, r1⟩ := frac_range (b := b) h0 h4
  have n2 : (2 : Int) ^ (fP f - 1) = 2 * 2 ^ (fP f - 2) := by rw [← Int.pow_succ', show fP f - 2 + 1 = fP f - 1 by omega]
  have hp := two_pow_pos (fP f - 2)
  unfold loadF
  by_cases g : fracF f b < 2 ^ (fP f - 2)
  · rw [quiet_sig h0 hb (s1 g), e, Int.emod_eq_of_lt r0 g]
  · rw [quiet_not (s2 (by omega)), ← make_split h0 h4 hb, e]
    congr 1
    have : fracF f b % 2 ^ (fP f - 2) = fracF f b - 2 ^ (fP f - 2) := by
      rw [show fracF f b = (fracF f b - 2 ^ (fP f - 2)) + 2 ^ (fP f - 2) by omega, Int.add_emod_right, Int.emod_eq_of_lt (by omega) (by omega)]
      omega
    omega
/-- What is moved, by its fields. -/
theorem move_fields {f t b : Int} (h0 : 0 ≤ t) (ht : t < 4) : negF t (moveB f t b) = negF f b ∧ expF t (moveB f t b) = 2 * fE t + 1 ∧ fracF t (moveB f t b) = convL (fP f - 2) (fP t - 2) (loadF f b) + 2 ^ (fP t - 2) ∧ clsF t (moveB f t b) = 4 ∧ cutF t (moveB f t b) = moveB f t b ∧ 0 ≤ moveB f t b ∧ moveB f t b < full := by
  obtain ⟨p0, p1, p2, p3, p4, p5, p6, p7, p8⟩ := f_nums h0 ht
  obtain ⟨l0, l1⟩ := load_range (f := f) b
  obtain ⟨c0, c1⟩ := conv_range (q := fP t - 2) l0 l1
  have n2 : (2 : Int) ^ (fP t - 1) = 2 * 2 ^ (fP t - 2) := by rw [← Int.pow_succ', show fP t - 2 + 1 = fP t - 1 by omega]
  have hp := two_pow_pos (fP t - 2)
  unfold moveB
  generalize convL (fP f - 2) (fP t - 2) (loadF f b) = x at *
  obtain ⟨m1, m2, m3⟩ := make_fields h0 ht (negF f b) (2 * fE t + 1) (x + 2 ^ (fP t - 2))
  rw [expOf_id h0 ht (by omega) (by omega)] at m1
  rw [Int.emod_eq_of_lt (by omega) (by omega)] at m2
  have m := make_parts h0 ht (negF f b) (2 * fE t + 1) (x + 2 ^ (fP t - 2))
  have mf := make_full h0 (negF f b) (2 * fE t + 1) (x + 2 ^ (fP t - 2))
  refine ⟨m3, m1, m2, ?_, Int.emod_eq_of_lt m.2.2.2.2.1 m.2.2.2.2.2, mf.1, mf.2⟩
  unfold clsF
  rw [if_pos ht, m1, m2, if_neg (by omega), if_pos rfl, if_neg (by omega), if_pos (by omega)]
theorem move_load {f t b : Int} (h0 : 0 ≤ t) (ht : t < 4) : loadF t (moveB f t b) = convL (fP f - 2) (fP t - 2) (loadF f b) := by
  obtain ⟨l0, l1⟩ := load_range (f := f) b
  obtain ⟨c0, c1⟩ := conv_range (q := fP t - 2) l0 l1
  obtain ⟨_, _, e, _⟩ := move_fields (f := f) (b := b) h0 ht
  unfold loadF at *
  rw [e, Int.add_emod_right, Int.emod_eq_of_lt c0 c1]
theorem move_nan {f t b : Int} (h0 : 0 ≤ t) (ht : t < 4) : nanF t (moveB f t b) = true ∧ sigF t (moveB f t b) = false := by
  obtain ⟨_, _, _, e, _⟩ := move_fields (f := f) (b := b) h0 ht
  unfold nanF sigF; rw [e]; exact ⟨rfl, rfl⟩
/-- To a wider format, and back. -/
theorem move_back {f t b : Int} (h0 : 0 ≤ f) (hb : 0 ≤ b) (h : f ≤ t) (ht : t < 4) (hn : nanF f b = true) : moveB t f (moveB f t b) = quietF f b := by
  have mono := fP_mono h0 h ht
  rw [quiet_load h0 hb hn]
  unfold moveB
  rw [show makeF t (negF f b) (2 * fE t + 1) (convL (fP f - 2) (fP t - 2) (loadF f b) + 2 ^ (fP t - 2)) = moveB f t b from rfl, move_load (by omega) ht, (move_fields (by omega) ht).1, conv_back (by omega)]
/-- Step by step, and at once. -/
theorem move_on {f t u b : Int} (h0 : 0 ≤ f) (h4 : f < 4) (t0 : 0 ≤ t) (ht : t < 4) (u0 : 0 ≤ u) (hu : u < 4) (h : (f ≤ t ∧ t ≤ u) ∨ (t ≤ f ∧ u ≤ t)) : moveB t u (moveB f t b) = moveB f u b := by
  have e : convL (fP t - 2) (fP u - 2) (loadF t (moveB f t b)) = convL (fP f - 2) (fP u - 2) (loadF f b) := by
    rw [move_load t0 ht]
    rcases h with ⟨a, c⟩ | ⟨a, c⟩
    · have m1 := fP_mono h0 a ht; have m2 := fP_mono t0 c hu
      exact conv_up (by omega) (by omega) _
    · have m1 := fP_mono t0 a h4; have m2 := fP_mono u0 c ht
      exact conv_down (by omega) (by omega) _
  show makeF u (negF t (moveB f t b)) _ _ = makeF u (negF f b) _ _
  rw [e, (move_fields t0 ht).1]
theorem inf_no {f : Int} (h0 : 0 ≤ f) (ng : Bool) : nanF f (infF f ng) = false := by
  by_cases h4 : f < 4
  · obtain ⟨p0, p1, p2, p3, p4, p5, p6, p7, p8⟩ := f_nums h0 h4
    obtain ⟨m1, m2, m3⟩ := make_fields h0 h4 ng (2 * fE f + 1) 0
    rw [expOf_id h0 h4 (by omega) (by omega)] at m1
    rw [Int.zero_emod] at m2
    unfold nanF clsF infF
    rw [if_pos h4, m1, m2, if_neg (by omega), if_pos rfl, if_pos rfl]; rfl
  · unfold nanF; rw [cls_no h4]; rfl


end Go.Proofs.YthnikhhgnogibaaDoor
