/-
  Texts of the ground put together: Ref8, Cls8P, Goes8, Goes8L, Any8, Any8L, ClassC, ClassI, ClassG.
-/
import Derived.Test.YtbcjboaihahemaaDoorGfA
import Derived.Test.YtbcjboaihahemaaDoorGnA
import Derived.Test.YtbcjboaihahemaaDoorGcA
import Derived.Test.YtbcjboaihahemaaDoorGaA
import Derived.Defers
import Derived.Recover

/-
  Classes of numbers: by definition, over numbers; the document's answers of layer 8.
-/
set_option linter.unusedVariables false
set_option linter.unusedSimpArgs false
set_option maxRecDepth 100000
namespace Go.Proofs.YtbcjboaihahemaaDoor
open Go.RowKit
attribute [local go_sem ↓] Go.wp_at_zero Go.wp_at_succ

/-- The class: 0 nought, 1 subnormal, 2 normal, 3 infinite, 4 a quiet NaN, 5 a signaling one. -/
def clsF (f b : Int) : Int := if f < 4 then (if expF f b = 0 then (if fracF f b = 0 then 0 else 1) else if expF f b = 2 * fE f + 1 then (if fracF f b = 0 then 3 else if 2 ^ (fP f - 2) ≤ fracF f b then 4 else 5) else 2) else 0
def nanF (f b : Int) : Bool := decide (4 ≤ clsF f b)
def sigF (f b : Int) : Bool := decide (clsF f b = 5)
def finF (f b : Int) : Bool := decide (f < 4) && decide (clsF f b ≤ 2)
theorem cls_range (f b : Int) : 0 ≤ clsF f b ∧ clsF f b ≤ 5 := by unfold clsF; repeat' split <;> omega

theorem neg_no {f : Int} (h : ¬ f < 4) (b : Int) : negF f b = false := by unfold negF; rw [show decide (f < 4) = false by simp [h], Bool.and_false]
theorem cls_no {f : Int} (h : ¬ f < 4) (b : Int) : clsF f b = 0 := by unfold clsF; rw [if_neg h]
end Go.Proofs.YtbcjboaihahemaaDoor

/-
  What the document asks of package class; classes by size.
-/
set_option linter.unusedVariables false
set_option linter.unusedSimpArgs false
namespace Go.Proofs.YtbcjboaihahemaaDoor
open Go.RowKit
attribute [local go_sem ↓] Go.wp_at_zero Go.wp_at_succ

/-- What the document asks of package class. -/
structure ClassOK : Prop where

/-- The fields of what is made. -/
theorem make_fields {f : Int} (h0 : 0 ≤ f) (h : f < 4) (ng : Bool) (e m : Int) : expF f (makeF f ng e m) = expOf f e ∧ fracF f (makeF f ng e m) = m % 2 ^ (fP f - 1) ∧ negF f (makeF f ng e m) = ng := by
  obtain ⟨q1, q2, q3, q4, q5, q6⟩ := make_parts h0 h ng e m
  obtain ⟨p0, p1, p2, p3, p4, p5, p6, p7, p8⟩ := f_nums h0 h
  have hp := two_pow_pos (fP f - 1)
  have hw := two_pow_pos (fW f - 1)
  have z : makeF f ng e m = expOf f e * 2 ^ (fP f - 1) + m % 2 ^ (fP f - 1) + (if ng then 2 ^ (fW f - 1) else 0) := by unfold makeF; rw [if_pos h]
  have low : makeF f ng e m % 2 ^ (fW f - 1) = expOf f e * 2 ^ (fP f - 1) + m % 2 ^ (fP f - 1) := by
    rw [z]; split
    · rw [Int.add_emod_right, Int.emod_eq_of_lt q3 q4]
    · rw [Int.add_zero, Int.emod_eq_of_lt q3 q4]
  refine ⟨?_, ?_, ?_⟩
  · unfold expF; rw [if_pos h, low, Int.add_comm, Int.add_mul_ediv_right _ _ (by omega), Int.ediv_eq_zero_of_lt q1 q2, Int.zero_add]
  · unfold fracF; rw [if_pos h, ← mod_mod_pow (makeF f ng e m) (show fP f - 1 ≤ fW f - 1 by omega), low, Int.add_comm, Int.add_mul_emod_self_right, Int.emod_eq_of_lt q1 q2]
  · unfold negF; rw [show decide (f < 4) = true by simp [h], Bool.and_true]
    have d := Int.emod_add_mul_ediv (makeF f ng e m) (2 ^ (fW f - 1))
    rw [low] at d
    generalize makeF f ng e m / 2 ^ (fW f - 1) = t at *
    cases ng with
    | false =>
      rw [if_neg (by decide)] at z
      have : 2 ^ (fW f - 1) * t = 0 := by omega
      have : t = 0 := by rcases Int.mul_eq_zero.1 this with a | a <;> omega
      rw [this]; decide
    | true =>
      rw [if_pos rfl] at z
      have e1 : 2 ^ (fW f - 1) * t = 2 ^ (fW f - 1) * 1 := by omega
      have : t = 1 := Int.eq_of_mul_eq_mul_left (by omega) e1
      rw [this]; decide
/-- What is below the sign, by its fields. -/
theorem size_parts {f b : Int} (h0 : 0 ≤ f) (h : f < 4) (hb : 0 ≤ b) : expF f b * 2 ^ (fP f - 1) + fracF f b = b % 2 ^ (fW f - 1) := by
  obtain ⟨p0, p1, p2, _⟩ := f_nums h0 h
  unfold expF fracF; rw [if_pos h, if_pos h]
  have := Int.emod_add_mul_ediv (b % 2 ^ (fW f - 1)) (2 ^ (fP f - 1))
  rw [mod_mod_pow b (by omega), Int.mul_comm] at this
  omega
theorem cls_congr {f a b : Int} (e1 : expF f a = expF f b) (e2 : fracF f a = fracF f b) : clsF f a = clsF f b := by unfold clsF; rw [e1, e2]
/-- Classes by size alone: s: what is below the sign. -/
theorem cls_size {f b : Int} (h0 : 0 ≤ f) (h : f < 4) (hb : 0 ≤ b) : ∀ s I n q : Int, b % 2 ^ (fW f - 1) = s → infF f false = I → 2 ^ (fP f - 1) = n → I + 2 ^ (fP f - 2) = q →
    (s < I ↔ clsF f b ≤ 2) ∧ (s = I ↔ clsF f b = 3) ∧ (I < s ↔ 4 ≤ clsF f b) ∧ (s = 0 ↔ clsF f b = 0) ∧ (clsF f b = 1 ↔ s ≠ 0 ∧ s < n) ∧ (clsF f b = 4 ↔ q ≤ s) ∧ 0 ≤ s := by
  intro s I n q hs hI hn hq
  obtain ⟨p0, p1, p2, p3, p4, p5, p6, p7, p8⟩ := f_nums h0 h
  obtain ⟨x0, x1, x2, x3⟩ := exp_range h0 h hb
  obtain ⟨r0, r1⟩ := frac_range (b := b) h0 h
  have sp := size_parts h0 h hb
  rw [inf_val h0 h, if_neg (by decide), Int.add_zero] at hI
  have hp := two_pow_pos (fP f - 1)
  have n2 : (2 : Int) ^ (fP f - 1) = 2 * 2 ^ (fP f - 2) := by rw [← Int.pow_succ', show fP f - 2 + 1 = fP f - 1 by omega]
  rw [hs, hn] at sp
  rw [hn] at hI r1 n2 hp
  have hh := two_pow_pos (fP f - 2)
  unfold clsF
  rw [if_pos h]
  generalize (2 : Int) ^ (fP f - 2) = u at *
  generalize expF f b = e at *
  generalize fracF f b = r at *
  have en0 : 0 ≤ e * n := Int.mul_nonneg x0 (by omega)
  by_cases c0 : e = 0
  · subst c0
    rw [Int.zero_mul] at sp
    have i1 : 1 * n ≤ (2 * (fE f : Int) + 1) * n := mul_le_of (by omega) (by omega)
    rw [if_pos rfl]
    split <;> omega
  · have en1 : n ≤ e * n := by have := mul_le_of (c := n) (by omega) (show 1 ≤ e by omega); omega
    rw [if_neg c0]
    by_cases c1 : e = 2 * fE f + 1
    · subst c1
      rw [if_pos rfl]
      split
      · omega
      · split <;> omega
    · have en2 : (e + 1) * n ≤ (2 * (fE f : Int) + 1) * n := mul_le_of (by omega) (by omega)
      rw [Int.add_mul, Int.one_mul] at en2
      rw [if_neg c1]
      omega


end Go.Proofs.YtbcjboaihahemaaDoor

/-
  The walk of the example that every statement of stage 8 asks.
-/
set_option linter.unusedVariables false
set_option linter.unusedSimpArgs false
namespace Go.Proofs.YtbcjboaihahemaaDoor
open Go.RowKit
attribute [local go_sem ↓] Go.wp_at_zero Go.wp_at_succ

end Go.Proofs.YtbcjboaihahemaaDoor

/-
  The example of stage 8.
-/
set_option linter.unusedVariables false
set_option linter.unusedSimpArgs false
namespace Go.Proofs.YtbcjboaihahemaaDoor
open Go.RowKit
attribute [local go_sem ↓] Go.wp_at_zero Go.wp_at_succ

end Go.Proofs.YtbcjboaihahemaaDoor

/-
  ClassAny: slices of encodings; the walk.
-/
set_option linter.unusedVariables false
set_option linter.unusedSimpArgs false
namespace Go.Proofs.YtbcjboaihahemaaDoor
open Go.RowKit

/-- The slice '(ao, n, cap)' reads as the encodings xs. -/
def Bs (w : World) (ao : Option Addr) (n cap : Nat) (xs : List Int) : Prop :=
  n = xs.length ∧ n ≤ cap ∧ (n ≤ 9223372036854775807 ∧ (ao = none → n = 0 ∧ cap = 0)) ∧ ∀ k, k < n → ∃ a, ao = some a ∧ w.cell? (a.add (k * 2)) = some (.int .u64 (hiOf (xs.getD k 0))) ∧ w.cell? ⟨(a.add (k * 2)).block, (a.add (k * 2)).off + 1, none⟩ = some (.int .u64 (loOf (xs.getD k 0)))
theorem Bs.later {W w1 : World} {ao : Option Addr} {n cap : Nat} {xs : List Int} (x : Bs W ao n cap xs) (hb : Below W.heap.size W w1) : Bs w1 ao n cap xs := by
  obtain ⟨h1, h2, h3, h4⟩ := x
  refine ⟨h1, h2, h3, fun k hk => ?_⟩
  obtain ⟨a, e, c0, c1⟩ := h4 k hk
  exact ⟨a, e, cell_later hb c0, cell_later hb c1⟩
def someB (p : Int → Bool) (xs : List Int) (k : Nat) : Bool := (xs.take k).any p
theorem someB_succ (p : Int → Bool) (xs : List Int) (k : Nat) (h : k < xs.length) : someB p xs (k + 1) = (someB p xs k || p (xs.getD k 0)) := by
  unfold someB
  rw [List.take_add_one, List.any_append, List.getD_eq_getElem?_getD, List.getElem?_eq_getElem h]
  simp
theorem someB_all (p : Int → Bool) (xs : List Int) {n : Nat} (h : n = xs.length) : someB p xs n = xs.any p := by
  unfold someB; rw [h, List.take_length]

end Go.Proofs.YtbcjboaihahemaaDoor

/-
  What the document asks of class.Any; ClassAny over slices.
-/
set_option linter.unusedVariables false
set_option linter.unusedSimpArgs false
namespace Go.Proofs.YtbcjboaihahemaaDoor
open Go.RowKit

/-- What the document asks of class.Any, at the functions that the statements hand it. -/
structure AnyOK : Prop where

end Go.Proofs.YtbcjboaihahemaaDoor

/-
  Walks through package class's functions.
-/
set_option linter.unusedVariables false
set_option linter.unusedSimpArgs false
namespace Go.Proofs.YtbcjboaihahemaaDoor
open Go.RowKit
attribute [local go_sem ↓] Go.wp_at_zero Go.wp_at_succ

end Go.Proofs.YtbcjboaihahemaaDoor

/-
  slices.Contains over classes, slices.ContainsFunc over encodings, the closure that class.Any makes: contracts.
-/
set_option linter.unusedVariables false
set_option linter.unusedSimpArgs false
namespace Go.Proofs.YtbcjboaihahemaaDoor
open Go.RowKit
attribute [local go_sem ↓] Go.wp_at_zero Go.wp_at_succ

/-- The cells of a list of classes. -/
def Us (w : World) (a : Addr) (xs : List Int) : Prop := ∀ k, k < xs.length → w.cell? (a.add k) = some (.int .u8 (xs.getD k 0))
theorem Us.later {W w1 : World} {a : Addr} {xs : List Int} (x : Us W a xs) (hb : Below W.heap.size W w1) : Us w1 a xs := fun k hk => cell_later hb (x k hk)
end Go.Proofs.YtbcjboaihahemaaDoor

/-
  Package class keeps what the document asks.
-/
set_option linter.unusedVariables false
set_option linter.unusedSimpArgs false
namespace Go.Proofs.YtbcjboaihahemaaDoor
open Go.RowKit
attribute [local go_sem ↓] Go.wp_at_zero Go.wp_at_succ

/-- The quiet bit of a fraction: its highest. -/
theorem quiet_bit {f b : Int} (h0 : 0 ≤ f) (h : f < 4) : bitI (fracF f b) ((fP f - 2 : Nat) : Int) = decide ((2 : Int) ^ (fP f - 2) ≤ fracF f b) := by
  obtain ⟨p0, p1, p2, _⟩ := f_nums h0 h
  obtain ⟨r0, r1⟩ := frac_range (b := b) h0 h
  have n2 : (2 : Int) ^ (fP f - 1) = 2 * 2 ^ (fP f - 2) := by rw [← Int.pow_succ', show fP f - 2 + 1 = fP f - 1 by omega]
  have hp := two_pow_pos (fP f - 2)
  unfold bitI
  rw [Int.toNat_natCast, show decide (0 ≤ ((fP f - 2 : Nat) : Int)) = true by simp, show decide (((fP f - 2 : Nat) : Int) < 128) = true by simp; omega, Bool.true_and, Bool.true_and]
  rw [n2] at r1
  generalize (2 : Int) ^ (fP f - 2) = q at *
  generalize fracF f b = r at *
  by_cases c : q ≤ r
  · have : r / q = 1 := by
      have d := Int.emod_add_mul_ediv r q
      have m0 := Int.emod_nonneg r (show q ≠ 0 by omega); have m1 := Int.emod_lt_of_pos r hp
      rw [show r = (r - q) + 1 * q by omega, Int.add_mul_ediv_right _ _ (by omega), Int.ediv_eq_zero_of_lt (by omega) (by omega)]; rfl
    rw [this]; simp [c]
  · rw [Int.ediv_eq_zero_of_lt r0 (by omega)]; simp [c]
theorem nan_in (f b : Int) (h0 : 0 ≤ f) : (decide (f < 4) && [4, 5].any fun y => clsF f b == y) = nanF f b := by
  obtain ⟨c0, c1⟩ := cls_range f b
  unfold nanF
  by_cases h : f < 4
  · generalize clsF f b = c at *
    rw [Bool.eq_iff_iff]
    simp [h]
    omega
  · simp [h, clsF]
theorem sig_in (f b : Int) (h0 : 0 ≤ f) : (decide (f < 4) && [5].any fun y => clsF f b == y) = sigF f b := by
  obtain ⟨c0, c1⟩ := cls_range f b
  unfold sigF
  by_cases h : f < 4
  · generalize clsF f b = c at *
    rw [Bool.eq_iff_iff]
    simp [h]
    done
  · simp [h, clsF]
theorem fin_in (f b : Int) (h0 : 0 ≤ f) : (decide (f < 4) && [0, 1, 2].any fun y => clsF f b == y) = finF f b := by
  obtain ⟨c0, c1⟩ := cls_range f b
  unfold finF
  by_cases h : f < 4
  · generalize clsF f b = c at *
    rw [Bool.eq_iff_iff]
    simp [h]
    omega
  · simp [h]
/-- Package class keeps what the document asks. -/
theorem classOK : ClassOK where
/-- class.Any keeps what the document asks, at the functions that the statements hand it. -/
theorem anyOK : AnyOK where

end Go.Proofs.YtbcjboaihahemaaDoor
