/-
  Contracts of package quot: one step of the long division (a closure), Step.
-/
import Derived.Test.YtfcffmihhpcjjaaDoorGcA
set_option linter.unusedVariables false
set_option linter.unusedSimpArgs false
set_option maxRecDepth 100000
namespace Go.Proofs.YtfcffmihhpcjjaaDoor
open Go.RowKit
attribute [local go_sem ↓] Go.wp_at_zero Go.wp_at_succ

/-- The bit of the quotient, and the rest, of one step: of any two numbers. -/
def partN (d r b : Int) : Int := if 2 * (r % full) + b < d % full then 0 else 1
def restN (d r b : Int) : Int := if 2 * (r % full) + b < d % full then 2 * (r % full) + b else 2 * (r % full) + b - d % full

theorem or_bit64 {v b : Int} (h : U64 v) (he : v % 2 = 0) (hb : b = 0 ∨ b = 1) : bits .or .u64 v b = v + b := by
  rcases hb with rfl | rfl
  · rw [u64_or v 0 h.1 h.2 (by omega) (by omega)]
    have := h.1
    simp; omega
  · rw [or_one h]; omega
theorem hl_sub_mod (x d : Int) : hiOf (x - d % full) = hiOf (x - d) ∧ loOf (x - d % full) = loOf (x - d) := hl_congr (by unfold full; omega)
theorem subB (n m : Int) (w : World) : Calls Tryd.prog 23 #[.agg #[.int .u64 (hiOf n), .int .u64 (loOf n)], .agg #[.int .u64 (hiOf m), .int .u64 (loOf m)]] w fun e w' =>
    e = .returned (.tuple #[.agg #[.int .u64 (hiOf (n - m)), .int .u64 (loOf (n - m))], .bool (decide (n % full < m % full))]) ∧ Below w.heap.size w w' := by
  have h := sub_any (hiOf n) (loOf n) (hiOf m) (loOf m) (hiOf_u _) (loOf_u _) (hiOf_u _) (loOf_u _) w
  rw [val_hiLo_mod, val_hiLo_mod, (hl_sub_mod (n % full) m).1, (hl_sub_mod (n % full) m).2, (hl_congr (show (n % full - m) % full = (n - m) % full by unfold full; omega)).1, (hl_congr (show (n % full - m) % full = (n - m) % full by unfold full; omega)).2] at h
  exact h
theorem twice_or (r b : Int) (hb : b = 0 ∨ b = 1) : bits .or .u64 (loOf (r + r)) b = loOf (2 * (r % full) + b) ∧ hiOf (r + r) = hiOf (2 * (r % full) + b) := by
  constructor
  · rw [or_bit64 (loOf_u _) (by unfold loOf; omega) hb]
    unfold loOf full; omega
  · unfold hiOf full; omega
theorem even_lt {x : Int} (h : ¬ full ≤ 2 * x) {b : Int} (hb : b = 0 ∨ b = 1) : 2 * x + b < full := by unfold full at *; omega
/-! ### Step -/

end Go.Proofs.YtfcffmihhpcjjaaDoor
