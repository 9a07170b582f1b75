/-
  What overflows: by definition; what the document asks of package over.
-/
import Derived.Test.YtfmccbokipljfaaDoorGfA
import Derived.Test.YtfmccbokipljfaaDoorGkA
import Derived.Test.YtfmccbokipljfaaDoorGmA
import Derived.Test.YtfmccbokipljfaaDoorGaA
set_option linter.unusedVariables false
set_option linter.unusedSimpArgs false
set_option maxRecDepth 100000
namespace Go.Proofs.YtfmccbokipljfaaDoor
open Go.RowKit
attribute [local go_sem ↓] Go.wp_at_zero Go.wp_at_succ

/-- What overflows becomes: its bits, its flags. -/
def overB (f m : Int) (ng : Bool) : Int := if f < 4 ∧ m < 5 then (if infM m ng then infF f ng else maxF f ng) else 0
def overFl (f m : Int) : Int := if f < 4 ∧ m < 5 then 20 else 0

/-- What the document asks of package over. -/
structure OverOK : Prop where
  over : ∀ f m ng, 0 ≤ f → f ≤ 255 → 0 ≤ m → m ≤ 255 → ∀ w, FTab w → Calls Tryd.prog 9 #[.int .u8 f, .int .u8 m, .bool ng] w fun e w' => e = .returned (.agg #[.int .u64 (hiOf (overB f m ng)), .int .u64 (loOf (overB f m ng)), .int .u8 (overFl f m)]) ∧ Below w.heap.size w w'
  least : ∀ f ng, 0 ≤ f → f ≤ 255 → ∀ w, FTab w → Calls Tryd.prog 11 #[.int .u8 f, .bool ng] w fun e w' => e = .returned (.agg #[.int .u64 (hiOf (makeF f ng 0 1)), .int .u64 (loOf (makeF f ng 0 1))]) ∧ Below w.heap.size w w'
  normal : ∀ f ng, 0 ≤ f → f ≤ 255 → ∀ w, FTab w → Calls Tryd.prog 13 #[.int .u8 f, .bool ng] w fun e w' => e = .returned (.agg #[.int .u64 (hiOf (makeF f ng 1 0)), .int .u64 (loOf (makeF f ng 1 0))]) ∧ Below w.heap.size w w'
  beyond : ∀ f x, 0 ≤ f → f ≤ 255 → -9223372036854775808 ≤ x → x ≤ 9223372036854775807 → ∀ w, FTab w → Calls Tryd.prog 15 #[.int .u8 f, .int .i64 x] w fun e w' => e = .returned (.bool (decide (f < 4) && decide (fE f < x))) ∧ Below w.heap.size w w'
  tiny : ∀ f x, 0 ≤ f → f ≤ 255 → -9223372036854775808 ≤ x → x ≤ 9223372036854775807 → ∀ w, FTab w → Calls Tryd.prog 16 #[.int .u8 f, .int .i64 x] w fun e w' => e = .returned (.bool (decide (f < 4) && decide (x < 1 - fE f))) ∧ Below w.heap.size w w'

theorem over_no {f m : Int} (h : ¬ (f < 4 ∧ m < 5)) (ng : Bool) : overB f m ng = 0 ∧ overFl f m = 0 := by unfold overB overFl; rw [if_neg h, if_neg h]; exact ⟨rfl, rfl⟩
theorem over_inf {f m : Int} (h : f < 4 ∧ m < 5) {ng : Bool} (i : infM m ng = true) : overB f m ng = infF f ng ∧ overFl f m = 20 := by unfold overB overFl; rw [if_pos h, if_pos h, if_pos i]; exact ⟨rfl, rfl⟩
theorem over_fin {f m : Int} (h : f < 4 ∧ m < 5) {ng : Bool} (i : infM m ng = false) : overB f m ng = maxF f ng ∧ overFl f m = 20 := by unfold overB overFl; rw [if_pos h, if_pos h, i, if_neg (by decide)]; exact ⟨rfl, rfl⟩


end Go.Proofs.YtfmccbokipljfaaDoor
