/-
  What the document asks of package payload.
-/
import Derived.Test.YthnikhhgnogibaaDoorMath11
set_option linter.unusedVariables false
set_option linter.unusedSimpArgs false
set_option maxRecDepth 100000
namespace Go.Proofs.YthnikhhgnogibaaDoor
open Go.RowKit
attribute [local go_sem ↓] Go.wp_at_zero Go.wp_at_succ

/-- What the document asks of package payload. -/
structure PayOK : Prop where
  move : ∀ f t b, 0 ≤ f → f ≤ 255 → 0 ≤ t → t ≤ 255 → ∀ w, FTab w → Calls Tryd.prog 8 #[.int .u8 f, .int .u8 t, .agg #[.int .u64 (hiOf (b)), .int .u64 (loOf (b))]] w fun e w' => e = .returned (.tuple #[.agg #[.int .u64 (hiOf (moveV f t (b % full))), .int .u64 (loOf (moveV f t (b % full))), .int .u8 (moveS f t (b % full))], .bool (moveK f t (b % full))]) ∧ Below w.heap.size w w'

theorem move_no {f t b : Int} (h : moveK f t b = false) : moveV f t b = 0 ∧ moveS f t b = 0 := by unfold moveV moveS; rw [h]; exact ⟨rfl, rfl⟩
theorem move_yes {f t b : Int} (h : moveK f t b = true) : moveV f t b = moveB f t b ∧ moveS f t b = (if sigF f b then 1 else 0) ∧ t < 4 ∧ nanF f b = true := by
  unfold moveV moveS; rw [h]
  unfold moveK at h
  simp at h
  exact ⟨rfl, by simp, h.1, h.2⟩


end Go.Proofs.YthnikhhgnogibaaDoor
