/-
  The document's Pack, over numbers.
-/
import Derived.Test.YtfcffmihhpcjjaaDoorRef9
set_option linter.unusedVariables false
set_option linter.unusedSimpArgs false
set_option maxRecDepth 100000
namespace Go.Proofs.YtfcffmihhpcjjaaDoor
open Go.RowKit

theorem neq_bits (a b c d : Int) (w : World) : (binOp .neq 25 (.agg #[.int .u64 a, .int .u64 b]) (.agg #[.int .u64 c, .int .u64 d])).run Tryd.prog w = .ok (.bool (!decide (a = c ∧ b = d))) w := by
  by_cases h1 : a = c
  · subst h1
    by_cases h2 : b = d
    · subst h2
      go_simp
    · go_simp
  · go_simp
theorem fit_no {f c e s : Int} (h : ¬ fitK f e s) (c0 : c ≠ 0) (c3 : c ≠ 3) (g : Bool) : packK f c e s = false ∧ packV f g c e s = 0 := by
  have k : packK f c e s = false := by unfold packK; simp [h, c0, c3]
  exact ⟨k, by unfold packV; rw [k, if_neg (by decide)]⟩
end Go.Proofs.YtfcffmihhpcjjaaDoor
