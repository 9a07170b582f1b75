/-
  FormatBack over digits.
-/
import Derived.Test.YtdlmnnnnnjgkiaaDoorBack7
import Derived.Test.YtdlmnnnnnjgkiaaDoorGoes7L
set_option linter.unusedVariables false
set_option linter.unusedSimpArgs false
set_option maxRecDepth 100000
namespace Go.Proofs.YtdlmnnnnnjgkiaaDoor
open Go.RowKit
attribute [local go_sem ↓] Go.wp_at_zero Go.wp_at_succ

theorem cut_above {f c m : Int} (f0 : 0 ≤ f) (hc : cutF f c = c) : cutF f ((c + m * 2 ^ fW f) % full) = c := by
  unfold cutF at *
  rw [← full_pow, mod_mod_pow _ (fW_le f), Int.add_mul_emod_self_right, hc]
end Go.Proofs.YtdlmnnnnnjgkiaaDoor
