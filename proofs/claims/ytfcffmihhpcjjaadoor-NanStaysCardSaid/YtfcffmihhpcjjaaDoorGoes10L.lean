/-
  The example of stage 10.
-/
import Derived.Test.YtfcffmihhpcjjaaDoorGoes10
import Derived.Test.YtfcffmihhpcjjaaDoorNanP
set_option linter.unusedVariables false
set_option linter.unusedSimpArgs false
set_option maxRecDepth 100000
namespace Go.Proofs.YtfcffmihhpcjjaaDoor
open Go.RowKit
attribute [local go_sem ↓] Go.wp_at_zero Go.wp_at_succ

theorem bs_nil (w : World) : Bs w none 0 0 [] := ⟨rfl, Nat.le_refl _, ⟨by omega, fun _ => ⟨rfl, rfl⟩⟩, fun k hk => by omega⟩
theorem goes10_any (N : NanOK) (w : World) (ft : FTab w) : Calls Tryd.prog 13 #[] w fun e w' => e = .returned (.bool true) ∧ Below w.heap.size w w' := by
  refine goes10_core (Lib.hid fun w ao ft bs => ?h0) (Lib.hid fun w ao ft bs => ?h1) (Lib.hid fun w ft => ?h2) (Lib.hid fun w ft => ?h3) w ft
  case h0 =>
    have h := N.pick 0 false ao 3 3 [15360, 64513, 32261] (by decide) (by decide) w ft bs
    rw [show pickV 0 false [15360, 64513, 32261] = 65025 from by decide +kernel, show pickF 0 false [15360, 64513, 32261] = 1 from by decide +kernel, show pickK 0 false [15360, 64513, 32261] = true from by decide +kernel] at h
    exact h
  case h1 =>
    have h := N.pick 0 false ao 1 1 [0] (by decide) (by decide) w ft bs
    rw [show pickV 0 false [0] = 0 from by decide +kernel, show pickF 0 false [0] = 0 from by decide +kernel, show pickK 0 false [0] = false from by decide +kernel] at h
    exact h
  case h2 =>
    have h := N.quiet 0 31745 (by decide) (by decide) w ft
    rw [show quietF 0 (31745 % full) = 32257 from by decide +kernel] at h
    exact h
  case h3 =>
    have h := N.dflt 0 (by decide) (by decide) w ft
    rw [show defF 0 = 32256 from by decide +kernel] at h
    exact h


end Go.Proofs.YtfcffmihhpcjjaaDoor
