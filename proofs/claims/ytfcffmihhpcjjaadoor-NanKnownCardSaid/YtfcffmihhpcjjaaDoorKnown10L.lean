/-
  NanKnown.
-/
import Derived.Test.YtfcffmihhpcjjaaDoorKnown10
import Derived.Test.YtfcffmihhpcjjaaDoorGoes10L
set_option linter.unusedVariables false
set_option linter.unusedSimpArgs false
set_option maxRecDepth 100000
namespace Go.Proofs.YtfcffmihhpcjjaaDoor
open Go.RowKit
attribute [local go_sem ↓] Go.wp_at_zero Go.wp_at_succ

theorem known10_law (N : NanOK) (w : World) (ft : FTab w) : Calls Tryd.prog 8 #[] w fun e w' => e = .returned (.bool true) ∧ Below w.heap.size w w' := by
  refine known10_core (Lib.hid fun w ao ft bs => ?p0) (Lib.hid fun w ft => ?p1) (Lib.hid fun w ft => ?p2) (Lib.hid fun w ao ft bs => ?p3) (Lib.hid fun w ao ft bs => ?p4) (Lib.hid fun w ft => ?d1) (Lib.hid fun w ft => ?d2) (Lib.hid fun w ft => ?d4) (Lib.hid fun w ft => ?q4) (Lib.hid (goes10_any N)) w ft
  case p0 =>
    have h := N.pick 0 true ao 2 2 [0, 31744] (by decide) (by decide) w ft bs
    rw [show pickV 0 true [0, 31744] = 32256 from by decide +kernel, show pickF 0 true [0, 31744] = 1 from by decide +kernel, show pickK 0 true [0, 31744] = true from by decide +kernel] at h
    exact h
  case p1 =>
    have h := N.pick 3 true none 0 0 [] (by decide) (by decide) w ft (bs_nil w)
    rw [show pickV 3 true [] = 170138587312039964317873038467719495680 from by decide +kernel, show pickF 3 true [] = 1 from by decide +kernel, show pickK 3 true [] = true from by decide +kernel] at h
    exact h
  case p2 =>
    have h := N.pick 1 false none 0 0 [] (by decide) (by decide) w ft (bs_nil w)
    rw [show pickV 1 false [] = 0 from by decide +kernel, show pickF 1 false [] = 0 from by decide +kernel, show pickK 1 false [] = false from by decide +kernel] at h
    exact h
  case p3 =>
    have h := N.pick 1 false ao 1 1 [4290772993] (by decide) (by decide) w ft bs
    rw [show pickV 1 false [4290772993] = 4290772993 from by decide +kernel, show pickF 1 false [4290772993] = 0 from by decide +kernel, show pickK 1 false [4290772993] = true from by decide +kernel] at h
    exact h
  case p4 =>
    have h := N.pick 4 true ao 1 1 [0] (by decide) (by decide) w ft bs
    rw [show pickV 4 true [0] = 0 from by decide +kernel, show pickF 4 true [0] = 0 from by decide +kernel, show pickK 4 true [0] = false from by decide +kernel] at h
    exact h
  case d1 =>
    have h := N.dflt 1 (by decide) (by decide) w ft
    rw [show defF 1 = 2143289344 from by decide +kernel] at h
    exact h
  case d2 =>
    have h := N.dflt 2 (by decide) (by decide) w ft
    rw [show defF 2 = 9221120237041090560 from by decide +kernel] at h
    exact h
  case d4 =>
    have h := N.dflt 4 (by decide) (by decide) w ft
    rw [show defF 4 = 0 from by decide +kernel] at h
    exact h
  case q4 =>
    have h := N.quiet 4 9 (by decide) (by decide) w ft
    rw [show quietF 4 (9 % full) = 0 from by decide +kernel] at h
    exact h


end Go.Proofs.YtfcffmihhpcjjaaDoor
