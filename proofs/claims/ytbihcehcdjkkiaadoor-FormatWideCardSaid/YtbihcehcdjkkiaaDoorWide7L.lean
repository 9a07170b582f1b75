/-
  FormatWide over digits.
-/
import Derived.Test.YtbihcehcdjkkiaaDoorWide7
import Derived.Test.YtbihcehcdjkkiaaDoorGoes7L
set_option linter.unusedVariables false
set_option linter.unusedSimpArgs false
set_option maxRecDepth 100000
namespace Go.Proofs.YtbihcehcdjkkiaaDoor
open Go.RowKit
attribute [local go_sem ↓] Go.wp_at_zero Go.wp_at_succ

theorem wide7_law (C : FormOK) (f : Int) (uf : 0 ≤ f ∧ f ≤ 255) (w : World) (ft : FTab w) : Calls Tryd.prog 8 #[.int .u8 f] w fun e w' => e = .returned (.bool true) ∧ Below w.heap.size w w' := by
  have G := Lib.hid (goes7_any C)
  by_cases h2 : 2 < f
  · exact wide7_far f G (by simp [h2]) w ft
  · obtain rfl | rfl | rfl : f = 0 ∨ f = 1 ∨ f = 2 := by omega
    · exact wide7_near 0 1 11 24 15 127 16 32 22 24 26 52 (Lib.hid (C.prec 1 (by decide) (by decide))) (Lib.hid (C.prec 0 (by decide) (by decide))) (Lib.hid (C.emax 1 (by decide) (by decide))) (Lib.hid (C.emax 0 (by decide) (by decide))) (Lib.hid (C.width 1 (by decide) (by decide))) (Lib.hid (C.width 0 (by decide) (by decide))) G
        (by decide +kernel) (by decide +kernel) (by decide +kernel) (by decide +kernel) (by decide +kernel) (by decide +kernel) (by decide +kernel) (by decide +kernel) (by decide +kernel) (by decide +kernel) (by decide +kernel) w ft
    · exact wide7_near 1 2 24 53 127 1023 32 64 48 50 151 302 (Lib.hid (C.prec 2 (by decide) (by decide))) (Lib.hid (C.prec 1 (by decide) (by decide))) (Lib.hid (C.emax 2 (by decide) (by decide))) (Lib.hid (C.emax 1 (by decide) (by decide))) (Lib.hid (C.width 2 (by decide) (by decide))) (Lib.hid (C.width 1 (by decide) (by decide))) G
        (by decide +kernel) (by decide +kernel) (by decide +kernel) (by decide +kernel) (by decide +kernel) (by decide +kernel) (by decide +kernel) (by decide +kernel) (by decide +kernel) (by decide +kernel) (by decide +kernel) w ft
    · exact wide7_near 2 3 53 113 1023 16383 64 128 106 108 1076 2152 (Lib.hid (C.prec 3 (by decide) (by decide))) (Lib.hid (C.prec 2 (by decide) (by decide))) (Lib.hid (C.emax 3 (by decide) (by decide))) (Lib.hid (C.emax 2 (by decide) (by decide))) (Lib.hid (C.width 3 (by decide) (by decide))) (Lib.hid (C.width 2 (by decide) (by decide))) G
        (by decide +kernel) (by decide +kernel) (by decide +kernel) (by decide +kernel) (by decide +kernel) (by decide +kernel) (by decide +kernel) (by decide +kernel) (by decide +kernel) (by decide +kernel) (by decide +kernel) w ft


end Go.Proofs.YtbihcehcdjkkiaaDoor
