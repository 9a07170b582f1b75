/-
  RootAll over digits.
-/
import Derived.Test.YtbibinmjipcdjaaAll6
import Derived.Test.YtbibinmjipcdjaaGoes6
set_option linter.unusedVariables false
set_option linter.unusedSimpArgs false
set_option maxRecDepth 100000
namespace Go.Proofs.Ytbibinmjipcdjaa
open Go.RowKit
attribute [local go_sem ↓] Go.wp_at_zero Go.wp_at_succ



theorem all6_law (C : RootOK) (a0 a1 a2 a3 : Int) (ua0 : U64 a0) (ua1 : U64 a1) (ua2 : U64 a2) (ua3 : U64 a3) (w : World) :
    Calls Try.prog 3 #[.agg #[.int .u64 a0, .int .u64 a1, .int .u64 a2, .int .u64 a3]] w fun e w' => e = .returned (.bool true) ∧ Below w.heap.size w w' := by
  have h := all6_walk (wval a0 a1 a2 a3) (Lib.hid C) (Lib.hid (goes6_any C)) w
  obtain ⟨e0, e1, e2, e3⟩ := wd_wval ua0 ua1 ua2 ua3
  rw [e0, e1, e2, e3] at h
  exact h


end Go.Proofs.Ytbibinmjipcdjaa
