/-
  An encoding without its sign.
-/
import Derived.Test.YtnaamckhignjeaaGreatDoorSize18
import Derived.Test.YtnaamckhignjeaaGreatDoorAdd18N
set_option linter.unusedVariables false
set_option linter.unusedSimpArgs false
set_option maxRecDepth 100000
namespace Go.Proofs.YtnaamckhignjeaaGreatDoor
open Go.RowKit
attribute [local go_sem ↓] Go.wp_at_zero Go.wp_at_succ

theorem size18N (C : FormOK) (f b : Int) (f0 : 0 ≤ f) (f1 : f ≤ 255) (b0 : 0 ≤ b) (b1 : b < full) (w : World) (ft : FTab w) : Calls Tryz.prog 28 #[.int .u8 f, .agg #[.int .u64 (hiOf (b)), .int .u64 (loOf (b))]] w fun e w' => e = .returned (.agg #[.int .u64 (hiOf (szF f b)), .int .u64 (loOf (szF f b))]) ∧ Below w.heap.size w w' := by
  have S := C.split f b f0 f1
  rw [Int.emod_eq_of_lt b0 b1] at S
  have er := exp_i64 (f := f) (b := b) f0 b0
  have fr := frac_low (f := f) (b := b) f0
  have Mk := C.make f false (expF f b) (fracF f b) f0 f1 er.1 er.2
  rw [Int.emod_eq_of_lt fr.1 fr.2] at Mk
  exact size18 f _ _ _ _ _ _ _ _ (Lib.hid S) (Lib.hid Mk) w ft


end Go.Proofs.YtnaamckhignjeaaGreatDoor
