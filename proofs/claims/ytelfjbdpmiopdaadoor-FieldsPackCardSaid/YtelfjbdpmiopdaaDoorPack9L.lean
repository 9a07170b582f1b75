/-
  FieldsPack over digits.
-/
import Derived.Test.YtelfjbdpmiopdaaDoorPack9
import Derived.Test.YtelfjbdpmiopdaaDoorGoes9L
set_option linter.unusedVariables false
set_option linter.unusedSimpArgs false
set_option maxRecDepth 100000
namespace Go.Proofs.YtelfjbdpmiopdaaDoor
open Go.RowKit
attribute [local go_sem ↓] Go.wp_at_zero Go.wp_at_succ

theorem pack9_law_n (C : FldOK) (f : Int) (ng : Bool) (nc ne s : Int) (f0 : 0 ≤ f) (f1 : f ≤ 255) (unc : 0 ≤ nc ∧ nc ≤ 255) (une : -9223372036854775808 ≤ ne ∧ ne ≤ 9223372036854775807) (w : World) (ft : FTab w) : Calls Tryd.prog 4 #[.int .u8 f, .agg #[.bool ng, .int .u8 nc, .int .i64 ne, .int .u64 (hiOf (s)), .int .u64 (loOf (s))]] w fun e w' => e = .returned (.bool true) ∧ Below w.heap.size w w' :=
  pack9_core f nc ne _ _ _ _ ng _ (Lib.hid (C.pack f ng nc ne s f0 f1 unc.1 unc.2 une.1 une.2)) (Lib.hid (ref9_pack f ng nc ne s f0 f1 unc.1 unc.2 une.1 une.2)) (Lib.hid (goes9_any C)) w ft
theorem pack9_law (C : FldOK) (f : Int) (ng : Bool) (nc ne nh nl : Int) (uf : 0 ≤ f ∧ f ≤ 255) (unc : 0 ≤ nc ∧ nc ≤ 255) (une : -9223372036854775808 ≤ ne ∧ ne ≤ 9223372036854775807) (unh : U64 nh) (unl : U64 nl) (w : World) (ft : FTab w) : Calls Tryd.prog 4 #[.int .u8 f, .agg #[.bool ng, .int .u8 nc, .int .i64 ne, .int .u64 nh, .int .u64 nl]] w fun e w' => e = .returned (.bool true) ∧ Below w.heap.size w w' := by
  have h := pack9_law_n C f ng nc ne (val nh nl) uf.1 uf.2 unc une w ft
  rw [(hl_val unh unl).1, (hl_val unh unl).2] at h
  exact h


end Go.Proofs.YtelfjbdpmiopdaaDoor
