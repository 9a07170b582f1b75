/-
  The walk of the example that every statement of stage 14 asks.
-/
import Derived.Test.YtfmccbokipljfaaDoorGfA
import Derived.Test.YtfmccbokipljfaaDoorGaA
import Derived.Test.YtfmccbokipljfaaDoorOver14M
import Derived.Test.YtfmccbokipljfaaDoorGdA
set_option linter.unusedVariables false
set_option linter.unusedSimpArgs false
set_option maxRecDepth 100000
namespace Go.Proofs.YtfmccbokipljfaaDoor
open Go.RowKit
attribute [local go_sem ↓] Go.wp_at_zero Go.wp_at_succ

set_option maxHeartbeats 4000000 in
set_option maxRecDepth 100000 in
theorem goes14_core 
    (h0 : Hid (∀ w, FTab w → Calls Tryd.prog 9 #[.int .u8 0, .int .u8 0, .bool false] w fun e w' => e = .returned (.agg #[.int .u64 0, .int .u64 31744, .int .u8 20]) ∧ Below w.heap.size w w'))
    (h1 : Hid (∀ w, FTab w → Calls Tryd.prog 9 #[.int .u8 0, .int .u8 4, .bool true] w fun e w' => e = .returned (.agg #[.int .u64 0, .int .u64 64511, .int .u8 20]) ∧ Below w.heap.size w w'))
    (h2 : Hid (∀ w, FTab w → Calls Tryd.prog 11 #[.int .u8 1, .bool true] w fun e w' => e = .returned (.agg #[.int .u64 0, .int .u64 2147483649]) ∧ Below w.heap.size w w'))
    (h3 : Hid (∀ w, FTab w → Calls Tryd.prog 13 #[.int .u8 0, .bool false] w fun e w' => e = .returned (.agg #[.int .u64 0, .int .u64 1024]) ∧ Below w.heap.size w w'))
    (h4 : Hid (∀ w, FTab w → Calls Tryd.prog 15 #[.int .u8 0, .int .i64 16] w fun e w' => e = .returned (.bool true) ∧ Below w.heap.size w w'))
    (h5 : Hid (∀ w, FTab w → Calls Tryd.prog 16 #[.int .u8 0, .int .i64 (-15)] w fun e w' => e = .returned (.bool true) ∧ Below w.heap.size w w')) (w : World) (ft : FTab w) :
    Calls Tryd.prog 17 #[] w fun e w' => e = .returned (.bool true) ∧ Below w.heap.size w w' := by
  go_enter Tryd.func17, Tryd.ntmps17
  go_wp2_with fail
  (with_reducible refine (h0.out _ (ft.later (Below.refl _ _))).mono ?_); rintro e w1 ⟨rfl, hb⟩
  have kk := hb
  clear hb
  go_wp2_with fail
  (with_reducible refine (h1.out _ (ft.later kk)).mono ?_); rintro e w2 ⟨rfl, hb⟩
  replace kk := bC kk hb
  clear hb
  go_wp2_with fail
  (with_reducible refine (h2.out _ (ft.later (bC kk (bA (bA (Below.refl _ _) _) _)))).mono ?_); rintro e w3 ⟨rfl, hb⟩
  have hz := bC (bA (bA (Below.refl _ _) _) _) hb
  replace kk := bC kk hz
  clear hb hz
  go_wp2_with fail
  (with_reducible refine (h3.out _ (ft.later kk)).mono ?_); rintro e w4 ⟨rfl, hb⟩
  replace kk := bC kk hb
  clear hb
  go_wp2_with fail
  (with_reducible refine (h4.out _ (ft.later kk)).mono ?_); rintro e w5 ⟨rfl, hb⟩
  replace kk := bC kk hb
  clear hb
  go_wp2_with fail
  (with_reducible refine (h5.out _ (ft.later kk)).mono ?_); rintro e w6 ⟨rfl, hb⟩
  replace kk := bC kk hb
  clear hb
  go_wp2_with fail
  go_ret
  exact ⟨rfl, kk⟩

end Go.Proofs.YtfmccbokipljfaaDoor
