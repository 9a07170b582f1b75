/-
  The walk of the example that every statement of stage 7 asks.
-/
import Derived.Test.YtbihcehcdjkkiaaDoorForm7T
import Derived.Test.YtbihcehcdjkkiaaDoorGaA
import Derived.Test.YtbihcehcdjkkiaaDoorRef7
set_option linter.unusedVariables false
set_option linter.unusedSimpArgs false
set_option maxRecDepth 100000
namespace Go.Proofs.YtbihcehcdjkkiaaDoor
open Go.RowKit
attribute [local go_sem ↓] Go.wp_at_zero Go.wp_at_succ

set_option maxHeartbeats 4000000 in
set_option maxRecDepth 100000 in
theorem goes7_core 
    (h0 : Hid (∀ w, FTab w → Calls Tryd.prog 28 #[.int .u8 0, .agg #[.int .u64 0, .int .u64 15361]] w fun e w' => e = .returned (.tuple #[.bool false, .int .i64 15, .agg #[.int .u64 0, .int .u64 1]]) ∧ Below w.heap.size w w'))
    (h1 : Hid (∀ w, FTab w → Calls Tryd.prog 21 #[.int .u8 1, .bool true] w fun e w' => e = .returned (.agg #[.int .u64 0, .int .u64 4286578688]) ∧ Below w.heap.size w w'))
    (h2 : Hid (∀ w, FTab w → Calls Tryd.prog 23 #[.int .u8 0, .bool false] w fun e w' => e = .returned (.agg #[.int .u64 0, .int .u64 31743]) ∧ Below w.heap.size w w'))
    (h3 : Hid (∀ w, FTab w → Calls Tryd.prog 19 #[.int .u8 0, .agg #[.int .u64 0, .int .u64 131071]] w fun e w' => e = .returned (.agg #[.int .u64 0, .int .u64 65535]) ∧ Below w.heap.size w w'))
    (h4 : Hid (∀ w, FTab w → Calls Tryd.prog 15 #[.int .u8 3] w fun e w' => e = .returned (.int .i64 113) ∧ Below w.heap.size w w')) (w : World) (ft : FTab w) :
    Calls Tryd.prog 27 #[] w fun e w' => e = .returned (.bool true) ∧ Below w.heap.size w w' := by
  go_enter Tryd.func27, Tryd.ntmps27
  go_wp2_with fail
  (with_reducible refine (h0.out _ (ft.later (Below.refl _ _))).mono ?_); rintro e w1 ⟨rfl, hb⟩
  have kk := hb
  clear hb
  go_wp2_with fail
  (with_reducible refine (h1.out _ (ft.later (bC kk (bA (Below.refl _ _) _)))).mono ?_); rintro e w2 ⟨rfl, hb⟩
  have hz := bC (bA (Below.refl _ _) _) hb
  replace kk := bC kk hz
  clear hb hz
  go_wp2_with fail
  (with_reducible refine (h2.out _ (ft.later kk)).mono ?_); rintro e w3 ⟨rfl, hb⟩
  replace kk := bC kk hb
  clear hb
  go_wp2_with fail
  (with_reducible refine (h3.out _ (ft.later kk)).mono ?_); rintro e w4 ⟨rfl, hb⟩
  replace kk := bC kk hb
  clear hb
  go_wp2_with fail
  (with_reducible refine (h4.out _ (ft.later kk)).mono ?_); rintro e w5 ⟨rfl, hb⟩
  replace kk := bC kk hb
  clear hb
  go_wp2_with fail
  go_ret
  exact ⟨rfl, kk⟩

end Go.Proofs.YtbihcehcdjkkiaaDoor
