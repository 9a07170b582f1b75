/-
  The walk of the statement OverKnown.
-/
import Derived.Test.YtfmccbokipljfaaDoorGfA
import Derived.Test.YtfmccbokipljfaaDoorGaA
import Derived.Test.YtfmccbokipljfaaDoorOver14M
import Derived.Test.YtfmccbokipljfaaDoorGdA
set_option linter.unusedVariables false
set_option linter.unusedSimpArgs false
set_option maxRecDepth 100000
namespace Go.Proofs.YtfmccbokipljfaaDoor
open Go.RowKit
attribute [local go_sem ↓] Go.wp_at_zero Go.wp_at_succ

set_option maxHeartbeats 4000000 in
set_option maxRecDepth 100000 in
theorem known14_core 
    (h0 : Hid (∀ w, FTab w → Calls Tryd.prog 9 #[.int .u8 4, .int .u8 0, .bool false] w fun e w' => e = .returned (.agg #[.int .u64 0, .int .u64 0, .int .u8 0]) ∧ Below w.heap.size w w'))
    (h1 : Hid (∀ w, FTab w → Calls Tryd.prog 9 #[.int .u8 0, .int .u8 5, .bool false] w fun e w' => e = .returned (.agg #[.int .u64 0, .int .u64 0, .int .u8 0]) ∧ Below w.heap.size w w'))
    (h2 : Hid (∀ w, FTab w → Calls Tryd.prog 9 #[.int .u8 3, .int .u8 2, .bool false] w fun e w' => e = .returned (.agg #[.int .u64 9223090561878065152, .int .u64 0, .int .u8 20]) ∧ Below w.heap.size w w'))
    (h3 : Hid (∀ w, FTab w → Calls Tryd.prog 9 #[.int .u8 3, .int .u8 2, .bool true] w fun e w' => e = .returned (.agg #[.int .u64 18446462598732840959, .int .u64 18446744073709551615, .int .u8 20]) ∧ Below w.heap.size w w'))
    (h4 : Hid (∀ w, FTab w → Calls Tryd.prog 11 #[.int .u8 3, .bool false] w fun e w' => e = .returned (.agg #[.int .u64 0, .int .u64 1]) ∧ Below w.heap.size w w'))
    (h5 : Hid (∀ w, FTab w → Calls Tryd.prog 13 #[.int .u8 2, .bool true] w fun e w' => e = .returned (.agg #[.int .u64 0, .int .u64 9227875636482146304]) ∧ Below w.heap.size w w'))
    (h6 : Hid (∀ w, FTab w → Calls Tryd.prog 15 #[.int .u8 0, .int .i64 15] w fun e w' => e = .returned (.bool false) ∧ Below w.heap.size w w'))
    (h7 : Hid (∀ w, FTab w → Calls Tryd.prog 16 #[.int .u8 0, .int .i64 (-14)] w fun e w' => e = .returned (.bool false) ∧ Below w.heap.size w w'))
    (h8 : Hid (∀ w, FTab w → Calls Tryd.prog 15 #[.int .u8 4, .int .i64 1099511627776] w fun e w' => e = .returned (.bool false) ∧ Below w.heap.size w w'))
    (h9 : Hid (∀ w, FTab w → Calls Tryd.prog 16 #[.int .u8 3, .int .i64 (-16383)] w fun e w' => e = .returned (.bool true) ∧ Below w.heap.size w w'))
    (h10 : Hid (∀ w, FTab w → Calls Tryd.prog 17 #[] w fun e w' => e = .returned (.bool true) ∧ Below w.heap.size w w')) (w : World) (ft : FTab w) :
    Calls Tryd.prog 7 #[] w fun e w' => e = .returned (.bool true) ∧ Below w.heap.size w w' := by
  go_enter Tryd.func7, Tryd.ntmps7
  go_wp2_with fail
  (with_reducible refine (h0.out _ (ft.later (Below.refl _ _))).mono ?_); rintro e w1 ⟨rfl, hb⟩
  have kk := hb
  clear hb
  go_wp2_with fail
  (with_reducible refine (h1.out _ (ft.later kk)).mono ?_); rintro e w2 ⟨rfl, hb⟩
  replace kk := bC kk hb
  clear hb
  go_wp2_with fail
  (with_reducible refine (h2.out _ (ft.later kk)).mono ?_); rintro e w3 ⟨rfl, hb⟩
  replace kk := bC kk hb
  clear hb
  have hfd3 : ∀ w : World, (Instr.field 30 (.agg #[.int .u64 9223090561878065152, .int .u64 0, .int .u8 20]) 0).run Tryd.prog w = .ok (.agg #[.int .u64 9223090561878065152, .int .u64 0]) w := fun _ => by kernel_rfl
  go_wp2_with fail
  (with_reducible refine (h3.out _ (ft.later kk)).mono ?_); rintro e w4 ⟨rfl, hb⟩
  replace kk := bC kk hb
  clear hb
  have hfd4 : ∀ w : World, (Instr.field 30 (.agg #[.int .u64 18446462598732840959, .int .u64 18446744073709551615, .int .u8 20]) 0).run Tryd.prog w = .ok (.agg #[.int .u64 18446462598732840959, .int .u64 18446744073709551615]) w := fun _ => by kernel_rfl
  go_wp2_with fail
  (with_reducible refine (h4.out _ (ft.later kk)).mono ?_); rintro e w5 ⟨rfl, hb⟩
  replace kk := bC kk hb
  clear hb
  go_wp2_with fail
  (with_reducible refine (h5.out _ (ft.later kk)).mono ?_); rintro e w6 ⟨rfl, hb⟩
  replace kk := bC kk hb
  clear hb
  go_wp2_with fail
  (with_reducible refine (h6.out _ (ft.later kk)).mono ?_); rintro e w7 ⟨rfl, hb⟩
  replace kk := bC kk hb
  clear hb
  go_wp2_with fail
  (with_reducible refine (h7.out _ (ft.later kk)).mono ?_); rintro e w8 ⟨rfl, hb⟩
  replace kk := bC kk hb
  clear hb
  go_wp2_with fail
  (with_reducible refine (h8.out _ (ft.later kk)).mono ?_); rintro e w9 ⟨rfl, hb⟩
  replace kk := bC kk hb
  clear hb
  go_wp2_with fail
  (with_reducible refine (h9.out _ (ft.later kk)).mono ?_); rintro e w10 ⟨rfl, hb⟩
  replace kk := bC kk hb
  clear hb
  go_wp2_with fail
  (with_reducible refine (h10.out _ (ft.later kk)).mono ?_); rintro e w11 ⟨rfl, hb⟩
  replace kk := bC kk hb
  clear hb
  go_wp2_with fail
  go_ret
  exact ⟨rfl, kk⟩

end Go.Proofs.YtfmccbokipljfaaDoor
