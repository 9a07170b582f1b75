/-
  The walk of the statement OverEnds.
-/
import Derived.Test.YtfmccbokipljfaaDoorGfA
import Derived.Test.YtfmccbokipljfaaDoorGaA
import Derived.Test.YtfmccbokipljfaaDoorOver14M
import Derived.Test.YtfmccbokipljfaaDoorGdA
set_option linter.unusedVariables false
set_option linter.unusedSimpArgs false
set_option maxRecDepth 100000
namespace Go.Proofs.YtfmccbokipljfaaDoor
open Go.RowKit
attribute [local go_sem ↓] Go.wp_at_zero Go.wp_at_succ

theorem eqr_same (h l c : Int) (w : World) : (binOp .eql 30 (.agg #[.int .u64 h, .int .u64 l, .int .u8 c]) (.agg #[.int .u64 h, .int .u64 l, .int .u8 c])).run Tryd.prog w = .ok (.bool true) w := by
  go_simp

set_option maxHeartbeats 4000000 in
set_option maxRecDepth 100000 in
theorem ends14_yes (f m x em rh rl fl lh ll nh nl k : Int) (ng p q : Bool)
    (h0 : Hid (∀ w, Calls Tryd.prog 8 #[.int .u8 f] w fun e w' => e = .returned (.int .i64 em) ∧ Below w.heap.size w w'))
    (h1 : Hid (∀ w, FTab w → Calls Tryd.prog 9 #[.int .u8 f, .int .u8 m, .bool ng] w fun e w' => e = .returned (.agg #[.int .u64 rh, .int .u64 rl, .int .u8 fl]) ∧ Below w.heap.size w w'))
    (h2 : Hid (∀ w, Calls Tryd.prog 10 #[.int .u8 f, .int .u8 m, .bool ng] w fun e w' => e = .returned (.agg #[.int .u64 rh, .int .u64 rl, .int .u8 fl]) ∧ Below w.heap.size w w'))
    (h3 : Hid (∀ w, FTab w → Calls Tryd.prog 11 #[.int .u8 f, .bool ng] w fun e w' => e = .returned (.agg #[.int .u64 lh, .int .u64 ll]) ∧ Below w.heap.size w w'))
    (h4 : Hid (∀ w, Calls Tryd.prog 12 #[.int .u8 f, .bool ng] w fun e w' => e = .returned (.agg #[.int .u64 lh, .int .u64 ll]) ∧ Below w.heap.size w w'))
    (h5 : Hid (∀ w, FTab w → Calls Tryd.prog 13 #[.int .u8 f, .bool ng] w fun e w' => e = .returned (.agg #[.int .u64 nh, .int .u64 nl]) ∧ Below w.heap.size w w'))
    (h6 : Hid (∀ w, Calls Tryd.prog 14 #[.int .u8 f, .bool ng] w fun e w' => e = .returned (.agg #[.int .u64 nh, .int .u64 nl]) ∧ Below w.heap.size w w'))
    (h7 : Hid (∀ w, FTab w → Calls Tryd.prog 15 #[.int .u8 f, .int .i64 x] w fun e w' => e = .returned (.bool p) ∧ Below w.heap.size w w'))
    (h8 : Hid (∀ w, FTab w → Calls Tryd.prog 16 #[.int .u8 f, .int .i64 x] w fun e w' => e = .returned (.bool q) ∧ Below w.heap.size w w'))
    (h9 : Hid (∀ w, FTab w → Calls Tryd.prog 17 #[] w fun e w' => e = .returned (.bool true) ∧ Below w.heap.size w w')) (g4 : decide (f < 4) = true) (j1 : decide (em < x) = p) (w1 : IntKind.i64.wrap (1 - em) = k) (j2 : decide (x < k) = q) (w : World) (ft : FTab w) :
    Calls Tryd.prog 3 #[.int .u8 f, .int .u8 m, .bool ng, .int .i64 x] w fun e w' => e = .returned (.bool true) ∧ Below w.heap.size w w' := by
  have EQ := eqr_same rh rl fl
  go_enter Tryd.func3, Tryd.ntmps3
  go_wp2_with fail
  (with_reducible refine (h0.out _).mono ?_); rintro e w1 ⟨rfl, hb⟩
  have kk := hb
  clear hb
  go_wp2_with fail
  (with_reducible refine (h1.out _ (ft.later kk)).mono ?_); rintro e w2 ⟨rfl, hb⟩
  replace kk := bC kk hb
  clear hb
  go_wp2_with fail
  (with_reducible refine (h2.out _).mono ?_); rintro e w3 ⟨rfl, hb⟩
  replace kk := bC kk hb
  clear hb
  go_wp2_with fail
  (with_reducible refine (h3.out _ (ft.later kk)).mono ?_); rintro e w4 ⟨rfl, hb⟩
  replace kk := bC kk hb
  clear hb
  go_wp2_with fail
  (with_reducible refine (h4.out _).mono ?_); rintro e w5 ⟨rfl, hb⟩
  replace kk := bC kk hb
  clear hb
  go_wp2_with fail
  (with_reducible refine (h5.out _ (ft.later kk)).mono ?_); rintro e w6 ⟨rfl, hb⟩
  replace kk := bC kk hb
  clear hb
  go_wp2_with fail
  (with_reducible refine (h6.out _).mono ?_); rintro e w7 ⟨rfl, hb⟩
  replace kk := bC kk hb
  clear hb
  go_wp2_with fail
  (with_reducible refine (h7.out _ (ft.later kk)).mono ?_); rintro e w8 ⟨rfl, hb⟩
  replace kk := bC kk hb
  clear hb
  go_wp2_with fail
  (with_reducible refine (h8.out _ (ft.later kk)).mono ?_); rintro e w9 ⟨rfl, hb⟩
  replace kk := bC kk hb
  clear hb
  go_wp2_with fail
  (with_reducible refine (h9.out _ (ft.later kk)).mono ?_); rintro e w10 ⟨rfl, hb⟩
  replace kk := bC kk hb
  clear hb
  go_wp2_with fail
  go_ret
  exact ⟨rfl, kk⟩

set_option maxHeartbeats 4000000 in
set_option maxRecDepth 100000 in
theorem ends14_no (f m x em rh rl fl lh ll nh nl : Int) (ng : Bool)
    (h0 : Hid (∀ w, Calls Tryd.prog 8 #[.int .u8 f] w fun e w' => e = .returned (.int .i64 em) ∧ Below w.heap.size w w'))
    (h1 : Hid (∀ w, FTab w → Calls Tryd.prog 9 #[.int .u8 f, .int .u8 m, .bool ng] w fun e w' => e = .returned (.agg #[.int .u64 rh, .int .u64 rl, .int .u8 fl]) ∧ Below w.heap.size w w'))
    (h2 : Hid (∀ w, Calls Tryd.prog 10 #[.int .u8 f, .int .u8 m, .bool ng] w fun e w' => e = .returned (.agg #[.int .u64 rh, .int .u64 rl, .int .u8 fl]) ∧ Below w.heap.size w w'))
    (h3 : Hid (∀ w, FTab w → Calls Tryd.prog 11 #[.int .u8 f, .bool ng] w fun e w' => e = .returned (.agg #[.int .u64 lh, .int .u64 ll]) ∧ Below w.heap.size w w'))
    (h4 : Hid (∀ w, Calls Tryd.prog 12 #[.int .u8 f, .bool ng] w fun e w' => e = .returned (.agg #[.int .u64 lh, .int .u64 ll]) ∧ Below w.heap.size w w'))
    (h5 : Hid (∀ w, FTab w → Calls Tryd.prog 13 #[.int .u8 f, .bool ng] w fun e w' => e = .returned (.agg #[.int .u64 nh, .int .u64 nl]) ∧ Below w.heap.size w w'))
    (h6 : Hid (∀ w, Calls Tryd.prog 14 #[.int .u8 f, .bool ng] w fun e w' => e = .returned (.agg #[.int .u64 nh, .int .u64 nl]) ∧ Below w.heap.size w w'))
    (h7 : Hid (∀ w, FTab w → Calls Tryd.prog 15 #[.int .u8 f, .int .i64 x] w fun e w' => e = .returned (.bool false) ∧ Below w.heap.size w w'))
    (h8 : Hid (∀ w, FTab w → Calls Tryd.prog 16 #[.int .u8 f, .int .i64 x] w fun e w' => e = .returned (.bool false) ∧ Below w.heap.size w w'))
    (h9 : Hid (∀ w, FTab w → Calls Tryd.prog 17 #[] w fun e w' => e = .returned (.bool true) ∧ Below w.heap.size w w')) (g4 : decide (f < 4) = false) (w : World) (ft : FTab w) :
    Calls Tryd.prog 3 #[.int .u8 f, .int .u8 m, .bool ng, .int .i64 x] w fun e w' => e = .returned (.bool true) ∧ Below w.heap.size w w' := by
  have EQ := eqr_same rh rl fl
  go_enter Tryd.func3, Tryd.ntmps3
  go_wp2_with fail
  (with_reducible refine (h0.out _).mono ?_); rintro e w1 ⟨rfl, hb⟩
  have kk := hb
  clear hb
  go_wp2_with fail
  (with_reducible refine (h1.out _ (ft.later kk)).mono ?_); rintro e w2 ⟨rfl, hb⟩
  replace kk := bC kk hb
  clear hb
  go_wp2_with fail
  (with_reducible refine (h2.out _).mono ?_); rintro e w3 ⟨rfl, hb⟩
  replace kk := bC kk hb
  clear hb
  go_wp2_with fail
  (with_reducible refine (h3.out _ (ft.later kk)).mono ?_); rintro e w4 ⟨rfl, hb⟩
  replace kk := bC kk hb
  clear hb
  go_wp2_with fail
  (with_reducible refine (h4.out _).mono ?_); rintro e w5 ⟨rfl, hb⟩
  replace kk := bC kk hb
  clear hb
  go_wp2_with fail
  (with_reducible refine (h5.out _ (ft.later kk)).mono ?_); rintro e w6 ⟨rfl, hb⟩
  replace kk := bC kk hb
  clear hb
  go_wp2_with fail
  (with_reducible refine (h6.out _).mono ?_); rintro e w7 ⟨rfl, hb⟩
  replace kk := bC kk hb
  clear hb
  go_wp2_with fail
  (with_reducible refine (h7.out _ (ft.later kk)).mono ?_); rintro e w8 ⟨rfl, hb⟩
  replace kk := bC kk hb
  clear hb
  go_wp2_with fail
  (with_reducible refine (h8.out _ (ft.later kk)).mono ?_); rintro e w9 ⟨rfl, hb⟩
  replace kk := bC kk hb
  clear hb
  go_wp2_with fail
  (with_reducible refine (h9.out _ (ft.later kk)).mono ?_); rintro e w10 ⟨rfl, hb⟩
  replace kk := bC kk hb
  clear hb
  go_wp2_with fail
  go_ret
  exact ⟨rfl, kk⟩

end Go.Proofs.YtfmccbokipljfaaDoor
