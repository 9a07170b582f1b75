/-
  The walk of the statement ModeOrder.
-/
import Derived.Test.YtjinnbfffalmkaaGaA
import Derived.Test.YtjinnbfffalmkaaMode13M
set_option linter.unusedVariables false
set_option linter.unusedSimpArgs false
set_option maxRecDepth 100000
namespace Go.Proofs.Ytjinnbfffalmkaa
open Go.RowKit
attribute [local go_sem ↓] Go.wp_at_zero Go.wp_at_succ

set_option maxHeartbeats 4000000 in
set_option maxRecDepth 100000 in
theorem order13_yes1 (m r s s1 : Int) (ng od : Bool)
    (h0 : Hid (∀ w, Calls Try.prog 8 #[.int .u8 m, .bool ng, .bool od, .int .u8 s] w fun e w' => e = .returned (.bool true) ∧ Below w.heap.size w w'))
    (h1 : Hid (∀ w, Calls Try.prog 8 #[.int .u8 m, .bool ng, .bool od, .int .u8 s1] w fun e w' => e = .returned (.bool true) ∧ Below w.heap.size w w'))
    (h2 : Hid (∀ w, Calls Try.prog 8 #[.int .u8 2, .bool ng, .bool od, .int .u8 s] w fun e w' => e = .returned (.bool true) ∧ Below w.heap.size w w'))
    (h3 : Hid (∀ w, Calls Try.prog 8 #[.int .u8 3, .bool ng, .bool od, .int .u8 s] w fun e w' => e = .returned (.bool false) ∧ Below w.heap.size w w'))
    (h4 : Hid (∀ w, Calls Try.prog 8 #[.int .u8 4, .bool ng, .bool od, .int .u8 s] w fun e w' => e = .returned (.bool false) ∧ Below w.heap.size w w'))
    (h5 : Hid (∀ w, Calls Try.prog 8 #[.int .u8 m, .bool ng, .bool od, .int .u8 0] w fun e w' => e = .returned (.bool false) ∧ Below w.heap.size w w'))
    (h6 : Hid (∀ w, Calls Try.prog 13 #[] w fun e w' => e = .returned (.bool true) ∧ Below w.heap.size w w')) (e1 : r.tmod 4 = s) (e3 : (s != 0) = true) (c1 : decide (s < 3) = true) (w1 : IntKind.u8.wrap (s + 1) = s1) (w : World) :
    Calls Try.prog 6 #[.int .u8 m, .bool ng, .bool od, .int .u8 r] w fun e w' => e = .returned (.bool true) ∧ Below w.heap.size w w' := by
  go_enter Try.func6, Try.ntmps6
  go_wp2_with fail
  (with_reducible refine (h0.out _).mono ?_); rintro e w1 ⟨rfl, hb⟩
  have kk := hb
  clear hb
  go_wp2_with fail
  (with_reducible refine (h1.out _).mono ?_); rintro e w2 ⟨rfl, hb⟩
  replace kk := bC kk hb
  clear hb
  go_wp2_with fail
  (with_reducible refine (h2.out _).mono ?_); rintro e w3 ⟨rfl, hb⟩
  replace kk := bC kk hb
  clear hb
  go_wp2_with fail
  (with_reducible refine (h3.out _).mono ?_); rintro e w4 ⟨rfl, hb⟩
  replace kk := bC kk hb
  clear hb
  go_wp2_with fail
  (with_reducible refine (h4.out _).mono ?_); rintro e w5 ⟨rfl, hb⟩
  replace kk := bC kk hb
  clear hb
  go_wp2_with fail
  (with_reducible refine (h5.out _).mono ?_); rintro e w6 ⟨rfl, hb⟩
  replace kk := bC kk hb
  clear hb
  go_wp2_with fail
  (with_reducible refine (h6.out _).mono ?_); rintro e w7 ⟨rfl, hb⟩
  replace kk := bC kk hb
  clear hb
  go_wp2_with fail
  go_ret
  exact ⟨rfl, kk⟩

set_option maxHeartbeats 4000000 in
set_option maxRecDepth 100000 in
theorem order13_no11 (m r s : Int) (ng od : Bool)
    (h0 : Hid (∀ w, Calls Try.prog 8 #[.int .u8 m, .bool ng, .bool od, .int .u8 s] w fun e w' => e = .returned (.bool false) ∧ Below w.heap.size w w'))
    (h2 : Hid (∀ w, Calls Try.prog 8 #[.int .u8 2, .bool ng, .bool od, .int .u8 s] w fun e w' => e = .returned (.bool true) ∧ Below w.heap.size w w'))
    (h3 : Hid (∀ w, Calls Try.prog 8 #[.int .u8 3, .bool ng, .bool od, .int .u8 s] w fun e w' => e = .returned (.bool false) ∧ Below w.heap.size w w'))
    (h4 : Hid (∀ w, Calls Try.prog 8 #[.int .u8 4, .bool ng, .bool od, .int .u8 s] w fun e w' => e = .returned (.bool false) ∧ Below w.heap.size w w'))
    (h5 : Hid (∀ w, Calls Try.prog 8 #[.int .u8 m, .bool ng, .bool od, .int .u8 0] w fun e w' => e = .returned (.bool false) ∧ Below w.heap.size w w'))
    (h6 : Hid (∀ w, Calls Try.prog 13 #[] w fun e w' => e = .returned (.bool true) ∧ Below w.heap.size w w')) (e1 : r.tmod 4 = s) (e3 : (s != 0) = true) (c1 : decide (s < 3) = true) (w : World) :
    Calls Try.prog 6 #[.int .u8 m, .bool ng, .bool od, .int .u8 r] w fun e w' => e = .returned (.bool true) ∧ Below w.heap.size w w' := by
  go_enter Try.func6, Try.ntmps6
  go_wp2_with fail
  (with_reducible refine (h0.out _).mono ?_); rintro e w1 ⟨rfl, hb⟩
  have kk := hb
  clear hb
  go_wp2_with fail
  (with_reducible refine (h2.out _).mono ?_); rintro e w2 ⟨rfl, hb⟩
  replace kk := bC kk hb
  clear hb
  go_wp2_with fail
  (with_reducible refine (h3.out _).mono ?_); rintro e w3 ⟨rfl, hb⟩
  replace kk := bC kk hb
  clear hb
  go_wp2_with fail
  (with_reducible refine (h4.out _).mono ?_); rintro e w4 ⟨rfl, hb⟩
  replace kk := bC kk hb
  clear hb
  go_wp2_with fail
  (with_reducible refine (h5.out _).mono ?_); rintro e w5 ⟨rfl, hb⟩
  replace kk := bC kk hb
  clear hb
  go_wp2_with fail
  (with_reducible refine (h6.out _).mono ?_); rintro e w6 ⟨rfl, hb⟩
  replace kk := bC kk hb
  clear hb
  go_wp2_with fail
  go_ret
  exact ⟨rfl, kk⟩

set_option maxHeartbeats 4000000 in
set_option maxRecDepth 100000 in
theorem order13_three1 (m r s : Int) (ng od : Bool)
    (h2 : Hid (∀ w, Calls Try.prog 8 #[.int .u8 2, .bool ng, .bool od, .int .u8 s] w fun e w' => e = .returned (.bool true) ∧ Below w.heap.size w w'))
    (h3 : Hid (∀ w, Calls Try.prog 8 #[.int .u8 3, .bool ng, .bool od, .int .u8 s] w fun e w' => e = .returned (.bool false) ∧ Below w.heap.size w w'))
    (h4 : Hid (∀ w, Calls Try.prog 8 #[.int .u8 4, .bool ng, .bool od, .int .u8 s] w fun e w' => e = .returned (.bool false) ∧ Below w.heap.size w w'))
    (h5 : Hid (∀ w, Calls Try.prog 8 #[.int .u8 m, .bool ng, .bool od, .int .u8 0] w fun e w' => e = .returned (.bool false) ∧ Below w.heap.size w w'))
    (h6 : Hid (∀ w, Calls Try.prog 13 #[] w fun e w' => e = .returned (.bool true) ∧ Below w.heap.size w w')) (e1 : r.tmod 4 = s) (e3 : (s != 0) = true) (c1 : decide (s < 3) = false) (w : World) :
    Calls Try.prog 6 #[.int .u8 m, .bool ng, .bool od, .int .u8 r] w fun e w' => e = .returned (.bool true) ∧ Below w.heap.size w w' := by
  go_enter Try.func6, Try.ntmps6
  go_wp2_with fail
  (with_reducible refine (h2.out _).mono ?_); rintro e w1 ⟨rfl, hb⟩
  have kk := hb
  clear hb
  go_wp2_with fail
  (with_reducible refine (h3.out _).mono ?_); rintro e w2 ⟨rfl, hb⟩
  replace kk := bC kk hb
  clear hb
  go_wp2_with fail
  (with_reducible refine (h4.out _).mono ?_); rintro e w3 ⟨rfl, hb⟩
  replace kk := bC kk hb
  clear hb
  go_wp2_with fail
  (with_reducible refine (h5.out _).mono ?_); rintro e w4 ⟨rfl, hb⟩
  replace kk := bC kk hb
  clear hb
  go_wp2_with fail
  (with_reducible refine (h6.out _).mono ?_); rintro e w5 ⟨rfl, hb⟩
  replace kk := bC kk hb
  clear hb
  go_wp2_with fail
  go_ret
  exact ⟨rfl, kk⟩

set_option maxHeartbeats 4000000 in
set_option maxRecDepth 100000 in
theorem order13_yes0 (m r s s1 : Int) (ng od : Bool)
    (h0 : Hid (∀ w, Calls Try.prog 8 #[.int .u8 m, .bool ng, .bool od, .int .u8 s] w fun e w' => e = .returned (.bool true) ∧ Below w.heap.size w w'))
    (h1 : Hid (∀ w, Calls Try.prog 8 #[.int .u8 m, .bool ng, .bool od, .int .u8 s1] w fun e w' => e = .returned (.bool true) ∧ Below w.heap.size w w'))
    (h2 : Hid (∀ w, Calls Try.prog 8 #[.int .u8 2, .bool ng, .bool od, .int .u8 s] w fun e w' => e = .returned (.bool false) ∧ Below w.heap.size w w'))
    (h3 : Hid (∀ w, Calls Try.prog 8 #[.int .u8 3, .bool ng, .bool od, .int .u8 s] w fun e w' => e = .returned (.bool true) ∧ Below w.heap.size w w'))
    (h4 : Hid (∀ w, Calls Try.prog 8 #[.int .u8 4, .bool ng, .bool od, .int .u8 s] w fun e w' => e = .returned (.bool false) ∧ Below w.heap.size w w'))
    (h5 : Hid (∀ w, Calls Try.prog 8 #[.int .u8 m, .bool ng, .bool od, .int .u8 0] w fun e w' => e = .returned (.bool false) ∧ Below w.heap.size w w'))
    (h6 : Hid (∀ w, Calls Try.prog 13 #[] w fun e w' => e = .returned (.bool true) ∧ Below w.heap.size w w')) (e1 : r.tmod 4 = s) (e3 : (s != 0) = true) (c1 : decide (s < 3) = true) (w1 : IntKind.u8.wrap (s + 1) = s1) (w : World) :
    Calls Try.prog 6 #[.int .u8 m, .bool ng, .bool od, .int .u8 r] w fun e w' => e = .returned (.bool true) ∧ Below w.heap.size w w' := by
  go_enter Try.func6, Try.ntmps6
  go_wp2_with fail
  (with_reducible refine (h0.out _).mono ?_); rintro e w1 ⟨rfl, hb⟩
  have kk := hb
  clear hb
  go_wp2_with fail
  (with_reducible refine (h1.out _).mono ?_); rintro e w2 ⟨rfl, hb⟩
  replace kk := bC kk hb
  clear hb
  go_wp2_with fail
  (with_reducible refine (h2.out _).mono ?_); rintro e w3 ⟨rfl, hb⟩
  replace kk := bC kk hb
  clear hb
  go_wp2_with fail
  (with_reducible refine (h3.out _).mono ?_); rintro e w4 ⟨rfl, hb⟩
  replace kk := bC kk hb
  clear hb
  go_wp2_with fail
  (with_reducible refine (h4.out _).mono ?_); rintro e w5 ⟨rfl, hb⟩
  replace kk := bC kk hb
  clear hb
  go_wp2_with fail
  (with_reducible refine (h5.out _).mono ?_); rintro e w6 ⟨rfl, hb⟩
  replace kk := bC kk hb
  clear hb
  go_wp2_with fail
  (with_reducible refine (h6.out _).mono ?_); rintro e w7 ⟨rfl, hb⟩
  replace kk := bC kk hb
  clear hb
  go_wp2_with fail
  go_ret
  exact ⟨rfl, kk⟩

set_option maxHeartbeats 4000000 in
set_option maxRecDepth 100000 in
theorem order13_no10 (m r s : Int) (ng od : Bool)
    (h0 : Hid (∀ w, Calls Try.prog 8 #[.int .u8 m, .bool ng, .bool od, .int .u8 s] w fun e w' => e = .returned (.bool false) ∧ Below w.heap.size w w'))
    (h2 : Hid (∀ w, Calls Try.prog 8 #[.int .u8 2, .bool ng, .bool od, .int .u8 s] w fun e w' => e = .returned (.bool false) ∧ Below w.heap.size w w'))
    (h3 : Hid (∀ w, Calls Try.prog 8 #[.int .u8 3, .bool ng, .bool od, .int .u8 s] w fun e w' => e = .returned (.bool true) ∧ Below w.heap.size w w'))
    (h4 : Hid (∀ w, Calls Try.prog 8 #[.int .u8 4, .bool ng, .bool od, .int .u8 s] w fun e w' => e = .returned (.bool false) ∧ Below w.heap.size w w'))
    (h5 : Hid (∀ w, Calls Try.prog 8 #[.int .u8 m, .bool ng, .bool od, .int .u8 0] w fun e w' => e = .returned (.bool false) ∧ Below w.heap.size w w'))
    (h6 : Hid (∀ w, Calls Try.prog 13 #[] w fun e w' => e = .returned (.bool true) ∧ Below w.heap.size w w')) (e1 : r.tmod 4 = s) (e3 : (s != 0) = true) (c1 : decide (s < 3) = true) (w : World) :
    Calls Try.prog 6 #[.int .u8 m, .bool ng, .bool od, .int .u8 r] w fun e w' => e = .returned (.bool true) ∧ Below w.heap.size w w' := by
  go_enter Try.func6, Try.ntmps6
  go_wp2_with fail
  (with_reducible refine (h0.out _).mono ?_); rintro e w1 ⟨rfl, hb⟩
  have kk := hb
  clear hb
  go_wp2_with fail
  (with_reducible refine (h2.out _).mono ?_); rintro e w2 ⟨rfl, hb⟩
  replace kk := bC kk hb
  clear hb
  go_wp2_with fail
  (with_reducible refine (h3.out _).mono ?_); rintro e w3 ⟨rfl, hb⟩
  replace kk := bC kk hb
  clear hb
  go_wp2_with fail
  (with_reducible refine (h4.out _).mono ?_); rintro e w4 ⟨rfl, hb⟩
  replace kk := bC kk hb
  clear hb
  go_wp2_with fail
  (with_reducible refine (h5.out _).mono ?_); rintro e w5 ⟨rfl, hb⟩
  replace kk := bC kk hb
  clear hb
  go_wp2_with fail
  (with_reducible refine (h6.out _).mono ?_); rintro e w6 ⟨rfl, hb⟩
  replace kk := bC kk hb
  clear hb
  go_wp2_with fail
  go_ret
  exact ⟨rfl, kk⟩

set_option maxHeartbeats 4000000 in
set_option maxRecDepth 100000 in
theorem order13_three0 (m r s : Int) (ng od : Bool)
    (h2 : Hid (∀ w, Calls Try.prog 8 #[.int .u8 2, .bool ng, .bool od, .int .u8 s] w fun e w' => e = .returned (.bool false) ∧ Below w.heap.size w w'))
    (h3 : Hid (∀ w, Calls Try.prog 8 #[.int .u8 3, .bool ng, .bool od, .int .u8 s] w fun e w' => e = .returned (.bool true) ∧ Below w.heap.size w w'))
    (h4 : Hid (∀ w, Calls Try.prog 8 #[.int .u8 4, .bool ng, .bool od, .int .u8 s] w fun e w' => e = .returned (.bool false) ∧ Below w.heap.size w w'))
    (h5 : Hid (∀ w, Calls Try.prog 8 #[.int .u8 m, .bool ng, .bool od, .int .u8 0] w fun e w' => e = .returned (.bool false) ∧ Below w.heap.size w w'))
    (h6 : Hid (∀ w, Calls Try.prog 13 #[] w fun e w' => e = .returned (.bool true) ∧ Below w.heap.size w w')) (e1 : r.tmod 4 = s) (e3 : (s != 0) = true) (c1 : decide (s < 3) = false) (w : World) :
    Calls Try.prog 6 #[.int .u8 m, .bool ng, .bool od, .int .u8 r] w fun e w' => e = .returned (.bool true) ∧ Below w.heap.size w w' := by
  go_enter Try.func6, Try.ntmps6
  go_wp2_with fail
  (with_reducible refine (h2.out _).mono ?_); rintro e w1 ⟨rfl, hb⟩
  have kk := hb
  clear hb
  go_wp2_with fail
  (with_reducible refine (h3.out _).mono ?_); rintro e w2 ⟨rfl, hb⟩
  replace kk := bC kk hb
  clear hb
  go_wp2_with fail
  (with_reducible refine (h4.out _).mono ?_); rintro e w3 ⟨rfl, hb⟩
  replace kk := bC kk hb
  clear hb
  go_wp2_with fail
  (with_reducible refine (h5.out _).mono ?_); rintro e w4 ⟨rfl, hb⟩
  replace kk := bC kk hb
  clear hb
  go_wp2_with fail
  (with_reducible refine (h6.out _).mono ?_); rintro e w5 ⟨rfl, hb⟩
  replace kk := bC kk hb
  clear hb
  go_wp2_with fail
  go_ret
  exact ⟨rfl, kk⟩

set_option maxHeartbeats 4000000 in
set_option maxRecDepth 100000 in
theorem order13_no00 (m r s : Int) (ng od : Bool)
    (h0 : Hid (∀ w, Calls Try.prog 8 #[.int .u8 m, .bool ng, .bool od, .int .u8 s] w fun e w' => e = .returned (.bool false) ∧ Below w.heap.size w w'))
    (h2 : Hid (∀ w, Calls Try.prog 8 #[.int .u8 2, .bool ng, .bool od, .int .u8 s] w fun e w' => e = .returned (.bool false) ∧ Below w.heap.size w w'))
    (h3 : Hid (∀ w, Calls Try.prog 8 #[.int .u8 3, .bool ng, .bool od, .int .u8 s] w fun e w' => e = .returned (.bool false) ∧ Below w.heap.size w w'))
    (h4 : Hid (∀ w, Calls Try.prog 8 #[.int .u8 4, .bool ng, .bool od, .int .u8 s] w fun e w' => e = .returned (.bool false) ∧ Below w.heap.size w w'))
    (h5 : Hid (∀ w, Calls Try.prog 8 #[.int .u8 m, .bool ng, .bool od, .int .u8 0] w fun e w' => e = .returned (.bool false) ∧ Below w.heap.size w w'))
    (h6 : Hid (∀ w, Calls Try.prog 13 #[] w fun e w' => e = .returned (.bool true) ∧ Below w.heap.size w w')) (e1 : r.tmod 4 = s) (e3 : (s != 0) = false) (c1 : decide (s < 3) = true) (w : World) :
    Calls Try.prog 6 #[.int .u8 m, .bool ng, .bool od, .int .u8 r] w fun e w' => e = .returned (.bool true) ∧ Below w.heap.size w w' := by
  go_enter Try.func6, Try.ntmps6
  go_wp2_with fail
  (with_reducible refine (h0.out _).mono ?_); rintro e w1 ⟨rfl, hb⟩
  have kk := hb
  clear hb
  go_wp2_with fail
  (with_reducible refine (h2.out _).mono ?_); rintro e w2 ⟨rfl, hb⟩
  replace kk := bC kk hb
  clear hb
  go_wp2_with fail
  (with_reducible refine (h3.out _).mono ?_); rintro e w3 ⟨rfl, hb⟩
  replace kk := bC kk hb
  clear hb
  go_wp2_with fail
  (with_reducible refine (h4.out _).mono ?_); rintro e w4 ⟨rfl, hb⟩
  replace kk := bC kk hb
  clear hb
  go_wp2_with fail
  (with_reducible refine (h5.out _).mono ?_); rintro e w5 ⟨rfl, hb⟩
  replace kk := bC kk hb
  clear hb
  go_wp2_with fail
  (with_reducible refine (h6.out _).mono ?_); rintro e w6 ⟨rfl, hb⟩
  replace kk := bC kk hb
  clear hb
  go_wp2_with fail
  go_ret
  exact ⟨rfl, kk⟩



end Go.Proofs.Ytjinnbfffalmkaa
