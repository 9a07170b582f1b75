/-
  The walk of the statement ModeMirror.
-/
import Derived.Test.YtjinnbfffalmkaaGaA
import Derived.Test.YtjinnbfffalmkaaMode13M
set_option linter.unusedVariables false
set_option linter.unusedSimpArgs false
set_option maxRecDepth 100000
namespace Go.Proofs.Ytjinnbfffalmkaa
open Go.RowKit
attribute [local go_sem ↓] Go.wp_at_zero Go.wp_at_succ

set_option maxHeartbeats 4000000 in
set_option maxRecDepth 100000 in
theorem mirror13_core (m r v : Int) (od x k i : Bool)
    (h0 : Hid (∀ w, Calls Try.prog 8 #[.int .u8 m, .bool true, .bool od, .int .u8 r] w fun e w' => e = .returned (.bool x) ∧ Below w.heap.size w w'))
    (h1 : Hid (∀ w, Calls Try.prog 16 #[.int .u8 m] w fun e w' => e = .returned (.int .u8 v) ∧ Below w.heap.size w w'))
    (h2 : Hid (∀ w, Calls Try.prog 8 #[.int .u8 v, .bool false, .bool od, .int .u8 r] w fun e w' => e = .returned (.bool x) ∧ Below w.heap.size w w'))
    (h4 : Hid (∀ w, Calls Try.prog 16 #[.int .u8 v] w fun e w' => e = .returned (.int .u8 m) ∧ Below w.heap.size w w'))
    (h6 : Hid (∀ w, Calls Try.prog 10 #[.int .u8 v] w fun e w' => e = .returned (.bool k) ∧ Below w.heap.size w w'))
    (h7 : Hid (∀ w, Calls Try.prog 10 #[.int .u8 m] w fun e w' => e = .returned (.bool k) ∧ Below w.heap.size w w'))
    (h8 : Hid (∀ w, Calls Try.prog 11 #[.int .u8 m, .bool true] w fun e w' => e = .returned (.bool i) ∧ Below w.heap.size w w'))
    (h10 : Hid (∀ w, Calls Try.prog 11 #[.int .u8 v, .bool false] w fun e w' => e = .returned (.bool i) ∧ Below w.heap.size w w'))
    (h11 : Hid (∀ w, Calls Try.prog 13 #[] w fun e w' => e = .returned (.bool true) ∧ Below w.heap.size w w')) (w : World) :
    Calls Try.prog 5 #[.int .u8 m, .bool od, .int .u8 r] w fun e w' => e = .returned (.bool true) ∧ Below w.heap.size w w' := by
  go_enter Try.func5, Try.ntmps5
  go_wp2_with fail
  (with_reducible refine (h0.out _).mono ?_); rintro e w1 ⟨rfl, hb⟩
  have kk := hb
  clear hb
  go_wp2_with fail
  (with_reducible refine (h1.out _).mono ?_); rintro e w2 ⟨rfl, hb⟩
  replace kk := bC kk hb
  clear hb
  go_wp2_with fail
  (with_reducible refine (h2.out _).mono ?_); rintro e w3 ⟨rfl, hb⟩
  replace kk := bC kk hb
  clear hb
  go_wp2_with fail
  (with_reducible refine (h1.out _).mono ?_); rintro e w4 ⟨rfl, hb⟩
  replace kk := bC kk hb
  clear hb
  go_wp2_with fail
  (with_reducible refine (h4.out _).mono ?_); rintro e w5 ⟨rfl, hb⟩
  replace kk := bC kk hb
  clear hb
  go_wp2_with fail
  (with_reducible refine (h1.out _).mono ?_); rintro e w6 ⟨rfl, hb⟩
  replace kk := bC kk hb
  clear hb
  go_wp2_with fail
  (with_reducible refine (h6.out _).mono ?_); rintro e w7 ⟨rfl, hb⟩
  replace kk := bC kk hb
  clear hb
  go_wp2_with fail
  (with_reducible refine (h7.out _).mono ?_); rintro e w8 ⟨rfl, hb⟩
  replace kk := bC kk hb
  clear hb
  go_wp2_with fail
  (with_reducible refine (h8.out _).mono ?_); rintro e w9 ⟨rfl, hb⟩
  replace kk := bC kk hb
  clear hb
  go_wp2_with fail
  (with_reducible refine (h1.out _).mono ?_); rintro e w10 ⟨rfl, hb⟩
  replace kk := bC kk hb
  clear hb
  go_wp2_with fail
  (with_reducible refine (h10.out _).mono ?_); rintro e w11 ⟨rfl, hb⟩
  replace kk := bC kk hb
  clear hb
  go_wp2_with fail
  (with_reducible refine (h11.out _).mono ?_); rintro e w12 ⟨rfl, hb⟩
  replace kk := bC kk hb
  clear hb
  go_wp2_with fail
  go_ret
  exact ⟨rfl, kk⟩

end Go.Proofs.Ytjinnbfffalmkaa
