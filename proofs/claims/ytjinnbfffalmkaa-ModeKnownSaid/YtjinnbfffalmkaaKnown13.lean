/-
  The walk of the statement ModeKnown.
-/
import Derived.Test.YtjinnbfffalmkaaGaA
import Derived.Test.YtjinnbfffalmkaaMode13M
set_option linter.unusedVariables false
set_option linter.unusedSimpArgs false
set_option maxRecDepth 100000
namespace Go.Proofs.Ytjinnbfffalmkaa
open Go.RowKit
attribute [local go_sem ↓] Go.wp_at_zero Go.wp_at_succ

set_option maxHeartbeats 4000000 in
set_option maxRecDepth 100000 in
theorem known13_core 
    (h0 : Hid (∀ w, Calls Try.prog 17 #[.bool false, .bool false] w fun e w' => e = .returned (.int .u8 0) ∧ Below w.heap.size w w'))
    (h1 : Hid (∀ w, Calls Try.prog 17 #[.bool false, .bool true] w fun e w' => e = .returned (.int .u8 1) ∧ Below w.heap.size w w'))
    (h2 : Hid (∀ w, Calls Try.prog 17 #[.bool true, .bool false] w fun e w' => e = .returned (.int .u8 2) ∧ Below w.heap.size w w'))
    (h3 : Hid (∀ w, Calls Try.prog 8 #[.int .u8 1, .bool true, .bool false, .int .u8 2] w fun e w' => e = .returned (.bool true) ∧ Below w.heap.size w w'))
    (h4 : Hid (∀ w, Calls Try.prog 8 #[.int .u8 1, .bool false, .bool true, .int .u8 1] w fun e w' => e = .returned (.bool false) ∧ Below w.heap.size w w'))
    (h5 : Hid (∀ w, Calls Try.prog 8 #[.int .u8 5, .bool false, .bool true, .int .u8 3] w fun e w' => e = .returned (.bool false) ∧ Below w.heap.size w w'))
    (h6 : Hid (∀ w, Calls Try.prog 8 #[.int .u8 2, .bool false, .bool true, .int .u8 4] w fun e w' => e = .returned (.bool false) ∧ Below w.heap.size w w'))
    (h7 : Hid (∀ w, Calls Try.prog 10 #[.int .u8 5] w fun e w' => e = .returned (.bool false) ∧ Below w.heap.size w w'))
    (h8 : Hid (∀ w, Calls Try.prog 10 #[.int .u8 4] w fun e w' => e = .returned (.bool true) ∧ Below w.heap.size w w'))
    (h9 : Hid (∀ w, Calls Try.prog 16 #[.int .u8 0] w fun e w' => e = .returned (.int .u8 0) ∧ Below w.heap.size w w'))
    (h10 : Hid (∀ w, Calls Try.prog 16 #[.int .u8 9] w fun e w' => e = .returned (.int .u8 9) ∧ Below w.heap.size w w'))
    (h11 : Hid (∀ w, Calls Try.prog 11 #[.int .u8 2, .bool false] w fun e w' => e = .returned (.bool true) ∧ Below w.heap.size w w'))
    (h12 : Hid (∀ w, Calls Try.prog 11 #[.int .u8 2, .bool true] w fun e w' => e = .returned (.bool false) ∧ Below w.heap.size w w'))
    (h13 : Hid (∀ w, Calls Try.prog 11 #[.int .u8 3, .bool true] w fun e w' => e = .returned (.bool true) ∧ Below w.heap.size w w'))
    (h14 : Hid (∀ w, Calls Try.prog 11 #[.int .u8 7, .bool false] w fun e w' => e = .returned (.bool false) ∧ Below w.heap.size w w'))
    (h15 : Hid (∀ w, Calls Try.prog 13 #[] w fun e w' => e = .returned (.bool true) ∧ Below w.heap.size w w')) (w : World) :
    Calls Try.prog 7 #[] w fun e w' => e = .returned (.bool true) ∧ Below w.heap.size w w' := by
  go_enter Try.func7, Try.ntmps7
  go_wp2_with fail
  (with_reducible refine (h0.out _).mono ?_); rintro e w1 ⟨rfl, hb⟩
  have kk := hb
  clear hb
  go_wp2_with fail
  (with_reducible refine (h1.out _).mono ?_); rintro e w2 ⟨rfl, hb⟩
  replace kk := bC kk hb
  clear hb
  go_wp2_with fail
  (with_reducible refine (h2.out _).mono ?_); rintro e w3 ⟨rfl, hb⟩
  replace kk := bC kk hb
  clear hb
  go_wp2_with fail
  (with_reducible refine (h3.out _).mono ?_); rintro e w4 ⟨rfl, hb⟩
  replace kk := bC kk hb
  clear hb
  go_wp2_with fail
  (with_reducible refine (h4.out _).mono ?_); rintro e w5 ⟨rfl, hb⟩
  replace kk := bC kk hb
  clear hb
  go_wp2_with fail
  (with_reducible refine (h5.out _).mono ?_); rintro e w6 ⟨rfl, hb⟩
  replace kk := bC kk hb
  clear hb
  go_wp2_with fail
  (with_reducible refine (h6.out _).mono ?_); rintro e w7 ⟨rfl, hb⟩
  replace kk := bC kk hb
  clear hb
  go_wp2_with fail
  (with_reducible refine (h7.out _).mono ?_); rintro e w8 ⟨rfl, hb⟩
  replace kk := bC kk hb
  clear hb
  go_wp2_with fail
  (with_reducible refine (h8.out _).mono ?_); rintro e w9 ⟨rfl, hb⟩
  replace kk := bC kk hb
  clear hb
  go_wp2_with fail
  (with_reducible refine (h9.out _).mono ?_); rintro e w10 ⟨rfl, hb⟩
  replace kk := bC kk hb
  clear hb
  go_wp2_with fail
  (with_reducible refine (h10.out _).mono ?_); rintro e w11 ⟨rfl, hb⟩
  replace kk := bC kk hb
  clear hb
  go_wp2_with fail
  (with_reducible refine (h11.out _).mono ?_); rintro e w12 ⟨rfl, hb⟩
  replace kk := bC kk hb
  clear hb
  go_wp2_with fail
  (with_reducible refine (h12.out _).mono ?_); rintro e w13 ⟨rfl, hb⟩
  replace kk := bC kk hb
  clear hb
  go_wp2_with fail
  (with_reducible refine (h13.out _).mono ?_); rintro e w14 ⟨rfl, hb⟩
  replace kk := bC kk hb
  clear hb
  go_wp2_with fail
  (with_reducible refine (h14.out _).mono ?_); rintro e w15 ⟨rfl, hb⟩
  replace kk := bC kk hb
  clear hb
  go_wp2_with fail
  (with_reducible refine (h15.out _).mono ?_); rintro e w16 ⟨rfl, hb⟩
  replace kk := bC kk hb
  clear hb
  go_wp2_with fail
  go_ret
  exact ⟨rfl, kk⟩

end Go.Proofs.Ytjinnbfffalmkaa
