/-
  The walk of the statement ModeRounds.
-/
import Derived.Test.YtjinnbfffalmkaaGaA
import Derived.Test.YtjinnbfffalmkaaMode13M
set_option linter.unusedVariables false
set_option linter.unusedSimpArgs false
set_option maxRecDepth 100000
namespace Go.Proofs.Ytjinnbfffalmkaa
open Go.RowKit
attribute [local go_sem ↓] Go.wp_at_zero Go.wp_at_succ

set_option maxHeartbeats 4000000 in
set_option maxRecDepth 100000 in
theorem rounds13_000 (n N q r a b fa fb : Int)
    (h0 : Hid (∀ w, Calls Try.prog 14 #[.int .u8 0, .bool false, .int .u32 N] w fun e w' => e = .returned (.int .u32 a) ∧ Below w.heap.size w w'))
    (h1 : Hid (∀ w, Calls Try.prog 14 #[.int .u8 1, .bool false, .int .u32 N] w fun e w' => e = .returned (.int .u32 b) ∧ Below w.heap.size w w'))
    (h2 : Hid (∀ w, Calls Try.prog 15 #[.int .u32 a, .int .u32 N] w fun e w' => e = .returned (.int .u32 fa) ∧ Below w.heap.size w w'))
    (h3 : Hid (∀ w, Calls Try.prog 15 #[.int .u32 b, .int .u32 N] w fun e w' => e = .returned (.int .u32 fb) ∧ Below w.heap.size w w'))
    (h4 : Hid (∀ w, Calls Try.prog 14 #[.int .u8 2, .bool false, .int .u32 N] w fun e w' => e = .returned (.int .u32 q) ∧ Below w.heap.size w w'))
    (h5 : Hid (∀ w, Calls Try.prog 14 #[.int .u8 3, .bool false, .int .u32 N] w fun e w' => e = .returned (.int .u32 q) ∧ Below w.heap.size w w'))
    (h6 : Hid (∀ w, Calls Try.prog 14 #[.int .u8 4, .bool false, .int .u32 N] w fun e w' => e = .returned (.int .u32 q) ∧ Below w.heap.size w w'))
    (h7 : Hid (∀ w, Calls Try.prog 13 #[] w fun e w' => e = .returned (.bool true) ∧ Below w.heap.size w w')) (e1 : n.tmod 1073741824 = N) (e2 : N.tdiv 8 = q) (e2w : IntKind.u32.wrap (N.tdiv 8) = q) (e3 : N.tmod 8 = r) (m1 : q % 4294967296 = q) (d0 : decide (0 < r) = false) (c1 : decide (4 < fa) = false) (c2 : decide (4 < fb) = false) (c3 : (r == 4) = false) (c6 : decide (a < q) = false) (c7 : decide (q < a) = false) (c8 : decide (b < q) = false) (c9 : decide (q < b) = false) (w : World) :
    Calls Try.prog 4 #[.int .u32 n, .bool false] w fun e w' => e = .returned (.bool true) ∧ Below w.heap.size w w' := by
  go_enter Try.func4, Try.ntmps4
  go_wp2_with fail
  (with_reducible refine (h0.out _).mono ?_); rintro e w1 ⟨rfl, hb⟩
  have kk := hb
  clear hb
  go_wp2_with fail
  (with_reducible refine (h1.out _).mono ?_); rintro e w2 ⟨rfl, hb⟩
  replace kk := bC kk hb
  clear hb
  go_wp2_with fail
  (with_reducible refine (h2.out _).mono ?_); rintro e w3 ⟨rfl, hb⟩
  replace kk := bC kk hb
  clear hb
  go_wp2_with fail
  (with_reducible refine (h3.out _).mono ?_); rintro e w4 ⟨rfl, hb⟩
  replace kk := bC kk hb
  clear hb
  go_wp2_with fail
  (with_reducible refine (h4.out _).mono ?_); rintro e w5 ⟨rfl, hb⟩
  replace kk := bC kk hb
  clear hb
  go_wp2_with fail
  (with_reducible refine (h5.out _).mono ?_); rintro e w6 ⟨rfl, hb⟩
  replace kk := bC kk hb
  clear hb
  go_wp2_with fail
  (with_reducible refine (h6.out _).mono ?_); rintro e w7 ⟨rfl, hb⟩
  replace kk := bC kk hb
  clear hb
  go_wp2_with fail
  (with_reducible refine (h7.out _).mono ?_); rintro e w8 ⟨rfl, hb⟩
  replace kk := bC kk hb
  clear hb
  go_wp2_with fail
  go_ret
  exact ⟨rfl, kk⟩

set_option maxHeartbeats 4000000 in
set_option maxRecDepth 100000 in
theorem rounds13_001 (n N q r a b fa fb : Int)
    (h0 : Hid (∀ w, Calls Try.prog 14 #[.int .u8 0, .bool true, .int .u32 N] w fun e w' => e = .returned (.int .u32 a) ∧ Below w.heap.size w w'))
    (h1 : Hid (∀ w, Calls Try.prog 14 #[.int .u8 1, .bool true, .int .u32 N] w fun e w' => e = .returned (.int .u32 b) ∧ Below w.heap.size w w'))
    (h2 : Hid (∀ w, Calls Try.prog 15 #[.int .u32 a, .int .u32 N] w fun e w' => e = .returned (.int .u32 fa) ∧ Below w.heap.size w w'))
    (h3 : Hid (∀ w, Calls Try.prog 15 #[.int .u32 b, .int .u32 N] w fun e w' => e = .returned (.int .u32 fb) ∧ Below w.heap.size w w'))
    (h4 : Hid (∀ w, Calls Try.prog 14 #[.int .u8 2, .bool true, .int .u32 N] w fun e w' => e = .returned (.int .u32 q) ∧ Below w.heap.size w w'))
    (h5 : Hid (∀ w, Calls Try.prog 14 #[.int .u8 3, .bool true, .int .u32 N] w fun e w' => e = .returned (.int .u32 q) ∧ Below w.heap.size w w'))
    (h6 : Hid (∀ w, Calls Try.prog 14 #[.int .u8 4, .bool true, .int .u32 N] w fun e w' => e = .returned (.int .u32 q) ∧ Below w.heap.size w w'))
    (h7 : Hid (∀ w, Calls Try.prog 13 #[] w fun e w' => e = .returned (.bool true) ∧ Below w.heap.size w w')) (e1 : n.tmod 1073741824 = N) (e2 : N.tdiv 8 = q) (e2w : IntKind.u32.wrap (N.tdiv 8) = q) (e3 : N.tmod 8 = r) (m1 : q % 4294967296 = q) (d0 : decide (0 < r) = false) (c1 : decide (4 < fa) = false) (c2 : decide (4 < fb) = false) (c3 : (r == 4) = false) (c6 : decide (a < q) = false) (c7 : decide (q < a) = false) (c8 : decide (b < q) = false) (c9 : decide (q < b) = false) (w : World) :
    Calls Try.prog 4 #[.int .u32 n, .bool true] w fun e w' => e = .returned (.bool true) ∧ Below w.heap.size w w' := by
  go_enter Try.func4, Try.ntmps4
  go_wp2_with fail
  (with_reducible refine (h0.out _).mono ?_); rintro e w1 ⟨rfl, hb⟩
  have kk := hb
  clear hb
  go_wp2_with fail
  (with_reducible refine (h1.out _).mono ?_); rintro e w2 ⟨rfl, hb⟩
  replace kk := bC kk hb
  clear hb
  go_wp2_with fail
  (with_reducible refine (h2.out _).mono ?_); rintro e w3 ⟨rfl, hb⟩
  replace kk := bC kk hb
  clear hb
  go_wp2_with fail
  (with_reducible refine (h3.out _).mono ?_); rintro e w4 ⟨rfl, hb⟩
  replace kk := bC kk hb
  clear hb
  go_wp2_with fail
  (with_reducible refine (h4.out _).mono ?_); rintro e w5 ⟨rfl, hb⟩
  replace kk := bC kk hb
  clear hb
  go_wp2_with fail
  (with_reducible refine (h5.out _).mono ?_); rintro e w6 ⟨rfl, hb⟩
  replace kk := bC kk hb
  clear hb
  go_wp2_with fail
  (with_reducible refine (h6.out _).mono ?_); rintro e w7 ⟨rfl, hb⟩
  replace kk := bC kk hb
  clear hb
  go_wp2_with fail
  (with_reducible refine (h7.out _).mono ?_); rintro e w8 ⟨rfl, hb⟩
  replace kk := bC kk hb
  clear hb
  go_wp2_with fail
  go_ret
  exact ⟨rfl, kk⟩

set_option maxHeartbeats 4000000 in
set_option maxRecDepth 100000 in
theorem rounds13_100 (n N q r u a b fa fb : Int)
    (h0 : Hid (∀ w, Calls Try.prog 14 #[.int .u8 0, .bool false, .int .u32 N] w fun e w' => e = .returned (.int .u32 a) ∧ Below w.heap.size w w'))
    (h1 : Hid (∀ w, Calls Try.prog 14 #[.int .u8 1, .bool false, .int .u32 N] w fun e w' => e = .returned (.int .u32 b) ∧ Below w.heap.size w w'))
    (h2 : Hid (∀ w, Calls Try.prog 15 #[.int .u32 a, .int .u32 N] w fun e w' => e = .returned (.int .u32 fa) ∧ Below w.heap.size w w'))
    (h3 : Hid (∀ w, Calls Try.prog 15 #[.int .u32 b, .int .u32 N] w fun e w' => e = .returned (.int .u32 fb) ∧ Below w.heap.size w w'))
    (h4 : Hid (∀ w, Calls Try.prog 14 #[.int .u8 2, .bool false, .int .u32 N] w fun e w' => e = .returned (.int .u32 u) ∧ Below w.heap.size w w'))
    (h5 : Hid (∀ w, Calls Try.prog 14 #[.int .u8 3, .bool false, .int .u32 N] w fun e w' => e = .returned (.int .u32 q) ∧ Below w.heap.size w w'))
    (h6 : Hid (∀ w, Calls Try.prog 14 #[.int .u8 4, .bool false, .int .u32 N] w fun e w' => e = .returned (.int .u32 q) ∧ Below w.heap.size w w'))
    (h7 : Hid (∀ w, Calls Try.prog 13 #[] w fun e w' => e = .returned (.bool true) ∧ Below w.heap.size w w')) (e1 : n.tmod 1073741824 = N) (e2 : N.tdiv 8 = q) (e2w : IntKind.u32.wrap (N.tdiv 8) = q) (e3 : N.tmod 8 = r) (m1 : q % 4294967296 = q) (d0 : decide (0 < r) = true) (eu : IntKind.u32.wrap (q + 1) = u) (eu2 : (q + 1) % 4294967296 = u) (c1 : decide (4 < fa) = false) (c2 : decide (4 < fb) = false) (c3 : (r == 4) = false) (c6 : decide (a < q) = false) (c7 : decide (u < a) = false) (c8 : decide (b < q) = false) (c9 : decide (u < b) = false) (w : World) :
    Calls Try.prog 4 #[.int .u32 n, .bool false] w fun e w' => e = .returned (.bool true) ∧ Below w.heap.size w w' := by
  go_enter Try.func4, Try.ntmps4
  go_wp2_with fail
  (with_reducible refine (h0.out _).mono ?_); rintro e w1 ⟨rfl, hb⟩
  have kk := hb
  clear hb
  go_wp2_with fail
  (with_reducible refine (h1.out _).mono ?_); rintro e w2 ⟨rfl, hb⟩
  replace kk := bC kk hb
  clear hb
  go_wp2_with fail
  (with_reducible refine (h2.out _).mono ?_); rintro e w3 ⟨rfl, hb⟩
  replace kk := bC kk hb
  clear hb
  go_wp2_with fail
  (with_reducible refine (h3.out _).mono ?_); rintro e w4 ⟨rfl, hb⟩
  replace kk := bC kk hb
  clear hb
  go_wp2_with fail
  (with_reducible refine (h4.out _).mono ?_); rintro e w5 ⟨rfl, hb⟩
  replace kk := bC kk hb
  clear hb
  go_wp2_with fail
  (with_reducible refine (h5.out _).mono ?_); rintro e w6 ⟨rfl, hb⟩
  replace kk := bC kk hb
  clear hb
  go_wp2_with fail
  (with_reducible refine (h6.out _).mono ?_); rintro e w7 ⟨rfl, hb⟩
  replace kk := bC kk hb
  clear hb
  go_wp2_with fail
  (with_reducible refine (h7.out _).mono ?_); rintro e w8 ⟨rfl, hb⟩
  replace kk := bC kk hb
  clear hb
  go_wp2_with fail
  go_ret
  exact ⟨rfl, kk⟩

set_option maxHeartbeats 4000000 in
set_option maxRecDepth 100000 in
theorem rounds13_101 (n N q r u a b fa fb : Int)
    (h0 : Hid (∀ w, Calls Try.prog 14 #[.int .u8 0, .bool true, .int .u32 N] w fun e w' => e = .returned (.int .u32 a) ∧ Below w.heap.size w w'))
    (h1 : Hid (∀ w, Calls Try.prog 14 #[.int .u8 1, .bool true, .int .u32 N] w fun e w' => e = .returned (.int .u32 b) ∧ Below w.heap.size w w'))
    (h2 : Hid (∀ w, Calls Try.prog 15 #[.int .u32 a, .int .u32 N] w fun e w' => e = .returned (.int .u32 fa) ∧ Below w.heap.size w w'))
    (h3 : Hid (∀ w, Calls Try.prog 15 #[.int .u32 b, .int .u32 N] w fun e w' => e = .returned (.int .u32 fb) ∧ Below w.heap.size w w'))
    (h4 : Hid (∀ w, Calls Try.prog 14 #[.int .u8 2, .bool true, .int .u32 N] w fun e w' => e = .returned (.int .u32 q) ∧ Below w.heap.size w w'))
    (h5 : Hid (∀ w, Calls Try.prog 14 #[.int .u8 3, .bool true, .int .u32 N] w fun e w' => e = .returned (.int .u32 u) ∧ Below w.heap.size w w'))
    (h6 : Hid (∀ w, Calls Try.prog 14 #[.int .u8 4, .bool true, .int .u32 N] w fun e w' => e = .returned (.int .u32 q) ∧ Below w.heap.size w w'))
    (h7 : Hid (∀ w, Calls Try.prog 13 #[] w fun e w' => e = .returned (.bool true) ∧ Below w.heap.size w w')) (e1 : n.tmod 1073741824 = N) (e2 : N.tdiv 8 = q) (e2w : IntKind.u32.wrap (N.tdiv 8) = q) (e3 : N.tmod 8 = r) (m1 : q % 4294967296 = q) (d0 : decide (0 < r) = true) (eu : IntKind.u32.wrap (q + 1) = u) (eu2 : (q + 1) % 4294967296 = u) (c1 : decide (4 < fa) = false) (c2 : decide (4 < fb) = false) (c3 : (r == 4) = false) (c6 : decide (a < q) = false) (c7 : decide (u < a) = false) (c8 : decide (b < q) = false) (c9 : decide (u < b) = false) (w : World) :
    Calls Try.prog 4 #[.int .u32 n, .bool true] w fun e w' => e = .returned (.bool true) ∧ Below w.heap.size w w' := by
  go_enter Try.func4, Try.ntmps4
  go_wp2_with fail
  (with_reducible refine (h0.out _).mono ?_); rintro e w1 ⟨rfl, hb⟩
  have kk := hb
  clear hb
  go_wp2_with fail
  (with_reducible refine (h1.out _).mono ?_); rintro e w2 ⟨rfl, hb⟩
  replace kk := bC kk hb
  clear hb
  go_wp2_with fail
  (with_reducible refine (h2.out _).mono ?_); rintro e w3 ⟨rfl, hb⟩
  replace kk := bC kk hb
  clear hb
  go_wp2_with fail
  (with_reducible refine (h3.out _).mono ?_); rintro e w4 ⟨rfl, hb⟩
  replace kk := bC kk hb
  clear hb
  go_wp2_with fail
  (with_reducible refine (h4.out _).mono ?_); rintro e w5 ⟨rfl, hb⟩
  replace kk := bC kk hb
  clear hb
  go_wp2_with fail
  (with_reducible refine (h5.out _).mono ?_); rintro e w6 ⟨rfl, hb⟩
  replace kk := bC kk hb
  clear hb
  go_wp2_with fail
  (with_reducible refine (h6.out _).mono ?_); rintro e w7 ⟨rfl, hb⟩
  replace kk := bC kk hb
  clear hb
  go_wp2_with fail
  (with_reducible refine (h7.out _).mono ?_); rintro e w8 ⟨rfl, hb⟩
  replace kk := bC kk hb
  clear hb
  go_wp2_with fail
  go_ret
  exact ⟨rfl, kk⟩

set_option maxHeartbeats 4000000 in
set_option maxRecDepth 100000 in
theorem rounds13_110 (n N q r u a b fa fb a2 : Int)
    (h0 : Hid (∀ w, Calls Try.prog 14 #[.int .u8 0, .bool false, .int .u32 N] w fun e w' => e = .returned (.int .u32 a) ∧ Below w.heap.size w w'))
    (h1 : Hid (∀ w, Calls Try.prog 14 #[.int .u8 1, .bool false, .int .u32 N] w fun e w' => e = .returned (.int .u32 b) ∧ Below w.heap.size w w'))
    (h2 : Hid (∀ w, Calls Try.prog 15 #[.int .u32 a, .int .u32 N] w fun e w' => e = .returned (.int .u32 fa) ∧ Below w.heap.size w w'))
    (h3 : Hid (∀ w, Calls Try.prog 15 #[.int .u32 b, .int .u32 N] w fun e w' => e = .returned (.int .u32 fb) ∧ Below w.heap.size w w'))
    (h4 : Hid (∀ w, Calls Try.prog 14 #[.int .u8 2, .bool false, .int .u32 N] w fun e w' => e = .returned (.int .u32 u) ∧ Below w.heap.size w w'))
    (h5 : Hid (∀ w, Calls Try.prog 14 #[.int .u8 3, .bool false, .int .u32 N] w fun e w' => e = .returned (.int .u32 q) ∧ Below w.heap.size w w'))
    (h6 : Hid (∀ w, Calls Try.prog 14 #[.int .u8 4, .bool false, .int .u32 N] w fun e w' => e = .returned (.int .u32 q) ∧ Below w.heap.size w w'))
    (h7 : Hid (∀ w, Calls Try.prog 13 #[] w fun e w' => e = .returned (.bool true) ∧ Below w.heap.size w w')) (e1 : n.tmod 1073741824 = N) (e2 : N.tdiv 8 = q) (e2w : IntKind.u32.wrap (N.tdiv 8) = q) (e3 : N.tmod 8 = r) (m1 : q % 4294967296 = q) (d0 : decide (0 < r) = true) (eu : IntKind.u32.wrap (q + 1) = u) (eu2 : (q + 1) % 4294967296 = u) (c1 : decide (4 < fa) = false) (c2 : decide (4 < fb) = false) (c3 : (r == 4) = true) (a2e : a.tmod 2 = a2) (a2f : a % 2 = a2) (c4 : (a2 != 0) = false) (c5 : (b != u) = false) (c6 : decide (a < q) = false) (c7 : decide (u < a) = false) (c8 : decide (b < q) = false) (c9 : decide (u < b) = false) (w : World) :
    Calls Try.prog 4 #[.int .u32 n, .bool false] w fun e w' => e = .returned (.bool true) ∧ Below w.heap.size w w' := by
  go_enter Try.func4, Try.ntmps4
  go_wp2_with fail
  (with_reducible refine (h0.out _).mono ?_); rintro e w1 ⟨rfl, hb⟩
  have kk := hb
  clear hb
  go_wp2_with fail
  (with_reducible refine (h1.out _).mono ?_); rintro e w2 ⟨rfl, hb⟩
  replace kk := bC kk hb
  clear hb
  go_wp2_with fail
  (with_reducible refine (h2.out _).mono ?_); rintro e w3 ⟨rfl, hb⟩
  replace kk := bC kk hb
  clear hb
  go_wp2_with fail
  (with_reducible refine (h3.out _).mono ?_); rintro e w4 ⟨rfl, hb⟩
  replace kk := bC kk hb
  clear hb
  go_wp2_with fail
  (with_reducible refine (h4.out _).mono ?_); rintro e w5 ⟨rfl, hb⟩
  replace kk := bC kk hb
  clear hb
  go_wp2_with fail
  (with_reducible refine (h5.out _).mono ?_); rintro e w6 ⟨rfl, hb⟩
  replace kk := bC kk hb
  clear hb
  go_wp2_with fail
  (with_reducible refine (h6.out _).mono ?_); rintro e w7 ⟨rfl, hb⟩
  replace kk := bC kk hb
  clear hb
  go_wp2_with fail
  (with_reducible refine (h7.out _).mono ?_); rintro e w8 ⟨rfl, hb⟩
  replace kk := bC kk hb
  clear hb
  go_wp2_with fail
  go_ret
  exact ⟨rfl, kk⟩

set_option maxHeartbeats 4000000 in
set_option maxRecDepth 100000 in
theorem rounds13_111 (n N q r u a b fa fb a2 : Int)
    (h0 : Hid (∀ w, Calls Try.prog 14 #[.int .u8 0, .bool true, .int .u32 N] w fun e w' => e = .returned (.int .u32 a) ∧ Below w.heap.size w w'))
    (h1 : Hid (∀ w, Calls Try.prog 14 #[.int .u8 1, .bool true, .int .u32 N] w fun e w' => e = .returned (.int .u32 b) ∧ Below w.heap.size w w'))
    (h2 : Hid (∀ w, Calls Try.prog 15 #[.int .u32 a, .int .u32 N] w fun e w' => e = .returned (.int .u32 fa) ∧ Below w.heap.size w w'))
    (h3 : Hid (∀ w, Calls Try.prog 15 #[.int .u32 b, .int .u32 N] w fun e w' => e = .returned (.int .u32 fb) ∧ Below w.heap.size w w'))
    (h4 : Hid (∀ w, Calls Try.prog 14 #[.int .u8 2, .bool true, .int .u32 N] w fun e w' => e = .returned (.int .u32 q) ∧ Below w.heap.size w w'))
    (h5 : Hid (∀ w, Calls Try.prog 14 #[.int .u8 3, .bool true, .int .u32 N] w fun e w' => e = .returned (.int .u32 u) ∧ Below w.heap.size w w'))
    (h6 : Hid (∀ w, Calls Try.prog 14 #[.int .u8 4, .bool true, .int .u32 N] w fun e w' => e = .returned (.int .u32 q) ∧ Below w.heap.size w w'))
    (h7 : Hid (∀ w, Calls Try.prog 13 #[] w fun e w' => e = .returned (.bool true) ∧ Below w.heap.size w w')) (e1 : n.tmod 1073741824 = N) (e2 : N.tdiv 8 = q) (e2w : IntKind.u32.wrap (N.tdiv 8) = q) (e3 : N.tmod 8 = r) (m1 : q % 4294967296 = q) (d0 : decide (0 < r) = true) (eu : IntKind.u32.wrap (q + 1) = u) (eu2 : (q + 1) % 4294967296 = u) (c1 : decide (4 < fa) = false) (c2 : decide (4 < fb) = false) (c3 : (r == 4) = true) (a2e : a.tmod 2 = a2) (a2f : a % 2 = a2) (c4 : (a2 != 0) = false) (c5 : (b != u) = false) (c6 : decide (a < q) = false) (c7 : decide (u < a) = false) (c8 : decide (b < q) = false) (c9 : decide (u < b) = false) (w : World) :
    Calls Try.prog 4 #[.int .u32 n, .bool true] w fun e w' => e = .returned (.bool true) ∧ Below w.heap.size w w' := by
  go_enter Try.func4, Try.ntmps4
  go_wp2_with fail
  (with_reducible refine (h0.out _).mono ?_); rintro e w1 ⟨rfl, hb⟩
  have kk := hb
  clear hb
  go_wp2_with fail
  (with_reducible refine (h1.out _).mono ?_); rintro e w2 ⟨rfl, hb⟩
  replace kk := bC kk hb
  clear hb
  go_wp2_with fail
  (with_reducible refine (h2.out _).mono ?_); rintro e w3 ⟨rfl, hb⟩
  replace kk := bC kk hb
  clear hb
  go_wp2_with fail
  (with_reducible refine (h3.out _).mono ?_); rintro e w4 ⟨rfl, hb⟩
  replace kk := bC kk hb
  clear hb
  go_wp2_with fail
  (with_reducible refine (h4.out _).mono ?_); rintro e w5 ⟨rfl, hb⟩
  replace kk := bC kk hb
  clear hb
  go_wp2_with fail
  (with_reducible refine (h5.out _).mono ?_); rintro e w6 ⟨rfl, hb⟩
  replace kk := bC kk hb
  clear hb
  go_wp2_with fail
  (with_reducible refine (h6.out _).mono ?_); rintro e w7 ⟨rfl, hb⟩
  replace kk := bC kk hb
  clear hb
  go_wp2_with fail
  (with_reducible refine (h7.out _).mono ?_); rintro e w8 ⟨rfl, hb⟩
  replace kk := bC kk hb
  clear hb
  go_wp2_with fail
  go_ret
  exact ⟨rfl, kk⟩



end Go.Proofs.Ytjinnbfffalmkaa
