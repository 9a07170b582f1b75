/-
  The walk of the statement WordMul: products hang on no order, go by sums, and by one are the number.
-/
import Derived.Test.YtchghjdjkdpdjaaCounts
set_option linter.unusedVariables false
namespace Go.Proofs.Ytchghjdjkdpdjaa
open Go.RowKit

theorem mul_range {a b : Int} (ha : U64 a) (hb : U64 b) : 0 ≤ a * b ∧ a * b < full := by
  obtain ⟨X, rfl⟩ := Int.eq_ofNat_of_zero_le ha.1
  obtain ⟨Y, rfl⟩ := Int.eq_ofNat_of_zero_le hb.1
  have hx : X < 18446744073709551616 := by have := ha.2; omega
  have hy : Y < 18446744073709551616 := by have := hb.2; omega
  have hp : X * Y < 18446744073709551616 * 18446744073709551616 := Nat.mul_lt_mul'' hx hy
  rw [← Int.natCast_mul]; unfold full; omega
theorem add_muls (a b c : Int) (u1 : U64 a) (u2 : U64 b) (u3 : U64 c) (w : World) :
    Calls Try.prog 10 #[.agg #[.int .u64 (hiOf (a * b)), .int .u64 (loOf (a * b))], .agg #[.int .u64 (hiOf (a * c)), .int .u64 (loOf (a * c))]] w fun e w' =>
      e = .returned (.tuple #[.agg #[.int .u64 (hiOf (a * b + a * c)), .int .u64 (loOf (a * b + a * c))], .bool (decide (full ≤ a * b + a * c))]) ∧ Below w.heap.size w w' :=
  (add_any _ _ _ _ (hiOf_u _) (loOf_u _) (hiOf_u _) (loOf_u _) w).mono fun e w' ⟨he, hb⟩ => ⟨he.trans (by
    rw [val_hiLo (mul_range u1 u2).1 (mul_range u1 u2).2, val_hiLo (mul_range u1 u3).1 (mul_range u1 u3).2]), hb⟩
theorem mul_as (a s n : Int) (u1 : U64 a) (us : U64 s) (h : a * s = n) (w : World) :
    Calls Try.prog 19 #[.int .u64 a, .int .u64 s] w fun e w' => e = .returned (.agg #[.int .u64 (hiOf n), .int .u64 (loOf n)]) ∧ Below w.heap.size w w' := by
  subst h; exact mul_any a s u1 us w
theorem mul_turn (a b : Int) (u1 : U64 a) (u2 : U64 b) (w : World) :
    Calls Try.prog 19 #[.int .u64 b, .int .u64 a] w fun e w' => e = .returned (.agg #[.int .u64 (hiOf (a * b)), .int .u64 (loOf (a * b))]) ∧ Below w.heap.size w w' :=
  mul_as b a (a * b) u2 u1 (Int.mul_comm _ _) w
theorem mul_one (a : Int) (u1 : U64 a) (w : World) :
    Calls Try.prog 19 #[.int .u64 a, .int .u64 1] w fun e w' => e = .returned (.agg #[.int .u64 0, .int .u64 a]) ∧ Below w.heap.size w w' :=
  (mul_any a 1 u1 Go.Proofs.Ytchghjdjkdpdjaa.u1 w).mono fun e w' ⟨he, hb⟩ => ⟨he.trans (by
    have h := u1.1; have h' := u1.2
    rw [show hiOf (a * 1) = 0 from by unfold hiOf; omega, show loOf (a * 1) = a from by unfold loOf; omega]), hb⟩
theorem mul_zero (a : Int) (u1 : U64 a) (w : World) :
    Calls Try.prog 19 #[.int .u64 a, .int .u64 0] w fun e w' => e = .returned (.agg #[.int .u64 0, .int .u64 0]) ∧ Below w.heap.size w w' :=
  (mul_any a 0 u1 u0 w).mono fun e w' ⟨he, hb⟩ => ⟨he.trans (by
    rw [Int.mul_zero, show hiOf 0 = 0 from by decide, show loOf 0 = 0 from by decide]), hb⟩
theorem zero_zero (w : World) :
    Calls Try.prog 25 #[.agg #[.int .u64 0, .int .u64 0]] w fun e w' => e = .returned (.bool true) ∧ Below w.heap.size w w' :=
  (zero_any 0 0 u0 u0 w).mono fun e w' ⟨he, hb⟩ => ⟨he.trans (by rw [show (val 0 0 == 0) = true from by decide]), hb⟩
theorem add_high (a s n : Int) (u1 : U64 a) (us : U64 s) (h : a * s + a * 18446744073709551616 = n) (w : World) :
    Calls Try.prog 10 #[.agg #[.int .u64 (hiOf (a * s)), .int .u64 (loOf (a * s))], .agg #[.int .u64 a, .int .u64 0]] w fun e w' =>
      e = .returned (.tuple #[.agg #[.int .u64 (hiOf n), .int .u64 (loOf n)], .bool (decide (full ≤ n))]) ∧ Below w.heap.size w w' :=
  (add_any _ _ a 0 (hiOf_u _) (loOf_u _) u1 u0 w).mono fun e w' ⟨he, hb⟩ => ⟨he.trans (by
    rw [val_hiLo (mul_range u1 us).1 (mul_range u1 us).2, show a * s + val a 0 = n from by rw [← h]; unfold val; omega]), hb⟩

set_option maxHeartbeats 2000000 in
set_option maxRecDepth 100000 in
/-- The sum b + c has no carry. -/
theorem mul_walk_plain (a b c : Int) (u1 : U64 a) (u2 : U64 b) (u3 : U64 c) (hnc : b + c < 18446744073709551616) (w : World) :
    Calls Try.prog 7 #[.int .u64 a, .int .u64 b, .int .u64 c] w fun e w' => e = .returned (.bool true) ∧ Below w.heap.size w w' := by
  obtain ⟨s, hs, us, hn, hle⟩ : ∃ s, IntKind.u64.wrap (b + c) = s ∧ U64 s ∧ a * s = a * b + a * c ∧ b ≤ s := by
    have h1 := u2.1; have h2 := u3.1
    refine ⟨b + c, ?_, ⟨by omega, hnc⟩, Int.mul_add _ _ _, by omega⟩
    rw [IntKind.wrap_u64]; omega
  have Hn := Lib.hid hn
  clear hn hnc
  have kk0 := Below.refl w.heap.size w
  go_enter Try.func7, Try.ntmps7
  go_wp2_with fail
  (with_reducible refine (mul_any a b u1 u2 _).mono ?_); rintro e w1 ⟨rfl, hb1⟩
  have kk1 := bC kk0 hb1
  clear kk0 hb1
  go_wp2_with fail
  (with_reducible refine (mul_any a c u1 u3 _).mono ?_); rintro e w2 ⟨rfl, hb2⟩
  have kk2 := bC kk1 hb2
  clear kk1 hb2
  go_wp2_with fail
  (with_reducible refine (add_muls a b c u1 u2 u3 _).mono ?_); rintro e w3 ⟨rfl, hb3⟩
  have kk3 := bC kk2 hb3
  clear kk2 hb3
  have p3X := Box.new w3 (hiOf (a * b + a * c)) (loOf (a * b + a * c)) 24
  go_wp2_with fail
  (with_reducible refine (mul_as a s (a * b + a * c) u1 us (Hn.out) _).mono ?_); rintro e w4 ⟨rfl, hb4⟩
  have p4X := p3X.later hb4; have kk4 := bC (bA kk3 _) hb4
  clear p3X kk3 hb4
  obtain ⟨sX, cX0, cX1⟩ := id p4X
  have p4Y := Box.new w4 (hiOf (a * b + a * c)) (loOf (a * b + a * c)) 24
  go_wp2_with fail
  (with_reducible refine (mul_any a b u1 u2 _).mono ?_); rintro e w5 ⟨rfl, hb5⟩
  have p5X := (p4X.alloc _).later hb5; have p5Y := p4Y.later hb5; have kk5 := bC (bA kk4 _) hb5
  clear p4X p4Y kk4 hb5 sX cX0 cX1
  obtain ⟨sX, cX0, cX1⟩ := id p5X
  obtain ⟨sY, cY0, cY1⟩ := id p5Y
  go_wp2_with fail
  (with_reducible refine (mul_turn a b u1 u2 _).mono ?_); rintro e w6 ⟨rfl, hb6⟩
  have p6X := p5X.later hb6; have p6Y := p5Y.later hb6; have kk6 := bC kk5 hb6
  clear p5X p5Y kk5 hb6 sX cX0 cX1 sY cY0 cY1
  obtain ⟨sX, cX0, cX1⟩ := id p6X
  obtain ⟨sY, cY0, cY1⟩ := id p6Y
  go_wp2_with fail
  (with_reducible refine (mul_one a u1 _).mono ?_); rintro e w7 ⟨rfl, hb7⟩
  have p7X := p6X.later hb7; have p7Y := p6Y.later hb7; have kk7 := bC kk6 hb7
  clear p6X p6Y kk6 hb7 sX cX0 cX1 sY cY0 cY1
  clear p7X
  clear p7Y
  go_wp2_with fail
  (with_reducible refine (mul_zero a u1 _).mono ?_); rintro e w8 ⟨rfl, hb8⟩
  have kk8 := bC kk7 hb8
  clear kk7 hb8
  go_wp2_with fail
  (with_reducible refine (zero_zero _).mono ?_); rintro e w9 ⟨rfl, hb9⟩
  have kk9 := bC kk8 hb9
  clear kk8 hb9
  go_wp2_with fail
  (with_reducible refine (counts_any _).mono ?_); rintro e w10 ⟨rfl, hb10⟩
  have kk10 := bC kk9 hb10
  clear kk9 hb10
  go_wp2_with fail
  go_ret
  exact ⟨rfl, kk10⟩

set_option maxHeartbeats 2000000 in
set_option maxRecDepth 100000 in
/-- The sum b + c has a carry. -/
theorem mul_walk_carry (a b c : Int) (u1 : U64 a) (u2 : U64 b) (u3 : U64 c) (hnc : 18446744073709551616 ≤ b + c) (w : World) :
    Calls Try.prog 7 #[.int .u64 a, .int .u64 b, .int .u64 c] w fun e w' => e = .returned (.bool true) ∧ Below w.heap.size w w' := by
  obtain ⟨s, hs, us, hn, hle⟩ : ∃ s, IntKind.u64.wrap (b + c) = s ∧ U64 s ∧ a * s + a * 18446744073709551616 = a * b + a * c ∧ s < b := by
    have h1 := u2.2; have h2 := u3.2
    refine ⟨b + c - 18446744073709551616, ?_, ⟨by omega, by omega⟩, ?_, by omega⟩
    · rw [IntKind.wrap_u64]; omega
    · rw [← Int.mul_add, ← Int.mul_add]; congr 1; omega
  have Hn := Lib.hid hn
  clear hn hnc
  have kk0 := Below.refl w.heap.size w
  go_enter Try.func7, Try.ntmps7
  go_wp2_with fail
  (with_reducible refine (mul_any a b u1 u2 _).mono ?_); rintro e w1 ⟨rfl, hb1⟩
  have kk1 := bC kk0 hb1
  clear kk0 hb1
  go_wp2_with fail
  (with_reducible refine (mul_any a c u1 u3 _).mono ?_); rintro e w2 ⟨rfl, hb2⟩
  have kk2 := bC kk1 hb2
  clear kk1 hb2
  go_wp2_with fail
  (with_reducible refine (add_muls a b c u1 u2 u3 _).mono ?_); rintro e w3 ⟨rfl, hb3⟩
  have kk3 := bC kk2 hb3
  clear kk2 hb3
  have p3X := Box.new w3 (hiOf (a * b + a * c)) (loOf (a * b + a * c)) 24
  go_wp2_with fail
  (with_reducible refine (mul_any a s u1 us _).mono ?_); rintro e w4 ⟨rfl, hb4⟩
  have p4X := p3X.later hb4; have kk4 := bC (bA kk3 _) hb4
  clear p3X kk3 hb4
  obtain ⟨sX, cX0, cX1⟩ := id p4X
  have p4Y := Box.new w4 (hiOf (a * s)) (loOf (a * s)) 24
  go_wp2_with fail
  (with_reducible refine (add_high a s (a * b + a * c) u1 us (Hn.out) _).mono ?_); rintro e w5 ⟨rfl, hb5⟩
  have f5Y := (BoxF.new w4 (hiOf (a * s)) (loOf (a * s)) 24).later hb5
  have p5X := (p4X.alloc _).later hb5; have kk5 := bC (bA kk4 _) hb5
  have hsz : w.heap.size ≤ w4.heap.size := kk4.size
  have h34 := p4X.1
  clear p4X p4Y hb5 kk4 sX cX0 cX1
  have p6Y := (f5Y.set (hiOf (a * b + a * c)) (loOf (a * b + a * c))).1
  have hne : w3.heap.size ≠ w4.heap.size := by have := h34; omega
  have p6X := p5X.setFar hne (hiOf (a * b + a * c)) (loOf (a * b + a * c))
  have kk6 := bS kk5 hsz (hiOf (a * b + a * c)) (loOf (a * b + a * c))
  obtain ⟨⟨sY, cY0, cY1⟩, fY0, fY1⟩ := f5Y
  clear p5X kk5 hne h34
  go_wp2_with fail
  clear sY cY0 cY1 fY0 fY1
  (with_reducible refine (mul_any a b u1 u2 _).mono ?_); rintro e w7 ⟨rfl, hb7⟩
  have p7X := p6X.later hb7; have p7Y := p6Y.later hb7; have kk7 := bC kk6 hb7
  clear p6X p6Y kk6 hb7
  go_wp2_with fail
  (with_reducible refine (mul_turn a b u1 u2 _).mono ?_); rintro e w8 ⟨rfl, hb8⟩
  have p8X := p7X.later hb8; have p8Y := p7Y.later hb8; have kk8 := bC kk7 hb8
  clear p7X p7Y kk7 hb8
  obtain ⟨sX, cX0, cX1⟩ := p8X
  obtain ⟨sY, cY0, cY1⟩ := p8Y
  go_wp2_with fail
  (with_reducible refine (mul_one a u1 _).mono ?_); rintro e w9 ⟨rfl, hb9⟩
  have kk9 := bC kk8 hb9
  clear kk8 hb9 sX cX0 cX1 sY cY0 cY1
  go_wp2_with fail
  (with_reducible refine (mul_zero a u1 _).mono ?_); rintro e w10 ⟨rfl, hb10⟩
  have kk10 := bC kk9 hb10
  clear kk9 hb10
  go_wp2_with fail
  (with_reducible refine (zero_zero _).mono ?_); rintro e w11 ⟨rfl, hb11⟩
  have kk11 := bC kk10 hb11
  clear kk10 hb11
  go_wp2_with fail
  (with_reducible refine (counts_any _).mono ?_); rintro e w12 ⟨rfl, hb12⟩
  have kk12 := bC kk11 hb12
  clear kk11 hb12
  go_wp2_with fail
  go_ret
  exact ⟨rfl, kk12⟩

theorem mul_walk (a b c : Int) (u1 : U64 a) (u2 : U64 b) (u3 : U64 c) (w : World) :
    Calls Try.prog 7 #[.int .u64 a, .int .u64 b, .int .u64 c] w fun e w' => e = .returned (.bool true) ∧ Below w.heap.size w w' := by
  by_cases h : b + c < 18446744073709551616
  · exact mul_walk_plain a b c u1 u2 u3 h w
  · exact mul_walk_carry a b c u1 u2 u3 (by omega) w

end Go.Proofs.Ytchghjdjkdpdjaa
