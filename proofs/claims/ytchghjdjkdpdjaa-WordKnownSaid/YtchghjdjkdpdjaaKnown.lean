/-
  The walk of the statement WordKnown: the chapter's examples.
-/
import Derived.Test.YtchghjdjkdpdjaaCounts
set_option linter.unusedVariables false
namespace Go.Proofs.Ytchghjdjkdpdjaa
open Go.RowKit

theorem known_add1 (w : World) :
    Calls Try.prog 10 #[.agg #[.int .u64 18446744073709551615, .int .u64 18446744073709551615], .agg #[.int .u64 0, .int .u64 1]] w fun e w' =>
      e = .returned (.tuple #[.agg #[.int .u64 0, .int .u64 0], .bool true]) ∧ Below w.heap.size w w' :=
  (add_any 18446744073709551615 18446744073709551615 0 1 uMax uMax u0 u1 w).mono fun e w' ⟨he, hb⟩ => ⟨he.trans (by
    rw [show hiOf (val 18446744073709551615 18446744073709551615 + val 0 1) = 0 from by decide +kernel, show loOf (val 18446744073709551615 18446744073709551615 + val 0 1) = 0 from by decide +kernel, show decide (full ≤ val 18446744073709551615 18446744073709551615 + val 0 1) = true from by decide +kernel]), hb⟩
theorem known_add2 (w : World) :
    Calls Try.prog 10 #[.agg #[.int .u64 18446744073709551615, .int .u64 18446744073709551615], .agg #[.int .u64 18446744073709551615, .int .u64 18446744073709551615]] w fun e w' =>
      e = .returned (.tuple #[.agg #[.int .u64 18446744073709551615, .int .u64 18446744073709551614], .bool true]) ∧ Below w.heap.size w w' :=
  (add_any 18446744073709551615 18446744073709551615 18446744073709551615 18446744073709551615 uMax uMax uMax uMax w).mono fun e w' ⟨he, hb⟩ => ⟨he.trans (by
    rw [show hiOf (val 18446744073709551615 18446744073709551615 + val 18446744073709551615 18446744073709551615) = 18446744073709551615 from by decide +kernel, show loOf (val 18446744073709551615 18446744073709551615 + val 18446744073709551615 18446744073709551615) = 18446744073709551614 from by decide +kernel, show decide (full ≤ val 18446744073709551615 18446744073709551615 + val 18446744073709551615 18446744073709551615) = true from by decide +kernel]), hb⟩
theorem known_mul (w : World) :
    Calls Try.prog 19 #[.int .u64 18446744073709551615, .int .u64 18446744073709551615] w fun e w' =>
      e = .returned (.agg #[.int .u64 18446744073709551614, .int .u64 1]) ∧ Below w.heap.size w w' :=
  (mul_any 18446744073709551615 18446744073709551615 uMax uMax w).mono fun e w' ⟨he, hb⟩ => ⟨he.trans (by
    rw [show hiOf (18446744073709551615 * 18446744073709551615) = 18446744073709551614 from by decide +kernel, show loOf (18446744073709551615 * 18446744073709551615) = 1 from by decide +kernel]), hb⟩
theorem known_zero (w : World) :
    Calls Try.prog 25 #[.agg #[.int .u64 0, .int .u64 0]] w fun e w' =>
      e = .returned (.bool true) ∧ Below w.heap.size w w' :=
  (zero_any 0 0 u0 u0 w).mono fun e w' ⟨he, hb⟩ => ⟨he.trans (by
    rw [show (val 0 0 == 0) = true from by decide +kernel]), hb⟩
theorem known_one (w : World) :
    Calls Try.prog 25 #[.agg #[.int .u64 1, .int .u64 0]] w fun e w' =>
      e = .returned (.bool false) ∧ Below w.heap.size w w' :=
  (zero_any 1 0 u1 u0 w).mono fun e w' ⟨he, hb⟩ => ⟨he.trans (by
    rw [show (val 1 0 == 0) = false from by decide +kernel]), hb⟩
theorem known_cmp (w : World) :
    Calls Try.prog 22 #[.agg #[.int .u64 1, .int .u64 0], .agg #[.int .u64 0, .int .u64 18446744073709551615]] w fun e w' =>
      e = .returned (.int .i64 1) ∧ Below w.heap.size w w' :=
  (cmp_any 1 0 0 18446744073709551615 u1 u0 u0 uMax w).mono fun e w' ⟨he, hb⟩ => ⟨he.trans (by
    rw [show cmpI (val 1 0) (val 0 18446744073709551615) = 1 from by decide +kernel]), hb⟩
theorem known_bit1 (w : World) :
    Calls Try.prog 23 #[.agg #[.int .u64 18446744073709551615, .int .u64 18446744073709551615], .int .i64 128] w fun e w' =>
      e = .returned (.bool false) ∧ Below w.heap.size w w' :=
  (bit_any 18446744073709551615 18446744073709551615 128 uMax uMax w).mono fun e w' ⟨he, hb⟩ => ⟨he.trans (by
    rw [show bitI (val 18446744073709551615 18446744073709551615) 128 = false from by decide +kernel]), hb⟩
theorem known_bit2 (w : World) :
    Calls Try.prog 23 #[.agg #[.int .u64 18446744073709551615, .int .u64 18446744073709551615], .int .i64 (-1)] w fun e w' =>
      e = .returned (.bool false) ∧ Below w.heap.size w w' :=
  (bit_any 18446744073709551615 18446744073709551615 (-1) uMax uMax w).mono fun e w' ⟨he, hb⟩ => ⟨he.trans (by
    rw [show bitI (val 18446744073709551615 18446744073709551615) (-1) = false from by decide +kernel]), hb⟩
theorem known_bit3 (w : World) :
    Calls Try.prog 23 #[.agg #[.int .u64 18446744073709551615, .int .u64 18446744073709551615], .int .i64 127] w fun e w' =>
      e = .returned (.bool true) ∧ Below w.heap.size w w' :=
  (bit_any 18446744073709551615 18446744073709551615 127 uMax uMax w).mono fun e w' ⟨he, hb⟩ => ⟨he.trans (by
    rw [show bitI (val 18446744073709551615 18446744073709551615) 127 = true from by decide +kernel]), hb⟩

set_option maxHeartbeats 2000000 in
set_option maxRecDepth 100000 in
theorem known_walk (w : World) :
    Calls Try.prog 9 #[] w fun e w' => e = .returned (.bool true) ∧ Below w.heap.size w w' := by
  go_enter Try.func9, Try.ntmps9
  go_wp2_with fail
  have p0L := Box.new w 18446744073709551615 18446744073709551615 24
  have kk0 := bA (Below.refl w.heap.size w) (.cells #[.int .u64 18446744073709551615, .int .u64 18446744073709551615] 24)
  (with_reducible refine (known_add1 _).mono ?_); rintro e w1 ⟨rfl, hb1⟩
  have p1L := p0L.later hb1; have kk1 := bC kk0 hb1
  clear p0L kk0 hb1
  obtain ⟨sL, cL0, cL1⟩ := id p1L
  have p1A := Box.new w1 (0) (0) 24
  go_wp2_with fail
  (with_reducible refine (known_add2 _).mono ?_); rintro e w2 ⟨rfl, hb2⟩
  have p2L := (p1L.alloc _).later hb2; have p2A := p1A.later hb2; have kk2 := bC (bA kk1 _) hb2
  clear p1L p1A kk1 hb2 sL cL0 cL1
  obtain ⟨sA, cA0, cA1⟩ := id p2A
  obtain ⟨sL, cL0, cL1⟩ := id p2L
  have p2C := Box.new w2 (18446744073709551615) (18446744073709551614) 24
  go_wp2_with fail
  (with_reducible refine (known_mul _).mono ?_); rintro e w3 ⟨rfl, hb3⟩
  have p3L := (p2L.alloc _).later hb3; have p3A := (p2A.alloc _).later hb3; have p3C := p2C.later hb3; have kk3 := bC (bA kk2 _) hb3
  clear p2L p2A p2C kk2 hb3 sA cA0 cA1 sL cL0 cL1
  obtain ⟨sL, cL0, cL1⟩ := id p3L
  clear p3A
  clear p3C
  go_wp2_with fail
  (with_reducible refine (known_zero _).mono ?_); rintro e w4 ⟨rfl, hb4⟩
  have p4L := p3L.later hb4; have kk4 := bC kk3 hb4
  clear p3L kk3 hb4 sL cL0 cL1
  obtain ⟨sL, cL0, cL1⟩ := id p4L
  go_wp2_with fail
  (with_reducible refine (known_one _).mono ?_); rintro e w5 ⟨rfl, hb5⟩
  have p5L := p4L.later hb5; have kk5 := bC kk4 hb5
  clear p4L kk4 hb5 sL cL0 cL1
  obtain ⟨sL, cL0, cL1⟩ := id p5L
  go_wp2_with fail
  (with_reducible refine (known_cmp _).mono ?_); rintro e w6 ⟨rfl, hb6⟩
  have p6L := p5L.later hb6; have kk6 := bC kk5 hb6
  clear p5L kk5 hb6 sL cL0 cL1
  obtain ⟨sL, cL0, cL1⟩ := id p6L
  go_wp2_with fail
  (with_reducible refine (known_bit1 _).mono ?_); rintro e w7 ⟨rfl, hb7⟩
  have p7L := p6L.later hb7; have kk7 := bC kk6 hb7
  clear p6L kk6 hb7 sL cL0 cL1
  obtain ⟨sL, cL0, cL1⟩ := id p7L
  go_wp2_with fail
  (with_reducible refine (known_bit2 _).mono ?_); rintro e w8 ⟨rfl, hb8⟩
  have p8L := p7L.later hb8; have kk8 := bC kk7 hb8
  clear p7L kk7 hb8 sL cL0 cL1
  obtain ⟨sL, cL0, cL1⟩ := id p8L
  go_wp2_with fail
  (with_reducible refine (known_bit3 _).mono ?_); rintro e w9 ⟨rfl, hb9⟩
  have p9L := p8L.later hb9; have kk9 := bC kk8 hb9
  clear p8L kk8 hb9 sL cL0 cL1
  obtain ⟨sL, cL0, cL1⟩ := id p9L
  go_wp2_with fail
  (with_reducible refine (counts_any _).mono ?_); rintro e w10 ⟨rfl, hb10⟩
  have p10L := p9L.later hb10; have kk10 := bC kk9 hb10
  clear p9L kk9 hb10 sL cL0 cL1
  obtain ⟨sL, cL0, cL1⟩ := id p10L
  go_wp2_with fail
  go_ret
  exact ⟨rfl, kk10⟩

end Go.Proofs.Ytchghjdjkdpdjaa
