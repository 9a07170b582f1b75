/-
  The walk of the statement AddsubOrder.
-/
import Derived.Test.YtnaamckhignjeaaGreatDoorAdd18M
import Derived.Test.YtnaamckhignjeaaGreatDoorW2
import Derived.Test.YtnaamckhignjeaaGreatDoorGfA
import Derived.Test.YtnaamckhignjeaaGreatDoorGhA
import Derived.Test.YtnaamckhignjeaaGreatDoorGaA
import Derived.Test.YtnaamckhignjeaaGreatDoorGoes18
import Derived.Test.YtnaamckhignjeaaGreatDoorW3
set_option linter.unusedVariables false
set_option linter.unusedSimpArgs false
set_option maxRecDepth 100000
namespace Go.Proofs.YtnaamckhignjeaaGreatDoor
open Go.RowKit
attribute [local go_sem ↓] Go.wp_at_zero Go.wp_at_succ

set_option maxHeartbeats 4000000 in
theorem order18_nf (f m ah al bh bl kh kl mm : Int) (t : Bool)
    (h0 : Hid (∀ w, FTab w → Ca 19 #[.int .u8 f] w (.bool false)))
    (h4 : Hid (∀ w, FTab w → Ca 13 #[] w (.bool true))) (m2 : m.tmod 5 = mm) (m3 : m % 5 = mm) (w : World) (ft : FTab w) :
    Ca 9 #[.int .u8 f, .agg #[.int .u8 m, .bool t], U2 ah al, U2 bh bl, U2 kh kl] w (.bool true) := by
  simp only [Ca, U2] at *
  go_enter Tryz.func9, Tryz.ntmps9
  go_wp2_with fail
  refine vM (h0.out _ (ft.later (bA (bA (bA (bA (Below.refl _ _) _) _) _) _))) fun w1 b1 => ?_
  go_wp2_with fail
  refine vM (h4.out _ (ft.later (bC (bA (bA (bA (bA (Below.refl _ _) _) _) _) _) b1))) fun w2 b2 => ?_
  go_wp2_with fail
  go_ret
  exact ⟨rfl, (bC (bC (bA (bA (bA (bA (Below.refl _ _) _) _) _) _) b1) b2)⟩

set_option maxHeartbeats 4000000 in
theorem order18_na (f m ah al bh bl kh kl mm : Int) (t : Bool)
    (h0 : Hid (∀ w, FTab w → Ca 19 #[.int .u8 f] w (.bool true)))
    (h1 : Hid (∀ w, FTab w → Ca 20 #[.int .u8 f, U2 ah al] w (.bool false)))
    (h4 : Hid (∀ w, FTab w → Ca 13 #[] w (.bool true))) (m2 : m.tmod 5 = mm) (m3 : m % 5 = mm) (w : World) (ft : FTab w) :
    Ca 9 #[.int .u8 f, .agg #[.int .u8 m, .bool t], U2 ah al, U2 bh bl, U2 kh kl] w (.bool true) := by
  simp only [Ca, U2] at *
  go_enter Tryz.func9, Tryz.ntmps9
  go_wp2_with fail
  refine vM (h0.out _ (ft.later (bA (bA (bA (bA (Below.refl _ _) _) _) _) _))) fun w1 b1 => ?_
  have X1 := (((HB.newAt (b := w.heap.size + 1) (by simp) _ _).alloc _).alloc _).later b1
  have oX1 := X1.o
  go_wp2_with fail
  refine vM (h1.out _ (ft.later (bC (bA (bA (bA (bA (Below.refl _ _) _) _) _) _) b1))) fun w2 b2 => ?_
  clear oX1
  go_wp2_with fail
  refine vM (h4.out _ (ft.later (bC (bC (bA (bA (bA (bA (Below.refl _ _) _) _) _) _) b1) b2))) fun w3 b3 => ?_
  go_wp2_with fail
  go_ret
  exact ⟨rfl, (bC (bC (bC (bA (bA (bA (bA (Below.refl _ _) _) _) _) _) b1) b2) b3)⟩

set_option maxHeartbeats 4000000 in
theorem order18_nb (f m ah al bh bl kh kl mm : Int) (t : Bool)
    (h0 : Hid (∀ w, FTab w → Ca 19 #[.int .u8 f] w (.bool true)))
    (h1 : Hid (∀ w, FTab w → Ca 20 #[.int .u8 f, U2 ah al] w (.bool true)))
    (h2 : Hid (∀ w, FTab w → Ca 20 #[.int .u8 f, U2 bh bl] w (.bool false)))
    (h4 : Hid (∀ w, FTab w → Ca 13 #[] w (.bool true))) (m2 : m.tmod 5 = mm) (m3 : m % 5 = mm) (w : World) (ft : FTab w) :
    Ca 9 #[.int .u8 f, .agg #[.int .u8 m, .bool t], U2 ah al, U2 bh bl, U2 kh kl] w (.bool true) := by
  simp only [Ca, U2] at *
  go_enter Tryz.func9, Tryz.ntmps9
  go_wp2_with fail
  refine vM (h0.out _ (ft.later (bA (bA (bA (bA (Below.refl _ _) _) _) _) _))) fun w1 b1 => ?_
  have X1 := (((HB.newAt (b := w.heap.size + 1) (by simp) _ _).alloc _).alloc _).later b1
  have X2 := ((HB.newAt (b := w.heap.size + 1 + 1) (by simp) _ _).alloc _).later b1
  have oX1 := X1.o
  go_wp2_with fail
  refine vM (h1.out _ (ft.later (bC (bA (bA (bA (bA (Below.refl _ _) _) _) _) _) b1))) fun w2 b2 => ?_
  clear oX1
  replace X2 := X2.later b2
  have oX2 := X2.o
  go_wp2_with fail
  refine vM (h2.out _ (ft.later (bC (bC (bA (bA (bA (bA (Below.refl _ _) _) _) _) _) b1) b2))) fun w3 b3 => ?_
  clear oX2
  go_wp2_with fail
  refine vM (h4.out _ (ft.later (bC (bC (bC (bA (bA (bA (bA (Below.refl _ _) _) _) _) _) b1) b2) b3))) fun w4 b4 => ?_
  go_wp2_with fail
  go_ret
  exact ⟨rfl, (bC (bC (bC (bC (bA (bA (bA (bA (Below.refl _ _) _) _) _) _) b1) b2) b3) b4)⟩

set_option maxHeartbeats 4000000 in
theorem order18_nc (f m ah al bh bl kh kl mm : Int) (t : Bool)
    (h0 : Hid (∀ w, FTab w → Ca 19 #[.int .u8 f] w (.bool true)))
    (h1 : Hid (∀ w, FTab w → Ca 20 #[.int .u8 f, U2 ah al] w (.bool true)))
    (h2 : Hid (∀ w, FTab w → Ca 20 #[.int .u8 f, U2 bh bl] w (.bool true)))
    (h3 : Hid (∀ w, FTab w → Ca 20 #[.int .u8 f, U2 kh kl] w (.bool false)))
    (h4 : Hid (∀ w, FTab w → Ca 13 #[] w (.bool true))) (m2 : m.tmod 5 = mm) (m3 : m % 5 = mm) (w : World) (ft : FTab w) :
    Ca 9 #[.int .u8 f, .agg #[.int .u8 m, .bool t], U2 ah al, U2 bh bl, U2 kh kl] w (.bool true) := by
  simp only [Ca, U2] at *
  go_enter Tryz.func9, Tryz.ntmps9
  go_wp2_with fail
  refine vM (h0.out _ (ft.later (bA (bA (bA (bA (Below.refl _ _) _) _) _) _))) fun w1 b1 => ?_
  have X1 := (((HB.newAt (b := w.heap.size + 1) (by simp) _ _).alloc _).alloc _).later b1
  have X2 := ((HB.newAt (b := w.heap.size + 1 + 1) (by simp) _ _).alloc _).later b1
  have X3 := (HB.newAt (b := w.heap.size + 1 + 1 + 1) (by simp) _ _).later b1
  have oX1 := X1.o
  go_wp2_with fail
  refine vM (h1.out _ (ft.later (bC (bA (bA (bA (bA (Below.refl _ _) _) _) _) _) b1))) fun w2 b2 => ?_
  clear oX1
  replace X2 := X2.later b2
  have oX2 := X2.o
  go_wp2_with fail
  refine vM (h2.out _ (ft.later (bC (bC (bA (bA (bA (bA (Below.refl _ _) _) _) _) _) b1) b2))) fun w3 b3 => ?_
  clear oX2
  replace X3 := X3.later (bC b2 b3)
  have oX3 := X3.o
  go_wp2_with fail
  refine vM (h3.out _ (ft.later (bC (bC (bC (bA (bA (bA (bA (Below.refl _ _) _) _) _) _) b1) b2) b3))) fun w4 b4 => ?_
  clear oX3
  go_wp2_with fail
  refine vM (h4.out _ (ft.later (bC (bC (bC (bC (bA (bA (bA (bA (Below.refl _ _) _) _) _) _) b1) b2) b3) b4))) fun w5 b5 => ?_
  go_wp2_with fail
  go_ret
  exact ⟨rfl, (bC (bC (bC (bC (bC (bA (bA (bA (bA (Below.refl _ _) _) _) _) _) b1) b2) b3) b4) b5)⟩

set_option maxHeartbeats 4000000 in
theorem order18_main (f m ah al bh bl kh kl mm r q9 xh xl yh yl zh zl ph pl qh ql pf qf : Int) (t : Bool)
    (h0 : Hid (∀ w, FTab w → Ca 19 #[.int .u8 f] w (.bool true)))
    (h1 : Hid (∀ w, FTab w → Ca 20 #[.int .u8 f, U2 ah al] w (.bool true)))
    (h2 : Hid (∀ w, FTab w → Ca 20 #[.int .u8 f, U2 bh bl] w (.bool true)))
    (h3 : Hid (∀ w, FTab w → Ca 20 #[.int .u8 f, U2 kh kl] w (.bool true)))
    (h4 : Hid (∀ w, FTab w → Ca 28 #[.int .u8 f, U2 ah al] w (U2 xh xl)))
    (h5 : Hid (∀ w, FTab w → Ca 28 #[.int .u8 f, U2 bh bl] w (U2 yh yl)))
    (h6 : Hid (∀ w, FTab w → Ca 28 #[.int .u8 f, U2 kh kl] w (U2 zh zl)))
    (h7 : Hid (∀ w, Ca 29 #[U2 xh xl, U2 yh yl] w (.int .i64 r))) (m2 : m.tmod 5 = mm) (m3 : m % 5 = mm) (gq : decide (q9 ≤ 0) = true)
    (HH : ((decide (0 < r) = true) ∧ Hid (∀ w, FTab w → Ca 11 #[.int .u8 f, .agg #[.int .u8 mm, .bool t], U2 yh yl, U2 zh zl] w (.agg #[.int .u64 ph, .int .u64 pl, .int .u8 pf])) ∧ Hid (∀ w, FTab w → Ca 11 #[.int .u8 f, .agg #[.int .u8 mm, .bool t], U2 xh xl, U2 zh zl] w (.agg #[.int .u64 qh, .int .u64 ql, .int .u8 qf])) ∧ Hid (∀ w, Ca 29 #[U2 ph pl, U2 qh ql] w (.int .i64 q9)) ∧ Hid (∀ w, FTab w → Ca 13 #[] w (.bool true))) ∨ ((decide (0 < r) = false) ∧ Hid (∀ w, FTab w → Ca 11 #[.int .u8 f, .agg #[.int .u8 mm, .bool t], U2 xh xl, U2 zh zl] w (.agg #[.int .u64 ph, .int .u64 pl, .int .u8 pf])) ∧ Hid (∀ w, FTab w → Ca 11 #[.int .u8 f, .agg #[.int .u8 mm, .bool t], U2 yh yl, U2 zh zl] w (.agg #[.int .u64 qh, .int .u64 ql, .int .u8 qf])) ∧ Hid (∀ w, Ca 29 #[U2 ph pl, U2 qh ql] w (.int .i64 q9)) ∧ Hid (∀ w, FTab w → Ca 13 #[] w (.bool true)))) (w : World) (ft : FTab w) :
    Ca 9 #[.int .u8 f, .agg #[.int .u8 m, .bool t], U2 ah al, U2 bh bl, U2 kh kl] w (.bool true) := by
  simp only [Ca, U2] at *
  go_enter Tryz.func9, Tryz.ntmps9
  go_wp2_with fail
  refine vM (h0.out _ (ft.later (bA (bA (bA (bA (Below.refl _ _) _) _) _) _))) fun w1 b1 => ?_
  have X0 := ((((HB.newAt (b := w.heap.size) (by simp) _ _).alloc _).alloc _).alloc _).later b1
  have X1 := (((HB.newAt (b := w.heap.size + 1) (by simp) _ _).alloc _).alloc _).later b1
  have X2 := ((HB.newAt (b := w.heap.size + 1 + 1) (by simp) _ _).alloc _).later b1
  have X3 := (HB.newAt (b := w.heap.size + 1 + 1 + 1) (by simp) _ _).later b1
  have oX1 := X1.o
  go_wp2_with fail
  refine vM (h1.out _ (ft.later (bC (bA (bA (bA (bA (Below.refl _ _) _) _) _) _) b1))) fun w2 b2 => ?_
  clear oX1
  replace X2 := X2.later b2
  have oX2 := X2.o
  go_wp2_with fail
  refine vM (h2.out _ (ft.later (bC (bC (bA (bA (bA (bA (Below.refl _ _) _) _) _) _) b1) b2))) fun w3 b3 => ?_
  clear oX2
  replace X3 := X3.later (bC b2 b3)
  have oX3 := X3.o
  go_wp2_with fail
  refine vM (h3.out _ (ft.later (bC (bC (bC (bA (bA (bA (bA (Below.refl _ _) _) _) _) _) b1) b2) b3))) fun w4 b4 => ?_
  clear oX3
  go_wp2_with fail
  replace X1 := X1.later (bC (bC b2 b3) b4)
  replace X2 := X2.later (bC b3 b4)
  replace X3 := X3.later b4
  refine vR [] fun w5 kz5 S => ?_
  refine vT 0 S ?_
  refine vT 1 S ?_ (hy := by intro wq hb; have q := (hb.hb X1 (by simp)).o; go_simp; try (with_reducible rfl))
  refine vT 3 S ?_
  refine vT 4 S ?_ (hy := by intro wq hb; have q := (hb.hb X2 (by simp)).o; go_simp; try (with_reducible rfl))
  refine vT 6 S ?_
  refine vT 7 S ?_ (hy := by intro wq hb; have q := (hb.hb X3 (by simp)).o; go_simp; try (with_reducible rfl))
  refine vY4 (cC 2 S (h4.out _ (ft.later (bC (bC (bC (bC (bC (bA (bA (bA (bA (Below.refl _ _) _) _) _) _) b1) b2) b3) b4) kz5))) fun w6 b6 => ?_) (cA 9 S fun w7 pp4_0 h X4 b7 => ?_) (cA 10 S fun w8 pp4_1 h X5 b8 => ?_) (cA 11 S fun w9 pp4_2 h X6 b9 => ?_)
  replace kz5 := bC kz5 b6
  clear S b6 w5
  revert kz5; revert w6
  refine ?s5_0; rotate_left
  have jX4 := (Nat.le_trans kz5.size h); replace kz5 := bC kz5 b7
  clear S b7 h w5
  revert kz5; revert jX4; revert X4; revert pp4_0; revert w7
  refine ?s5_1; rotate_left
  have jX5 := (Nat.le_trans kz5.size h); replace kz5 := bC kz5 b8
  clear S b8 h w5
  revert kz5; revert jX5; revert X5; revert pp4_1; revert w8
  refine ?s5_2; rotate_left
  have jX6 := (Nat.le_trans kz5.size h); replace kz5 := bC kz5 b9
  clear S b9 h w5
  revert kz5; revert jX6; revert X6; revert pp4_2; revert w9
  refine ?s5_3; rotate_left
  intro w10 kz5
  have S := Off.ofB kz5
  refine vY4 (cC 5 S (h5.out _ (ft.later (bC (bC (bC (bC (bC (bA (bA (bA (bA (Below.refl _ _) _) _) _) _) b1) b2) b3) b4) kz5))) fun w11 b11 => ?_) (cA 9 S fun w12 pp4_0 h X4 b12 => ?_) (cA 10 S fun w13 pp4_1 h X5 b13 => ?_) (cA 11 S fun w14 pp4_2 h X6 b14 => ?_)
  replace kz5 := bC kz5 b11
  clear S b11 w10
  revert kz5; revert w11
  refine ?s5_4; rotate_left
  have jX4 := (Nat.le_trans kz5.size h); replace kz5 := bC kz5 b12
  clear S b12 h w10
  revert kz5; revert jX4; revert X4; revert pp4_0; revert w12
  refine ?s5_5; rotate_left
  have jX5 := (Nat.le_trans kz5.size h); replace kz5 := bC kz5 b13
  clear S b13 h w10
  revert kz5; revert jX5; revert X5; revert pp4_1; revert w13
  refine ?s5_6; rotate_left
  have jX6 := (Nat.le_trans kz5.size h); replace kz5 := bC kz5 b14
  clear S b14 h w10
  revert kz5; revert jX6; revert X6; revert pp4_2; revert w14
  refine ?s5_7; rotate_left
  intro w15 pp4_0 X4 jX4 kz5
  have S := Off.ofB kz5
  refine vY3 (cC 2 S (h4.out _ (ft.later (bC (bC (bC (bC (bC (bA (bA (bA (bA (Below.refl _ _) _) _) _) _) b1) b2) b3) b4) kz5))) fun w16 b16 => ?s5_5 w16 pp4_0 (X4.later b16) jX4 (bC kz5 b16)) (cA 10 S fun w17 pp4_1 h X5 b17 => ?_) (cA 11 S fun w18 pp4_2 h X6 b18 => ?_)
  have ndX4_X5 : ¬ (pp4_0 = pp4_1) := (Nat.ne_of_lt (Nat.lt_of_lt_of_le X4.lt h)); have jX5 := (Nat.le_trans kz5.size h); replace X4 := (X4.later b17); replace kz5 := bC kz5 b17
  clear S b17 h w15
  revert kz5; revert ndX4_X5; revert jX5; revert jX4; revert X5; revert X4; revert pp4_1; revert pp4_0; revert w17
  refine ?s5_8; rotate_left
  have ndX4_X6 : ¬ (pp4_0 = pp4_2) := (Nat.ne_of_lt (Nat.lt_of_lt_of_le X4.lt h)); have jX6 := (Nat.le_trans kz5.size h); replace X4 := (X4.later b18); replace kz5 := bC kz5 b18
  clear S b18 h w15
  revert kz5; revert ndX4_X6; revert jX6; revert jX4; revert X6; revert X4; revert pp4_2; revert pp4_0; revert w18
  refine ?s5_9; rotate_left
  intro w19 pp4_1 X5 jX5 kz5
  have S := Off.ofB kz5
  refine vY3 (cC 2 S (h4.out _ (ft.later (bC (bC (bC (bC (bC (bA (bA (bA (bA (Below.refl _ _) _) _) _) _) b1) b2) b3) b4) kz5))) fun w20 b20 => ?s5_6 w20 pp4_1 (X5.later b20) jX5 (bC kz5 b20)) (cA 9 S fun w21 pp4_0 h X4 b21 => ?s5_8 w21 pp4_0 pp4_1 X4 (X5.later b21) (Nat.le_trans kz5.size h) jX5 (Nat.ne_of_gt (Nat.lt_of_lt_of_le X5.lt h)) (bC kz5 b21)) (cA 11 S fun w22 pp4_2 h X6 b22 => ?_)
  have ndX5_X6 : ¬ (pp4_1 = pp4_2) := (Nat.ne_of_lt (Nat.lt_of_lt_of_le X5.lt h)); have jX6 := (Nat.le_trans kz5.size h); replace X5 := (X5.later b22); replace kz5 := bC kz5 b22
  clear S b22 h w19
  revert kz5; revert ndX5_X6; revert jX6; revert jX5; revert X6; revert X5; revert pp4_2; revert pp4_1; revert w22
  refine ?s5_10; rotate_left
  intro w23 pp4_2 X6 jX6 kz5
  have S := Off.ofB kz5
  refine vY3 (cC 2 S (h4.out _ (ft.later (bC (bC (bC (bC (bC (bA (bA (bA (bA (Below.refl _ _) _) _) _) _) b1) b2) b3) b4) kz5))) fun w24 b24 => ?s5_7 w24 pp4_2 (X6.later b24) jX6 (bC kz5 b24)) (cA 9 S fun w25 pp4_0 h X4 b25 => ?s5_9 w25 pp4_0 pp4_2 X4 (X6.later b25) (Nat.le_trans kz5.size h) jX6 (Nat.ne_of_gt (Nat.lt_of_lt_of_le X6.lt h)) (bC kz5 b25)) (cA 10 S fun w26 pp4_1 h X5 b26 => ?s5_10 w26 pp4_1 pp4_2 X5 (X6.later b26) (Nat.le_trans kz5.size h) jX6 (Nat.ne_of_gt (Nat.lt_of_lt_of_le X6.lt h)) (bC kz5 b26))
  intro w27 kz5
  have S := Off.ofB kz5
  refine vY4 (cC 8 S (h6.out _ (ft.later (bC (bC (bC (bC (bC (bA (bA (bA (bA (Below.refl _ _) _) _) _) _) b1) b2) b3) b4) kz5))) fun w28 b28 => ?_) (cA 9 S fun w29 pp4_0 h X4 b29 => ?_) (cA 10 S fun w30 pp4_1 h X5 b30 => ?_) (cA 11 S fun w31 pp4_2 h X6 b31 => ?_)
  replace kz5 := bC kz5 b28
  clear S b28 w27
  revert kz5; revert w28
  refine ?s5_11; rotate_left
  have jX4 := (Nat.le_trans kz5.size h); replace kz5 := bC kz5 b29
  clear S b29 h w27
  revert kz5; revert jX4; revert X4; revert pp4_0; revert w29
  refine ?s5_12; rotate_left
  have jX5 := (Nat.le_trans kz5.size h); replace kz5 := bC kz5 b30
  clear S b30 h w27
  revert kz5; revert jX5; revert X5; revert pp4_1; revert w30
  refine ?s5_13; rotate_left
  have jX6 := (Nat.le_trans kz5.size h); replace kz5 := bC kz5 b31
  clear S b31 h w27
  revert kz5; revert jX6; revert X6; revert pp4_2; revert w31
  refine ?s5_14; rotate_left
  intro w32 pp4_0 X4 jX4 kz5
  have S := Off.ofB kz5
  refine vY3 (cC 5 S (h5.out _ (ft.later (bC (bC (bC (bC (bC (bA (bA (bA (bA (Below.refl _ _) _) _) _) _) b1) b2) b3) b4) kz5))) fun w33 b33 => ?s5_12 w33 pp4_0 (X4.later b33) jX4 (bC kz5 b33)) (cA 10 S fun w34 pp4_1 h X5 b34 => ?_) (cA 11 S fun w35 pp4_2 h X6 b35 => ?_)
  have ndX4_X5 : ¬ (pp4_0 = pp4_1) := (Nat.ne_of_lt (Nat.lt_of_lt_of_le X4.lt h)); have jX5 := (Nat.le_trans kz5.size h); replace X4 := (X4.later b34); replace kz5 := bC kz5 b34
  clear S b34 h w32
  revert kz5; revert ndX4_X5; revert jX5; revert jX4; revert X5; revert X4; revert pp4_1; revert pp4_0; revert w34
  refine ?s5_15; rotate_left
  have ndX4_X6 : ¬ (pp4_0 = pp4_2) := (Nat.ne_of_lt (Nat.lt_of_lt_of_le X4.lt h)); have jX6 := (Nat.le_trans kz5.size h); replace X4 := (X4.later b35); replace kz5 := bC kz5 b35
  clear S b35 h w32
  revert kz5; revert ndX4_X6; revert jX6; revert jX4; revert X6; revert X4; revert pp4_2; revert pp4_0; revert w35
  refine ?s5_16; rotate_left
  intro w36 pp4_1 X5 jX5 kz5
  have S := Off.ofB kz5
  refine vY3 (cC 5 S (h5.out _ (ft.later (bC (bC (bC (bC (bC (bA (bA (bA (bA (Below.refl _ _) _) _) _) _) b1) b2) b3) b4) kz5))) fun w37 b37 => ?s5_13 w37 pp4_1 (X5.later b37) jX5 (bC kz5 b37)) (cA 9 S fun w38 pp4_0 h X4 b38 => ?s5_15 w38 pp4_0 pp4_1 X4 (X5.later b38) (Nat.le_trans kz5.size h) jX5 (Nat.ne_of_gt (Nat.lt_of_lt_of_le X5.lt h)) (bC kz5 b38)) (cA 11 S fun w39 pp4_2 h X6 b39 => ?_)
  have ndX5_X6 : ¬ (pp4_1 = pp4_2) := (Nat.ne_of_lt (Nat.lt_of_lt_of_le X5.lt h)); have jX6 := (Nat.le_trans kz5.size h); replace X5 := (X5.later b39); replace kz5 := bC kz5 b39
  clear S b39 h w36
  revert kz5; revert ndX5_X6; revert jX6; revert jX5; revert X6; revert X5; revert pp4_2; revert pp4_1; revert w39
  refine ?s5_17; rotate_left
  intro w40 pp4_2 X6 jX6 kz5
  have S := Off.ofB kz5
  refine vY3 (cC 5 S (h5.out _ (ft.later (bC (bC (bC (bC (bC (bA (bA (bA (bA (Below.refl _ _) _) _) _) _) b1) b2) b3) b4) kz5))) fun w41 b41 => ?s5_14 w41 pp4_2 (X6.later b41) jX6 (bC kz5 b41)) (cA 9 S fun w42 pp4_0 h X4 b42 => ?s5_16 w42 pp4_0 pp4_2 X4 (X6.later b42) (Nat.le_trans kz5.size h) jX6 (Nat.ne_of_gt (Nat.lt_of_lt_of_le X6.lt h)) (bC kz5 b42)) (cA 10 S fun w43 pp4_1 h X5 b43 => ?s5_17 w43 pp4_1 pp4_2 X5 (X6.later b43) (Nat.le_trans kz5.size h) jX6 (Nat.ne_of_gt (Nat.lt_of_lt_of_le X6.lt h)) (bC kz5 b43))
  intro w44 pp4_0 pp4_1 X4 X5 jX4 jX5 ndX4_X5 kz5
  have S := Off.ofB kz5
  refine vY2 (cC 2 S (h4.out _ (ft.later (bC (bC (bC (bC (bC (bA (bA (bA (bA (Below.refl _ _) _) _) _) _) b1) b2) b3) b4) kz5))) fun w45 b45 => ?s5_15 w45 pp4_0 pp4_1 (X4.later b45) (X5.later b45) jX4 jX5 ndX4_X5 (bC kz5 b45)) (cA 11 S fun w46 pp4_2 h X6 b46 => ?_)
  have ndX4_X6 : ¬ (pp4_0 = pp4_2) := (Nat.ne_of_lt (Nat.lt_of_lt_of_le X4.lt h)); have ndX5_X6 : ¬ (pp4_1 = pp4_2) := (Nat.ne_of_lt (Nat.lt_of_lt_of_le X5.lt h)); have jX6 := (Nat.le_trans kz5.size h); replace X4 := (X4.later b46); replace X5 := (X5.later b46); replace kz5 := bC kz5 b46
  clear S b46 h w44
  revert kz5; revert ndX5_X6; revert ndX4_X6; revert ndX4_X5; revert jX6; revert jX5; revert jX4; revert X6; revert X5; revert X4; revert pp4_2; revert pp4_1; revert pp4_0; revert w46
  refine ?s5_18; rotate_left
  intro w47 pp4_0 pp4_2 X4 X6 jX4 jX6 ndX4_X6 kz5
  have S := Off.ofB kz5
  refine vY2 (cC 2 S (h4.out _ (ft.later (bC (bC (bC (bC (bC (bA (bA (bA (bA (Below.refl _ _) _) _) _) _) b1) b2) b3) b4) kz5))) fun w48 b48 => ?s5_16 w48 pp4_0 pp4_2 (X4.later b48) (X6.later b48) jX4 jX6 ndX4_X6 (bC kz5 b48)) (cA 10 S fun w49 pp4_1 h X5 b49 => ?s5_18 w49 pp4_0 pp4_1 pp4_2 (X4.later b49) X5 (X6.later b49) jX4 (Nat.le_trans kz5.size h) jX6 (Nat.ne_of_lt (Nat.lt_of_lt_of_le X4.lt h)) ndX4_X6 (Nat.ne_of_gt (Nat.lt_of_lt_of_le X6.lt h)) (bC kz5 b49))
  intro w50 pp4_1 pp4_2 X5 X6 jX5 jX6 ndX5_X6 kz5
  have S := Off.ofB kz5
  refine vY2 (cC 2 S (h4.out _ (ft.later (bC (bC (bC (bC (bC (bA (bA (bA (bA (Below.refl _ _) _) _) _) _) b1) b2) b3) b4) kz5))) fun w51 b51 => ?s5_17 w51 pp4_1 pp4_2 (X5.later b51) (X6.later b51) jX5 jX6 ndX5_X6 (bC kz5 b51)) (cA 9 S fun w52 pp4_0 h X4 b52 => ?s5_18 w52 pp4_0 pp4_1 pp4_2 X4 (X5.later b52) (X6.later b52) (Nat.le_trans kz5.size h) jX5 jX6 (Nat.ne_of_gt (Nat.lt_of_lt_of_le X5.lt h)) (Nat.ne_of_gt (Nat.lt_of_lt_of_le X6.lt h)) ndX5_X6 (bC kz5 b52))
  intro w53 kz5
  have S := Off.ofB kz5
  refine vY3 (cA 9 S fun w54 pp4_0 h X4 b54 => ?_) (cA 10 S fun w55 pp4_1 h X5 b55 => ?_) (cA 11 S fun w56 pp4_2 h X6 b56 => ?_)
  have jX4 := (Nat.le_trans kz5.size h); replace kz5 := bC kz5 b54
  clear S b54 h w53
  revert kz5; revert jX4; revert X4; revert pp4_0; revert w54
  refine ?s5_19; rotate_left
  have jX5 := (Nat.le_trans kz5.size h); replace kz5 := bC kz5 b55
  clear S b55 h w53
  revert kz5; revert jX5; revert X5; revert pp4_1; revert w55
  refine ?s5_20; rotate_left
  have jX6 := (Nat.le_trans kz5.size h); replace kz5 := bC kz5 b56
  clear S b56 h w53
  revert kz5; revert jX6; revert X6; revert pp4_2; revert w56
  refine ?s5_21; rotate_left
  intro w57 pp4_0 X4 jX4 kz5
  have S := Off.ofB kz5
  refine vY3 (cC 8 S (h6.out _ (ft.later (bC (bC (bC (bC (bC (bA (bA (bA (bA (Below.refl _ _) _) _) _) _) b1) b2) b3) b4) kz5))) fun w58 b58 => ?s5_19 w58 pp4_0 (X4.later b58) jX4 (bC kz5 b58)) (cA 10 S fun w59 pp4_1 h X5 b59 => ?_) (cA 11 S fun w60 pp4_2 h X6 b60 => ?_)
  have ndX4_X5 : ¬ (pp4_0 = pp4_1) := (Nat.ne_of_lt (Nat.lt_of_lt_of_le X4.lt h)); have jX5 := (Nat.le_trans kz5.size h); replace X4 := (X4.later b59); replace kz5 := bC kz5 b59
  clear S b59 h w57
  revert kz5; revert ndX4_X5; revert jX5; revert jX4; revert X5; revert X4; revert pp4_1; revert pp4_0; revert w59
  refine ?s5_22; rotate_left
  have ndX4_X6 : ¬ (pp4_0 = pp4_2) := (Nat.ne_of_lt (Nat.lt_of_lt_of_le X4.lt h)); have jX6 := (Nat.le_trans kz5.size h); replace X4 := (X4.later b60); replace kz5 := bC kz5 b60
  clear S b60 h w57
  revert kz5; revert ndX4_X6; revert jX6; revert jX4; revert X6; revert X4; revert pp4_2; revert pp4_0; revert w60
  refine ?s5_23; rotate_left
  intro w61 pp4_1 X5 jX5 kz5
  have S := Off.ofB kz5
  refine vY3 (cC 8 S (h6.out _ (ft.later (bC (bC (bC (bC (bC (bA (bA (bA (bA (Below.refl _ _) _) _) _) _) b1) b2) b3) b4) kz5))) fun w62 b62 => ?s5_20 w62 pp4_1 (X5.later b62) jX5 (bC kz5 b62)) (cA 9 S fun w63 pp4_0 h X4 b63 => ?s5_22 w63 pp4_0 pp4_1 X4 (X5.later b63) (Nat.le_trans kz5.size h) jX5 (Nat.ne_of_gt (Nat.lt_of_lt_of_le X5.lt h)) (bC kz5 b63)) (cA 11 S fun w64 pp4_2 h X6 b64 => ?_)
  have ndX5_X6 : ¬ (pp4_1 = pp4_2) := (Nat.ne_of_lt (Nat.lt_of_lt_of_le X5.lt h)); have jX6 := (Nat.le_trans kz5.size h); replace X5 := (X5.later b64); replace kz5 := bC kz5 b64
  clear S b64 h w61
  revert kz5; revert ndX5_X6; revert jX6; revert jX5; revert X6; revert X5; revert pp4_2; revert pp4_1; revert w64
  refine ?s5_24; rotate_left
  intro w65 pp4_2 X6 jX6 kz5
  have S := Off.ofB kz5
  refine vY3 (cC 8 S (h6.out _ (ft.later (bC (bC (bC (bC (bC (bA (bA (bA (bA (Below.refl _ _) _) _) _) _) b1) b2) b3) b4) kz5))) fun w66 b66 => ?s5_21 w66 pp4_2 (X6.later b66) jX6 (bC kz5 b66)) (cA 9 S fun w67 pp4_0 h X4 b67 => ?s5_23 w67 pp4_0 pp4_2 X4 (X6.later b67) (Nat.le_trans kz5.size h) jX6 (Nat.ne_of_gt (Nat.lt_of_lt_of_le X6.lt h)) (bC kz5 b67)) (cA 10 S fun w68 pp4_1 h X5 b68 => ?s5_24 w68 pp4_1 pp4_2 X5 (X6.later b68) (Nat.le_trans kz5.size h) jX6 (Nat.ne_of_gt (Nat.lt_of_lt_of_le X6.lt h)) (bC kz5 b68))
  intro w69 pp4_0 pp4_1 X4 X5 jX4 jX5 ndX4_X5 kz5
  have S := Off.ofB kz5
  refine vY2 (cC 5 S (h5.out _ (ft.later (bC (bC (bC (bC (bC (bA (bA (bA (bA (Below.refl _ _) _) _) _) _) b1) b2) b3) b4) kz5))) fun w70 b70 => ?s5_22 w70 pp4_0 pp4_1 (X4.later b70) (X5.later b70) jX4 jX5 ndX4_X5 (bC kz5 b70)) (cA 11 S fun w71 pp4_2 h X6 b71 => ?_)
  have ndX4_X6 : ¬ (pp4_0 = pp4_2) := (Nat.ne_of_lt (Nat.lt_of_lt_of_le X4.lt h)); have ndX5_X6 : ¬ (pp4_1 = pp4_2) := (Nat.ne_of_lt (Nat.lt_of_lt_of_le X5.lt h)); have jX6 := (Nat.le_trans kz5.size h); replace X4 := (X4.later b71); replace X5 := (X5.later b71); replace kz5 := bC kz5 b71
  clear S b71 h w69
  revert kz5; revert ndX5_X6; revert ndX4_X6; revert ndX4_X5; revert jX6; revert jX5; revert jX4; revert X6; revert X5; revert X4; revert pp4_2; revert pp4_1; revert pp4_0; revert w71
  refine ?s5_25; rotate_left
  intro w72 pp4_0 pp4_2 X4 X6 jX4 jX6 ndX4_X6 kz5
  have S := Off.ofB kz5
  refine vY2 (cC 5 S (h5.out _ (ft.later (bC (bC (bC (bC (bC (bA (bA (bA (bA (Below.refl _ _) _) _) _) _) b1) b2) b3) b4) kz5))) fun w73 b73 => ?s5_23 w73 pp4_0 pp4_2 (X4.later b73) (X6.later b73) jX4 jX6 ndX4_X6 (bC kz5 b73)) (cA 10 S fun w74 pp4_1 h X5 b74 => ?s5_25 w74 pp4_0 pp4_1 pp4_2 (X4.later b74) X5 (X6.later b74) jX4 (Nat.le_trans kz5.size h) jX6 (Nat.ne_of_lt (Nat.lt_of_lt_of_le X4.lt h)) ndX4_X6 (Nat.ne_of_gt (Nat.lt_of_lt_of_le X6.lt h)) (bC kz5 b74))
  intro w75 pp4_1 pp4_2 X5 X6 jX5 jX6 ndX5_X6 kz5
  have S := Off.ofB kz5
  refine vY2 (cC 5 S (h5.out _ (ft.later (bC (bC (bC (bC (bC (bA (bA (bA (bA (Below.refl _ _) _) _) _) _) b1) b2) b3) b4) kz5))) fun w76 b76 => ?s5_24 w76 pp4_1 pp4_2 (X5.later b76) (X6.later b76) jX5 jX6 ndX5_X6 (bC kz5 b76)) (cA 9 S fun w77 pp4_0 h X4 b77 => ?s5_25 w77 pp4_0 pp4_1 pp4_2 X4 (X5.later b77) (X6.later b77) (Nat.le_trans kz5.size h) jX5 jX6 (Nat.ne_of_gt (Nat.lt_of_lt_of_le X5.lt h)) (Nat.ne_of_gt (Nat.lt_of_lt_of_le X6.lt h)) ndX5_X6 (bC kz5 b77))
  intro w78 pp4_0 pp4_1 pp4_2 X4 X5 X6 jX4 jX5 jX6 ndX4_X5 ndX4_X6 ndX5_X6 kz5
  have S := Off.ofB kz5
  refine vY1 (cC 2 S (h4.out _ (ft.later (bC (bC (bC (bC (bC (bA (bA (bA (bA (Below.refl _ _) _) _) _) _) b1) b2) b3) b4) kz5))) fun w79 b79 => ?s5_25 w79 pp4_0 pp4_1 pp4_2 (X4.later b79) (X5.later b79) (X6.later b79) jX4 jX5 jX6 ndX4_X5 ndX4_X6 ndX5_X6 (bC kz5 b79))
  intro w80 pp4_0 X4 jX4 kz5
  have S := Off.ofB kz5
  refine vY2 (cA 10 S fun w81 pp4_1 h X5 b81 => ?_) (cA 11 S fun w82 pp4_2 h X6 b82 => ?_)
  have ndX4_X5 : ¬ (pp4_0 = pp4_1) := (Nat.ne_of_lt (Nat.lt_of_lt_of_le X4.lt h)); have jX5 := (Nat.le_trans kz5.size h); replace X4 := (X4.later b81); replace kz5 := bC kz5 b81
  clear S b81 h w80
  revert kz5; revert ndX4_X5; revert jX5; revert jX4; revert X5; revert X4; revert pp4_1; revert pp4_0; revert w81
  refine ?s5_26; rotate_left
  have ndX4_X6 : ¬ (pp4_0 = pp4_2) := (Nat.ne_of_lt (Nat.lt_of_lt_of_le X4.lt h)); have jX6 := (Nat.le_trans kz5.size h); replace X4 := (X4.later b82); replace kz5 := bC kz5 b82
  clear S b82 h w80
  revert kz5; revert ndX4_X6; revert jX6; revert jX4; revert X6; revert X4; revert pp4_2; revert pp4_0; revert w82
  refine ?s5_27; rotate_left
  intro w83 pp4_1 X5 jX5 kz5
  have S := Off.ofB kz5
  refine vY2 (cA 9 S fun w84 pp4_0 h X4 b84 => ?s5_26 w84 pp4_0 pp4_1 X4 (X5.later b84) (Nat.le_trans kz5.size h) jX5 (Nat.ne_of_gt (Nat.lt_of_lt_of_le X5.lt h)) (bC kz5 b84)) (cA 11 S fun w85 pp4_2 h X6 b85 => ?_)
  have ndX5_X6 : ¬ (pp4_1 = pp4_2) := (Nat.ne_of_lt (Nat.lt_of_lt_of_le X5.lt h)); have jX6 := (Nat.le_trans kz5.size h); replace X5 := (X5.later b85); replace kz5 := bC kz5 b85
  clear S b85 h w83
  revert kz5; revert ndX5_X6; revert jX6; revert jX5; revert X6; revert X5; revert pp4_2; revert pp4_1; revert w85
  refine ?s5_28; rotate_left
  intro w86 pp4_2 X6 jX6 kz5
  have S := Off.ofB kz5
  refine vY2 (cA 9 S fun w87 pp4_0 h X4 b87 => ?s5_27 w87 pp4_0 pp4_2 X4 (X6.later b87) (Nat.le_trans kz5.size h) jX6 (Nat.ne_of_gt (Nat.lt_of_lt_of_le X6.lt h)) (bC kz5 b87)) (cA 10 S fun w88 pp4_1 h X5 b88 => ?s5_28 w88 pp4_1 pp4_2 X5 (X6.later b88) (Nat.le_trans kz5.size h) jX6 (Nat.ne_of_gt (Nat.lt_of_lt_of_le X6.lt h)) (bC kz5 b88))
  intro w89 pp4_0 pp4_1 X4 X5 jX4 jX5 ndX4_X5 kz5
  have S := Off.ofB kz5
  refine vY2 (cC 8 S (h6.out _ (ft.later (bC (bC (bC (bC (bC (bA (bA (bA (bA (Below.refl _ _) _) _) _) _) b1) b2) b3) b4) kz5))) fun w90 b90 => ?s5_26 w90 pp4_0 pp4_1 (X4.later b90) (X5.later b90) jX4 jX5 ndX4_X5 (bC kz5 b90)) (cA 11 S fun w91 pp4_2 h X6 b91 => ?_)
  have ndX4_X6 : ¬ (pp4_0 = pp4_2) := (Nat.ne_of_lt (Nat.lt_of_lt_of_le X4.lt h)); have ndX5_X6 : ¬ (pp4_1 = pp4_2) := (Nat.ne_of_lt (Nat.lt_of_lt_of_le X5.lt h)); have jX6 := (Nat.le_trans kz5.size h); replace X4 := (X4.later b91); replace X5 := (X5.later b91); replace kz5 := bC kz5 b91
  clear S b91 h w89
  revert kz5; revert ndX5_X6; revert ndX4_X6; revert ndX4_X5; revert jX6; revert jX5; revert jX4; revert X6; revert X5; revert X4; revert pp4_2; revert pp4_1; revert pp4_0; revert w91
  refine ?s5_29; rotate_left
  intro w92 pp4_0 pp4_2 X4 X6 jX4 jX6 ndX4_X6 kz5
  have S := Off.ofB kz5
  refine vY2 (cC 8 S (h6.out _ (ft.later (bC (bC (bC (bC (bC (bA (bA (bA (bA (Below.refl _ _) _) _) _) _) b1) b2) b3) b4) kz5))) fun w93 b93 => ?s5_27 w93 pp4_0 pp4_2 (X4.later b93) (X6.later b93) jX4 jX6 ndX4_X6 (bC kz5 b93)) (cA 10 S fun w94 pp4_1 h X5 b94 => ?s5_29 w94 pp4_0 pp4_1 pp4_2 (X4.later b94) X5 (X6.later b94) jX4 (Nat.le_trans kz5.size h) jX6 (Nat.ne_of_lt (Nat.lt_of_lt_of_le X4.lt h)) ndX4_X6 (Nat.ne_of_gt (Nat.lt_of_lt_of_le X6.lt h)) (bC kz5 b94))
  intro w95 pp4_1 pp4_2 X5 X6 jX5 jX6 ndX5_X6 kz5
  have S := Off.ofB kz5
  refine vY2 (cC 8 S (h6.out _ (ft.later (bC (bC (bC (bC (bC (bA (bA (bA (bA (Below.refl _ _) _) _) _) _) b1) b2) b3) b4) kz5))) fun w96 b96 => ?s5_28 w96 pp4_1 pp4_2 (X5.later b96) (X6.later b96) jX5 jX6 ndX5_X6 (bC kz5 b96)) (cA 9 S fun w97 pp4_0 h X4 b97 => ?s5_29 w97 pp4_0 pp4_1 pp4_2 X4 (X5.later b97) (X6.later b97) (Nat.le_trans kz5.size h) jX5 jX6 (Nat.ne_of_gt (Nat.lt_of_lt_of_le X5.lt h)) (Nat.ne_of_gt (Nat.lt_of_lt_of_le X6.lt h)) ndX5_X6 (bC kz5 b97))
  intro w98 pp4_0 pp4_1 pp4_2 X4 X5 X6 jX4 jX5 jX6 ndX4_X5 ndX4_X6 ndX5_X6 kz5
  have S := Off.ofB kz5
  refine vY1 (cC 5 S (h5.out _ (ft.later (bC (bC (bC (bC (bC (bA (bA (bA (bA (Below.refl _ _) _) _) _) _) b1) b2) b3) b4) kz5))) fun w99 b99 => ?s5_29 w99 pp4_0 pp4_1 pp4_2 (X4.later b99) (X5.later b99) (X6.later b99) jX4 jX5 jX6 ndX4_X5 ndX4_X6 ndX5_X6 (bC kz5 b99))
  intro w100 pp4_0 pp4_1 X4 X5 jX4 jX5 ndX4_X5 kz5
  have S := Off.ofB kz5
  refine vY1 (cA 11 S fun w101 pp4_2 h X6 b101 => ?_)
  have ndX4_X6 : ¬ (pp4_0 = pp4_2) := (Nat.ne_of_lt (Nat.lt_of_lt_of_le X4.lt h)); have ndX5_X6 : ¬ (pp4_1 = pp4_2) := (Nat.ne_of_lt (Nat.lt_of_lt_of_le X5.lt h)); have jX6 := (Nat.le_trans kz5.size h); replace X4 := (X4.later b101); replace X5 := (X5.later b101); replace kz5 := bC kz5 b101
  clear S b101 h w100
  revert kz5; revert ndX5_X6; revert ndX4_X6; revert ndX4_X5; revert jX6; revert jX5; revert jX4; revert X6; revert X5; revert X4; revert pp4_2; revert pp4_1; revert pp4_0; revert w101
  refine ?s5_30; rotate_left
  intro w102 pp4_0 pp4_2 X4 X6 jX4 jX6 ndX4_X6 kz5
  have S := Off.ofB kz5
  refine vY1 (cA 10 S fun w103 pp4_1 h X5 b103 => ?s5_30 w103 pp4_0 pp4_1 pp4_2 (X4.later b103) X5 (X6.later b103) jX4 (Nat.le_trans kz5.size h) jX6 (Nat.ne_of_lt (Nat.lt_of_lt_of_le X4.lt h)) ndX4_X6 (Nat.ne_of_gt (Nat.lt_of_lt_of_le X6.lt h)) (bC kz5 b103))
  intro w104 pp4_1 pp4_2 X5 X6 jX5 jX6 ndX5_X6 kz5
  have S := Off.ofB kz5
  refine vY1 (cA 9 S fun w105 pp4_0 h X4 b105 => ?s5_30 w105 pp4_0 pp4_1 pp4_2 X4 (X5.later b105) (X6.later b105) (Nat.le_trans kz5.size h) jX5 jX6 (Nat.ne_of_gt (Nat.lt_of_lt_of_le X5.lt h)) (Nat.ne_of_gt (Nat.lt_of_lt_of_le X6.lt h)) ndX5_X6 (bC kz5 b105))
  intro w106 pp4_0 pp4_1 pp4_2 X4 X5 X6 jX4 jX5 jX6 ndX4_X5 ndX4_X6 ndX5_X6 kz5
  have S := Off.ofB kz5
  refine vY1 (cC 8 S (h6.out _ (ft.later (bC (bC (bC (bC (bC (bA (bA (bA (bA (Below.refl _ _) _) _) _) _) b1) b2) b3) b4) kz5))) fun w107 b107 => ?s5_30 w107 pp4_0 pp4_1 pp4_2 (X4.later b107) (X5.later b107) (X6.later b107) jX4 jX5 jX6 ndX4_X5 ndX4_X6 ndX5_X6 (bC kz5 b107))
  intro w108 pp4_0 pp4_1 pp4_2 X4 X5 X6 jX4 jX5 jX6 ndX4_X5 ndX4_X6 ndX5_X6 kz5
  have S := Off.ofB kz5
  refine vY1 (vO 12 fun K hK => ?_)
  have q := X4.o; have mX5 : ¬ (pp4_1 = pp4_0) := (by omega); have mX6 : ¬ (pp4_2 = pp4_0) := (by omega)
  go_simp
  refine vW (fun W => HB W pp4_0 28 #[.int .u64 xh, .int .u64 xl] ∧ HB W pp4_1 28 #[.int .u64 0, .int .u64 0] ∧ HB W pp4_2 28 #[.int .u64 0, .int .u64 0] ∧ Below w4.heap.size w4 W) ⟨((X4.set 0 _).set 1 _), ((X5.other mX5 0 _).other mX5 1 _), ((X6.other mX6 0 _).other mX6 1 _), ((kz5.setCell (p := ⟨pp4_0, 0, none⟩) jX4 _).setCell (p := ⟨pp4_0, 1, none⟩) jX4 _)⟩ fun w110 hz => ?_
  clear q mX5 mX6 X4 X5 X6 S kz5 w108; obtain ⟨X4, X5, X6, kz5⟩ := hz
  refine hK.out _ _ (Off.ofB kz5) fun S => ?_; clear hK K S; refine vP ?_
  revert kz5; revert ndX5_X6; revert ndX4_X6; revert ndX4_X5; revert jX6; revert jX5; revert jX4; revert X6; revert X5; revert X4; revert pp4_2; revert pp4_1; revert pp4_0; revert w110
  refine ?s5_31; rotate_left
  intro w111 pp4_0 pp4_1 pp4_2 X4 X5 X6 jX4 jX5 jX6 ndX4_X5 ndX4_X6 ndX5_X6 kz5
  have S := Off.ofB kz5
  refine vY1 (vO 13 fun K hK => ?_)
  have q := X5.o; have mX4 : ¬ (pp4_0 = pp4_1) := (by omega); have mX6 : ¬ (pp4_2 = pp4_1) := (by omega)
  go_simp
  refine vW (fun W => HB W pp4_0 28 #[.int .u64 xh, .int .u64 xl] ∧ HB W pp4_1 28 #[.int .u64 yh, .int .u64 yl] ∧ HB W pp4_2 28 #[.int .u64 0, .int .u64 0] ∧ Below w4.heap.size w4 W) ⟨((X4.other mX4 0 _).other mX4 1 _), ((X5.set 0 _).set 1 _), ((X6.other mX6 0 _).other mX6 1 _), ((kz5.setCell (p := ⟨pp4_1, 0, none⟩) jX5 _).setCell (p := ⟨pp4_1, 1, none⟩) jX5 _)⟩ fun w113 hz => ?_
  clear q mX4 mX6 X4 X5 X6 S kz5 w111; obtain ⟨X4, X5, X6, kz5⟩ := hz
  refine hK.out _ _ (Off.ofB kz5) fun S => ?_; clear hK K S; refine vP ?_
  revert kz5; revert ndX5_X6; revert ndX4_X6; revert ndX4_X5; revert jX6; revert jX5; revert jX4; revert X6; revert X5; revert X4; revert pp4_2; revert pp4_1; revert pp4_0; revert w113
  refine ?s5_32; rotate_left
  intro w114 pp4_0 pp4_1 pp4_2 X4 X5 X6 jX4 jX5 jX6 ndX4_X5 ndX4_X6 ndX5_X6 kz5
  have S := Off.ofB kz5
  refine vY1 (vO 14 fun K hK => ?_)
  have q := X6.o; have mX4 : ¬ (pp4_0 = pp4_2) := (by omega); have mX5 : ¬ (pp4_1 = pp4_2) := (by omega)
  go_simp
  refine vW (fun W => HB W pp4_0 28 #[.int .u64 xh, .int .u64 xl] ∧ HB W pp4_1 28 #[.int .u64 yh, .int .u64 yl] ∧ HB W pp4_2 28 #[.int .u64 zh, .int .u64 zl] ∧ Below w4.heap.size w4 W) ⟨((X4.other mX4 0 _).other mX4 1 _), ((X5.other mX5 0 _).other mX5 1 _), ((X6.set 0 _).set 1 _), ((kz5.setCell (p := ⟨pp4_2, 0, none⟩) jX6 _).setCell (p := ⟨pp4_2, 1, none⟩) jX6 _)⟩ fun w116 hz => ?_
  clear q mX4 mX5 X4 X5 X6 S kz5 w114; obtain ⟨X4, X5, X6, kz5⟩ := hz
  refine hK.out _ _ (Off.ofB kz5) fun S => ?_; clear hK K S; refine vP ?_
  revert kz5; revert ndX5_X6; revert ndX4_X6; revert ndX4_X5; revert jX6; revert jX5; revert jX4; revert X6; revert X5; revert X4; revert pp4_2; revert pp4_1; revert pp4_0; revert w116
  refine ?s5_33; rotate_left
  intro w117 pp4_0 pp4_1 pp4_2 X4 X5 X6 jX4 jX5 jX6 ndX4_X5 ndX4_X6 ndX5_X6 kz5
  refine vD ?_
  replace X0 := X0.later (bC (bC b2 b3) b4)
  have nX0_X4 : w.heap.size < pp4_0 := by have := X0.lt; omega
  have nX0_X5 : w.heap.size < pp4_1 := by have := X0.lt; omega
  have nX0_X6 : w.heap.size < pp4_2 := by have := X0.lt; omega
  have gX4 : w.heap.size ≤ pp4_0 := by have := (bC (bC (bC (bC (bA (bA (bA (bA (Below.refl _ _) _) _) _) _) b1) b2) b3) b4).size; omega
  have gX5 : w.heap.size ≤ pp4_1 := by have := (bC (bC (bC (bC (bA (bA (bA (bA (Below.refl _ _) _) _) _) _) b1) b2) b3) b4).size; omega
  have gX6 : w.heap.size ≤ pp4_2 := by have := (bC (bC (bC (bC (bA (bA (bA (bA (Below.refl _ _) _) _) _) _) b1) b2) b3) b4).size; omega
  have oX4 := X4.o
  have oX5 := X5.o
  go_wp2_with fail
  refine vM (h7.out _) fun w118 b118 => ?_
  rcases HH with ⟨gr, h8, h9, h10, h11⟩ | ⟨gr, h8, h9, h10, h11⟩
  · clear oX4 oX5
    replace X5 := X5.later b118
    have oX5 := X5.o
    replace X4 := X4.later b118
    have oX4 := X4.o
    have mX5_X4 : ¬ (pp4_1 = pp4_0) := by omega
    have mX4_X5 : ¬ (pp4_0 = pp4_1) := by omega
    go_wp2_with fail
    replace X0 := X0.later (bC kz5 b118)
    replace X6 := X6.later b118
    refine wp_forget (fun W => HB W w.heap.size 25 #[.int .u8 mm, .bool t] ∧ HB W pp4_0 28 #[.int .u64 yh, .int .u64 yl] ∧ HB W pp4_1 28 #[.int .u64 xh, .int .u64 xl] ∧ HB W pp4_2 28 #[.int .u64 zh, .int .u64 zl] ∧ Below w.heap.size w W) ⟨((((X0.other (by omega) 0 _).other (by omega) 1 _).other (by omega) 0 _).other (by omega) 1 _), ((((X4.set 0 _).set 1 _).other (by omega) 0 _).other (by omega) 1 _), ((((X5.other (by omega) 0 _).other (by omega) 1 _).set 0 _).set 1 _), ((((X6.other (by omega) 0 _).other (by omega) 1 _).other (by omega) 0 _).other (by omega) 1 _), (((((bC (bC (bC (bC (bC (bC (bA (bA (bA (bA (Below.refl _ _) _) _) _) _) b1) b2) b3) b4) kz5) b118).setCell (p := ⟨pp4_0, 0, none⟩) gX4 _).setCell (p := ⟨pp4_0, 1, none⟩) gX4 _).setCell (p := ⟨pp4_1, 0, none⟩) gX5 _).setCell (p := ⟨pp4_1, 1, none⟩) gX5 _)⟩ (fun w119 hst => ?_)
    obtain ⟨X0, X4, X5, X6, kk⟩ := hst
    clear oX5 oX4 mX5_X4 mX4_X5
    have hfd1 : ∀ w : World, (Instr.field 31 (.agg #[.int .u64 ph, .int .u64 pl, .int .u8 pf]) 0).run Tryz.prog w = .ok (.agg #[.int .u64 ph, .int .u64 pl]) w := fun _ => by kernel_rfl
    have hfd2 : ∀ w : World, (Instr.field 31 (.agg #[.int .u64 qh, .int .u64 ql, .int .u8 qf]) 0).run Tryz.prog w = .ok (.agg #[.int .u64 qh, .int .u64 ql]) w := fun _ => by kernel_rfl
    refine vR [] fun w120 b120 S120 => ?_
    refine vT 0 S120 ?_
    refine vT 1 S120 ?_ (hy := by intro wq hb; have q := (hb.hb X0 (by simp)).o; go_simp; try (with_reducible rfl))
    refine vT 2 S120 ?_ (hy := by intro wq hb; have q := (hb.hb X4 (by simp)).o; go_simp; try (with_reducible rfl))
    refine vT 3 S120 ?_ (hy := by intro wq hb; have q := (hb.hb X6 (by simp)).o; go_simp; try (with_reducible rfl))
    refine vT 6 S120 ?_
    refine vT 7 S120 ?_ (hy := by intro wq hb; have q := (hb.hb X0 (by simp)).o; go_simp; try (with_reducible rfl))
    refine vT 8 S120 ?_ (hy := by intro wq hb; have q := (hb.hb X5 (by simp)).o; go_simp; try (with_reducible rfl))
    refine vT 9 S120 ?_ (hy := by intro wq hb; have q := (hb.hb X6 (by simp)).o; go_simp; try (with_reducible rfl))
    refine vY1 (vC 4 S120 (h8.out _ (ft.later (bC kk b120))) (fun _ _ => Off.later) fun w121 b121 S121 => ?_)
    refine vT 5 S121 ?_
    refine vY1 (vC 10 S121 (h9.out _ (ft.later (bC kk (bC b120 b121)))) (fun _ _ => Off.later) fun w122 b122 S122 => ?_)
    refine vT 11 S122 ?_
    refine vY1 (vC 12 S122 (h10.out _) (fun _ _ => Off.later) fun w123 b123 S123 => ?_)
    refine vT 13 S123 ?_
    refine vT 14 S123 ?_
    refine vY1 (vC 15 S123 (h11.out _ (ft.later (bC kk (bC (bC (bC b120 b121) b122) b123)))) (fun _ _ => Off.later) fun w124 b124 S124 => ?_)
    refine vT 16 S124 ?_
    refine vT 17 S124 ?_
    refine vD ?_
    go_wp2_with fail
    go_ret
    exact ⟨rfl, (bC kk (bC (bC (bC (bC b120 b121) b122) b123) b124))⟩
  · clear oX4 oX5
    go_wp2_with fail
    have hfd1 : ∀ w : World, (Instr.field 31 (.agg #[.int .u64 ph, .int .u64 pl, .int .u8 pf]) 0).run Tryz.prog w = .ok (.agg #[.int .u64 ph, .int .u64 pl]) w := fun _ => by kernel_rfl
    have hfd2 : ∀ w : World, (Instr.field 31 (.agg #[.int .u64 qh, .int .u64 ql, .int .u8 qf]) 0).run Tryz.prog w = .ok (.agg #[.int .u64 qh, .int .u64 ql]) w := fun _ => by kernel_rfl
    replace X0 := X0.later (bC kz5 b118)
    replace X4 := X4.later b118
    replace X5 := X5.later b118
    replace X6 := X6.later b118
    refine vR [] fun w119 b119 S119 => ?_
    refine vT 0 S119 ?_
    refine vT 1 S119 ?_ (hy := by intro wq hb; have q := (hb.hb X0 (by simp)).o; go_simp; try (with_reducible rfl))
    refine vT 2 S119 ?_ (hy := by intro wq hb; have q := (hb.hb X4 (by simp)).o; go_simp; try (with_reducible rfl))
    refine vT 3 S119 ?_ (hy := by intro wq hb; have q := (hb.hb X6 (by simp)).o; go_simp; try (with_reducible rfl))
    refine vT 6 S119 ?_
    refine vT 7 S119 ?_ (hy := by intro wq hb; have q := (hb.hb X0 (by simp)).o; go_simp; try (with_reducible rfl))
    refine vT 8 S119 ?_ (hy := by intro wq hb; have q := (hb.hb X5 (by simp)).o; go_simp; try (with_reducible rfl))
    refine vT 9 S119 ?_ (hy := by intro wq hb; have q := (hb.hb X6 (by simp)).o; go_simp; try (with_reducible rfl))
    refine vY1 (vC 4 S119 (h8.out _ (ft.later (bC (bC (bC (bC (bC (bC (bC (bA (bA (bA (bA (Below.refl _ _) _) _) _) _) b1) b2) b3) b4) kz5) b118) b119))) (fun _ _ => Off.later) fun w120 b120 S120 => ?_)
    refine vT 5 S120 ?_
    refine vY1 (vC 10 S120 (h9.out _ (ft.later (bC (bC (bC (bC (bC (bC (bC (bC (bA (bA (bA (bA (Below.refl _ _) _) _) _) _) b1) b2) b3) b4) kz5) b118) b119) b120))) (fun _ _ => Off.later) fun w121 b121 S121 => ?_)
    refine vT 11 S121 ?_
    refine vY1 (vC 12 S121 (h10.out _) (fun _ _ => Off.later) fun w122 b122 S122 => ?_)
    refine vT 13 S122 ?_
    refine vT 14 S122 ?_
    refine vY1 (vC 15 S122 (h11.out _ (ft.later (bC (bC (bC (bC (bC (bC (bC (bC (bC (bC (bA (bA (bA (bA (Below.refl _ _) _) _) _) _) b1) b2) b3) b4) kz5) b118) b119) b120) b121) b122))) (fun _ _ => Off.later) fun w123 b123 S123 => ?_)
    refine vT 16 S123 ?_
    refine vT 17 S123 ?_
    refine vD ?_
    go_wp2_with fail
    go_ret
    exact ⟨rfl, (bC (bC (bC (bC (bC (bC (bC (bC (bC (bC (bC (bA (bA (bA (bA (Below.refl _ _) _) _) _) _) b1) b2) b3) b4) kz5) b118) b119) b120) b121) b122) b123)⟩



end Go.Proofs.YtnaamckhignjeaaGreatDoor
