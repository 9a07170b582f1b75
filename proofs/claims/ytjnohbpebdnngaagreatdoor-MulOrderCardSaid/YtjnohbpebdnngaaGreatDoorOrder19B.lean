/-
  The walk of the statement MulOrder: a factor that is normal.
-/
import Derived.Test.YtjnohbpebdnngaaGreatDoorW4
import Derived.Test.YtjnohbpebdnngaaGreatDoorOrder19
import Derived.Test.YtjnohbpebdnngaaGreatDoorW2
import Derived.Test.YtjnohbpebdnngaaGreatDoorGaB
import Derived.Test.YtjnohbpebdnngaaGreatDoorGfA
import Derived.Test.YtjnohbpebdnngaaGreatDoorGhA
import Derived.Test.YtjnohbpebdnngaaGreatDoorGaA
import Derived.Test.YtjnohbpebdnngaaGreatDoorGoes19
set_option linter.unusedVariables false
set_option linter.unusedSimpArgs false
set_option maxRecDepth 100000
namespace Go.Proofs.YtjnohbpebdnngaaGreatDoor
open Go.RowKit
attribute [local go_sem ↓] Go.wp_at_zero Go.wp_at_succ

set_option maxHeartbeats 40000000 in
theorem order19_main2 (f m ah al bh bl kh kl mm xh xl yh yl zh zl ph pl qh ql pf qf : Int) (t kn : Bool)
    (h0 : Hid (∀ w, FTab w → Ca 32 #[.int .u8 f, U2 kh kl] w (.tuple #[.int .u8 2, .bool kn])))
    (h1 : Hid (∀ w, FTab w → Ca 22 #[.int .u8 f] w (.bool true)))
    (h3 : Hid (∀ w, FTab w → Ca 33 #[.int .u8 f, U2 ah al] w (U2 xh xl)))
    (h4 : Hid (∀ w, FTab w → Ca 33 #[.int .u8 f, U2 bh bl] w (U2 yh yl)))
    (h5 : Hid (∀ w, FTab w → Ca 33 #[.int .u8 f, U2 kh kl] w (U2 zh zl))) (HL : (decide (ph < qh) = true) ∨ (decide (ph < qh) = false ∧ (ph == qh) = true ∧ decide (pl ≤ ql) = true)) (m2 : m.tmod 5 = mm) (m3 : m % 5 = mm) (AN : Hid (∀ w, FTab w → ∀ p T, HB w p T #[.int .u64 ah, .int .u64 al, .int .u64 bh, .int .u64 bl] → Ca 24 #[.int .u8 f, .func (.func 25) #[] #[], .slice (some ⟨p, 0, none⟩) 2 2] w (.bool false)))
    (HH : ((decide (yh < xh) = true) ∧ Hid (∀ w, FTab w → Ca 11 #[.int .u8 f, .agg #[.int .u8 mm, .bool t], U2 yh yl, U2 zh zl] w (.agg #[.int .u64 ph, .int .u64 pl, .int .u8 pf])) ∧ Hid (∀ w, FTab w → Ca 11 #[.int .u8 f, .agg #[.int .u8 mm, .bool t], U2 xh xl, U2 zh zl] w (.agg #[.int .u64 qh, .int .u64 ql, .int .u8 qf])) ∧ Hid (∀ w, FTab w → Ca 13 #[] w (.bool true))) ∨ ((decide (yh < xh) = false) ∧ ((xh == yh) = true) ∧ (decide (yl < xl) = true) ∧ Hid (∀ w, FTab w → Ca 11 #[.int .u8 f, .agg #[.int .u8 mm, .bool t], U2 yh yl, U2 zh zl] w (.agg #[.int .u64 ph, .int .u64 pl, .int .u8 pf])) ∧ Hid (∀ w, FTab w → Ca 11 #[.int .u8 f, .agg #[.int .u8 mm, .bool t], U2 xh xl, U2 zh zl] w (.agg #[.int .u64 qh, .int .u64 ql, .int .u8 qf])) ∧ Hid (∀ w, FTab w → Ca 13 #[] w (.bool true))) ∨ ((decide (yh < xh) = false) ∧ ((xh == yh) = false) ∧ Hid (∀ w, FTab w → Ca 11 #[.int .u8 f, .agg #[.int .u8 mm, .bool t], U2 xh xl, U2 zh zl] w (.agg #[.int .u64 ph, .int .u64 pl, .int .u8 pf])) ∧ Hid (∀ w, FTab w → Ca 11 #[.int .u8 f, .agg #[.int .u8 mm, .bool t], U2 yh yl, U2 zh zl] w (.agg #[.int .u64 qh, .int .u64 ql, .int .u8 qf])) ∧ Hid (∀ w, FTab w → Ca 13 #[] w (.bool true))) ∨ ((decide (yh < xh) = false) ∧ ((xh == yh) = true) ∧ (decide (yl < xl) = false) ∧ Hid (∀ w, FTab w → Ca 11 #[.int .u8 f, .agg #[.int .u8 mm, .bool t], U2 xh xl, U2 zh zl] w (.agg #[.int .u64 ph, .int .u64 pl, .int .u8 pf])) ∧ Hid (∀ w, FTab w → Ca 11 #[.int .u8 f, .agg #[.int .u8 mm, .bool t], U2 yh yl, U2 zh zl] w (.agg #[.int .u64 qh, .int .u64 ql, .int .u8 qf])) ∧ Hid (∀ w, FTab w → Ca 13 #[] w (.bool true)))) (w : World) (ft : FTab w) :
    Ca 8 #[.int .u8 f, .agg #[.int .u8 m, .bool t], U2 ah al, U2 bh bl, U2 kh kl] w (.bool true) := by
  simp only [Ca, U2] at *
  go_enter Tryz.func8, Tryz.ntmps8
  go_wp2_with fail
  refine vM (h0.out _ (ft.later (bA (bA (bA (bA (Below.refl _ _) _) _) _) _))) fun w1 b1 => ?_
  have X0 := ((((HB.newAt (b := w.heap.size) (by simp) _ _).alloc _).alloc _).alloc _).later b1
  have X1 := (((HB.newAt (b := w.heap.size + 1) (by simp) _ _).alloc _).alloc _).later b1
  have X2 := ((HB.newAt (b := w.heap.size + 1 + 1) (by simp) _ _).alloc _).later b1
  have X3 := (HB.newAt (b := w.heap.size + 1 + 1 + 1) (by simp) _ _).later b1
  go_wp2_with fail
  refine vM (h1.out _ (ft.later (bC (bA (bA (bA (bA (Below.refl _ _) _) _) _) _) b1))) fun w2 b2 => ?_
  replace X1 := X1.later b2
  have oX1 := X1.o
  replace X2 := X2.later b2
  have oX2 := X2.o
  go_wp2_with fail
  refine vM (AN.out _ (ft.later (bA (bC (bC (bA (bA (bA (bA (Below.refl _ _) _) _) _) _) b1) b2) _)) _ _ (HB.newAt (b := w2.heap.size) (by simp) _ _)) fun w3 b3 => ?_
  clear oX1 oX2
  go_wp2_with fail
  replace X1 := X1.later (bC (bA (Below.refl _ _) _) b3)
  replace X2 := X2.later (bC (bA (Below.refl _ _) _) b3)
  replace X3 := X3.later (bC b2 (bC (bA (Below.refl _ _) _) b3))
  refine vR [] fun w4 y1 S => ?_
  refine uT 0 S ?_
  refine uT 1 S ?_ (hy := by intro wq hb; have q := (hb.hb X1 (by simp)).o; go_simp; try (with_reducible rfl))
  refine uT 3 S ?_
  refine uT 4 S ?_ (hy := by intro wq hb; have q := (hb.hb X2 (by simp)).o; go_simp; try (with_reducible rfl))
  refine uT 6 S ?_
  refine uT 7 S ?_ (hy := by intro wq hb; have q := (hb.hb X3 (by simp)).o; go_simp; try (with_reducible rfl))
  have bP := bC (bC (bC (bA (bA (bA (bA (Below.refl _ _) _) _) _) _) b1) b2) (bC (bA (Below.refl _ _) _) b3)
  refine uY4 (cC 2 S (h3.out _ (ft.later (bC bP y1))) fun w5 b5 => ?_) (cA 9 S fun w6 u0 h X5 b6 => ?_) (cA 10 S fun w7 u1 h X6 b7 => ?_) (cA 11 S fun w8 u2 h X7 b8 => ?_)
  replace y1 := bC y1 b5
  clear S b5 w4
  revert y1; revert w5
  refine ?e0; rotate_left
  have jX5 := (Nat.le_trans y1.size h); replace y1 := bC y1 b6
  clear S b6 h w4
  revert y1; revert jX5; revert X5; revert u0; revert w6
  refine ?e1; rotate_left
  have jX6 := (Nat.le_trans y1.size h); replace y1 := bC y1 b7
  clear S b7 h w4
  revert y1; revert jX6; revert X6; revert u1; revert w7
  refine ?e2; rotate_left
  have jX7 := (Nat.le_trans y1.size h); replace y1 := bC y1 b8
  clear S b8 h w4
  revert y1; revert jX7; revert X7; revert u2; revert w8
  refine ?e3; rotate_left
  intro w9 y1
  have S := Off.ofB y1
  refine uY4 (cC 5 S (h4.out _ (ft.later (bC bP y1))) fun w10 b10 => ?_) (cA 9 S fun w11 u0 h X5 b11 => ?_) (cA 10 S fun w12 u1 h X6 b12 => ?_) (cA 11 S fun w13 u2 h X7 b13 => ?_)
  replace y1 := bC y1 b10
  clear S b10 w9
  revert y1; revert w10
  refine ?e4; rotate_left
  have jX5 := (Nat.le_trans y1.size h); replace y1 := bC y1 b11
  clear S b11 h w9
  revert y1; revert jX5; revert X5; revert u0; revert w11
  refine ?e5; rotate_left
  have jX6 := (Nat.le_trans y1.size h); replace y1 := bC y1 b12
  clear S b12 h w9
  revert y1; revert jX6; revert X6; revert u1; revert w12
  refine ?e6; rotate_left
  have jX7 := (Nat.le_trans y1.size h); replace y1 := bC y1 b13
  clear S b13 h w9
  revert y1; revert jX7; revert X7; revert u2; revert w13
  refine ?e7; rotate_left
  intro w14 u0 X5 jX5 y1
  have S := Off.ofB y1
  refine uY3 (cC 2 S (h3.out _ (ft.later (bC bP y1))) fun w15 b15 => ?e5 w15 u0 (X5.later b15) jX5 (bC y1 b15)) (cA 10 S fun w16 u1 h X6 b16 => ?_) (cA 11 S fun w17 u2 h X7 b17 => ?_)
  have ndX5_X6 : ¬ (u0 = u1) := (oL X5.lt h); have jX6 := (Nat.le_trans y1.size h); replace X5 := (X5.later b16); replace y1 := bC y1 b16
  clear S b16 h w14
  revert y1; revert ndX5_X6; revert jX6; revert jX5; revert X6; revert X5; revert u1; revert u0; revert w16
  refine ?e8; rotate_left
  have ndX5_X7 : ¬ (u0 = u2) := (oL X5.lt h); have jX7 := (Nat.le_trans y1.size h); replace X5 := (X5.later b17); replace y1 := bC y1 b17
  clear S b17 h w14
  revert y1; revert ndX5_X7; revert jX7; revert jX5; revert X7; revert X5; revert u2; revert u0; revert w17
  refine ?e9; rotate_left
  intro w18 u1 X6 jX6 y1
  have S := Off.ofB y1
  refine uY3 (cC 2 S (h3.out _ (ft.later (bC bP y1))) fun w19 b19 => ?e6 w19 u1 (X6.later b19) jX6 (bC y1 b19)) (cA 9 S fun w20 u0 h X5 b20 => ?e8 w20 u0 u1 X5 (X6.later b20) (Nat.le_trans y1.size h) jX6 (oG X6.lt h) (bC y1 b20)) (cA 11 S fun w21 u2 h X7 b21 => ?_)
  have ndX6_X7 : ¬ (u1 = u2) := (oL X6.lt h); have jX7 := (Nat.le_trans y1.size h); replace X6 := (X6.later b21); replace y1 := bC y1 b21
  clear S b21 h w18
  revert y1; revert ndX6_X7; revert jX7; revert jX6; revert X7; revert X6; revert u2; revert u1; revert w21
  refine ?e10; rotate_left
  intro w22 u2 X7 jX7 y1
  have S := Off.ofB y1
  refine uY3 (cC 2 S (h3.out _ (ft.later (bC bP y1))) fun w23 b23 => ?e7 w23 u2 (X7.later b23) jX7 (bC y1 b23)) (cA 9 S fun w24 u0 h X5 b24 => ?e9 w24 u0 u2 X5 (X7.later b24) (Nat.le_trans y1.size h) jX7 (oG X7.lt h) (bC y1 b24)) (cA 10 S fun w25 u1 h X6 b25 => ?e10 w25 u1 u2 X6 (X7.later b25) (Nat.le_trans y1.size h) jX7 (oG X7.lt h) (bC y1 b25))
  intro w26 y1
  have S := Off.ofB y1
  refine uY4 (cC 8 S (h5.out _ (ft.later (bC bP y1))) fun w27 b27 => ?_) (cA 9 S fun w28 u0 h X5 b28 => ?_) (cA 10 S fun w29 u1 h X6 b29 => ?_) (cA 11 S fun w30 u2 h X7 b30 => ?_)
  replace y1 := bC y1 b27
  clear S b27 w26
  revert y1; revert w27
  refine ?e11; rotate_left
  have jX5 := (Nat.le_trans y1.size h); replace y1 := bC y1 b28
  clear S b28 h w26
  revert y1; revert jX5; revert X5; revert u0; revert w28
  refine ?e12; rotate_left
  have jX6 := (Nat.le_trans y1.size h); replace y1 := bC y1 b29
  clear S b29 h w26
  revert y1; revert jX6; revert X6; revert u1; revert w29
  refine ?e13; rotate_left
  have jX7 := (Nat.le_trans y1.size h); replace y1 := bC y1 b30
  clear S b30 h w26
  revert y1; revert jX7; revert X7; revert u2; revert w30
  refine ?e14; rotate_left
  intro w31 u0 X5 jX5 y1
  have S := Off.ofB y1
  refine uY3 (cC 5 S (h4.out _ (ft.later (bC bP y1))) fun w32 b32 => ?e12 w32 u0 (X5.later b32) jX5 (bC y1 b32)) (cA 10 S fun w33 u1 h X6 b33 => ?_) (cA 11 S fun w34 u2 h X7 b34 => ?_)
  have ndX5_X6 : ¬ (u0 = u1) := (oL X5.lt h); have jX6 := (Nat.le_trans y1.size h); replace X5 := (X5.later b33); replace y1 := bC y1 b33
  clear S b33 h w31
  revert y1; revert ndX5_X6; revert jX6; revert jX5; revert X6; revert X5; revert u1; revert u0; revert w33
  refine ?e15; rotate_left
  have ndX5_X7 : ¬ (u0 = u2) := (oL X5.lt h); have jX7 := (Nat.le_trans y1.size h); replace X5 := (X5.later b34); replace y1 := bC y1 b34
  clear S b34 h w31
  revert y1; revert ndX5_X7; revert jX7; revert jX5; revert X7; revert X5; revert u2; revert u0; revert w34
  refine ?e16; rotate_left
  intro w35 u1 X6 jX6 y1
  have S := Off.ofB y1
  refine uY3 (cC 5 S (h4.out _ (ft.later (bC bP y1))) fun w36 b36 => ?e13 w36 u1 (X6.later b36) jX6 (bC y1 b36)) (cA 9 S fun w37 u0 h X5 b37 => ?e15 w37 u0 u1 X5 (X6.later b37) (Nat.le_trans y1.size h) jX6 (oG X6.lt h) (bC y1 b37)) (cA 11 S fun w38 u2 h X7 b38 => ?_)
  have ndX6_X7 : ¬ (u1 = u2) := (oL X6.lt h); have jX7 := (Nat.le_trans y1.size h); replace X6 := (X6.later b38); replace y1 := bC y1 b38
  clear S b38 h w35
  revert y1; revert ndX6_X7; revert jX7; revert jX6; revert X7; revert X6; revert u2; revert u1; revert w38
  refine ?e17; rotate_left
  intro w39 u2 X7 jX7 y1
  have S := Off.ofB y1
  refine uY3 (cC 5 S (h4.out _ (ft.later (bC bP y1))) fun w40 b40 => ?e14 w40 u2 (X7.later b40) jX7 (bC y1 b40)) (cA 9 S fun w41 u0 h X5 b41 => ?e16 w41 u0 u2 X5 (X7.later b41) (Nat.le_trans y1.size h) jX7 (oG X7.lt h) (bC y1 b41)) (cA 10 S fun w42 u1 h X6 b42 => ?e17 w42 u1 u2 X6 (X7.later b42) (Nat.le_trans y1.size h) jX7 (oG X7.lt h) (bC y1 b42))
  intro w43 u0 u1 X5 X6 jX5 jX6 ndX5_X6 y1
  have S := Off.ofB y1
  refine uY2 (cC 2 S (h3.out _ (ft.later (bC bP y1))) fun w44 b44 => ?e15 w44 u0 u1 (X5.later b44) (X6.later b44) jX5 jX6 ndX5_X6 (bC y1 b44)) (cA 11 S fun w45 u2 h X7 b45 => ?_)
  have ndX5_X7 : ¬ (u0 = u2) := (oL X5.lt h); have ndX6_X7 : ¬ (u1 = u2) := (oL X6.lt h); have jX7 := (Nat.le_trans y1.size h); replace X5 := (X5.later b45); replace X6 := (X6.later b45); replace y1 := bC y1 b45
  clear S b45 h w43
  revert y1; revert ndX6_X7; revert ndX5_X7; revert ndX5_X6; revert jX7; revert jX6; revert jX5; revert X7; revert X6; revert X5; revert u2; revert u1; revert u0; revert w45
  refine ?e18; rotate_left
  intro w46 u0 u2 X5 X7 jX5 jX7 ndX5_X7 y1
  have S := Off.ofB y1
  refine uY2 (cC 2 S (h3.out _ (ft.later (bC bP y1))) fun w47 b47 => ?e16 w47 u0 u2 (X5.later b47) (X7.later b47) jX5 jX7 ndX5_X7 (bC y1 b47)) (cA 10 S fun w48 u1 h X6 b48 => ?e18 w48 u0 u1 u2 (X5.later b48) X6 (X7.later b48) jX5 (Nat.le_trans y1.size h) jX7 (oL X5.lt h) ndX5_X7 (oG X7.lt h) (bC y1 b48))
  intro w49 u1 u2 X6 X7 jX6 jX7 ndX6_X7 y1
  have S := Off.ofB y1
  refine uY2 (cC 2 S (h3.out _ (ft.later (bC bP y1))) fun w50 b50 => ?e17 w50 u1 u2 (X6.later b50) (X7.later b50) jX6 jX7 ndX6_X7 (bC y1 b50)) (cA 9 S fun w51 u0 h X5 b51 => ?e18 w51 u0 u1 u2 X5 (X6.later b51) (X7.later b51) (Nat.le_trans y1.size h) jX6 jX7 (oG X6.lt h) (oG X7.lt h) ndX6_X7 (bC y1 b51))
  intro w52 y1
  have S := Off.ofB y1
  refine uY3 (cA 9 S fun w53 u0 h X5 b53 => ?_) (cA 10 S fun w54 u1 h X6 b54 => ?_) (cA 11 S fun w55 u2 h X7 b55 => ?_)
  have jX5 := (Nat.le_trans y1.size h); replace y1 := bC y1 b53
  clear S b53 h w52
  revert y1; revert jX5; revert X5; revert u0; revert w53
  refine ?e19; rotate_left
  have jX6 := (Nat.le_trans y1.size h); replace y1 := bC y1 b54
  clear S b54 h w52
  revert y1; revert jX6; revert X6; revert u1; revert w54
  refine ?e20; rotate_left
  have jX7 := (Nat.le_trans y1.size h); replace y1 := bC y1 b55
  clear S b55 h w52
  revert y1; revert jX7; revert X7; revert u2; revert w55
  refine ?e21; rotate_left
  intro w56 u0 X5 jX5 y1
  have S := Off.ofB y1
  refine uY3 (cC 8 S (h5.out _ (ft.later (bC bP y1))) fun w57 b57 => ?e19 w57 u0 (X5.later b57) jX5 (bC y1 b57)) (cA 10 S fun w58 u1 h X6 b58 => ?_) (cA 11 S fun w59 u2 h X7 b59 => ?_)
  have ndX5_X6 : ¬ (u0 = u1) := (oL X5.lt h); have jX6 := (Nat.le_trans y1.size h); replace X5 := (X5.later b58); replace y1 := bC y1 b58
  clear S b58 h w56
  revert y1; revert ndX5_X6; revert jX6; revert jX5; revert X6; revert X5; revert u1; revert u0; revert w58
  refine ?e22; rotate_left
  have ndX5_X7 : ¬ (u0 = u2) := (oL X5.lt h); have jX7 := (Nat.le_trans y1.size h); replace X5 := (X5.later b59); replace y1 := bC y1 b59
  clear S b59 h w56
  revert y1; revert ndX5_X7; revert jX7; revert jX5; revert X7; revert X5; revert u2; revert u0; revert w59
  refine ?e23; rotate_left
  intro w60 u1 X6 jX6 y1
  have S := Off.ofB y1
  refine uY3 (cC 8 S (h5.out _ (ft.later (bC bP y1))) fun w61 b61 => ?e20 w61 u1 (X6.later b61) jX6 (bC y1 b61)) (cA 9 S fun w62 u0 h X5 b62 => ?e22 w62 u0 u1 X5 (X6.later b62) (Nat.le_trans y1.size h) jX6 (oG X6.lt h) (bC y1 b62)) (cA 11 S fun w63 u2 h X7 b63 => ?_)
  have ndX6_X7 : ¬ (u1 = u2) := (oL X6.lt h); have jX7 := (Nat.le_trans y1.size h); replace X6 := (X6.later b63); replace y1 := bC y1 b63
  clear S b63 h w60
  revert y1; revert ndX6_X7; revert jX7; revert jX6; revert X7; revert X6; revert u2; revert u1; revert w63
  refine ?e24; rotate_left
  intro w64 u2 X7 jX7 y1
  have S := Off.ofB y1
  refine uY3 (cC 8 S (h5.out _ (ft.later (bC bP y1))) fun w65 b65 => ?e21 w65 u2 (X7.later b65) jX7 (bC y1 b65)) (cA 9 S fun w66 u0 h X5 b66 => ?e23 w66 u0 u2 X5 (X7.later b66) (Nat.le_trans y1.size h) jX7 (oG X7.lt h) (bC y1 b66)) (cA 10 S fun w67 u1 h X6 b67 => ?e24 w67 u1 u2 X6 (X7.later b67) (Nat.le_trans y1.size h) jX7 (oG X7.lt h) (bC y1 b67))
  intro w68 u0 u1 X5 X6 jX5 jX6 ndX5_X6 y1
  have S := Off.ofB y1
  refine uY2 (cC 5 S (h4.out _ (ft.later (bC bP y1))) fun w69 b69 => ?e22 w69 u0 u1 (X5.later b69) (X6.later b69) jX5 jX6 ndX5_X6 (bC y1 b69)) (cA 11 S fun w70 u2 h X7 b70 => ?_)
  have ndX5_X7 : ¬ (u0 = u2) := (oL X5.lt h); have ndX6_X7 : ¬ (u1 = u2) := (oL X6.lt h); have jX7 := (Nat.le_trans y1.size h); replace X5 := (X5.later b70); replace X6 := (X6.later b70); replace y1 := bC y1 b70
  clear S b70 h w68
  revert y1; revert ndX6_X7; revert ndX5_X7; revert ndX5_X6; revert jX7; revert jX6; revert jX5; revert X7; revert X6; revert X5; revert u2; revert u1; revert u0; revert w70
  refine ?e25; rotate_left
  intro w71 u0 u2 X5 X7 jX5 jX7 ndX5_X7 y1
  have S := Off.ofB y1
  refine uY2 (cC 5 S (h4.out _ (ft.later (bC bP y1))) fun w72 b72 => ?e23 w72 u0 u2 (X5.later b72) (X7.later b72) jX5 jX7 ndX5_X7 (bC y1 b72)) (cA 10 S fun w73 u1 h X6 b73 => ?e25 w73 u0 u1 u2 (X5.later b73) X6 (X7.later b73) jX5 (Nat.le_trans y1.size h) jX7 (oL X5.lt h) ndX5_X7 (oG X7.lt h) (bC y1 b73))
  intro w74 u1 u2 X6 X7 jX6 jX7 ndX6_X7 y1
  have S := Off.ofB y1
  refine uY2 (cC 5 S (h4.out _ (ft.later (bC bP y1))) fun w75 b75 => ?e24 w75 u1 u2 (X6.later b75) (X7.later b75) jX6 jX7 ndX6_X7 (bC y1 b75)) (cA 9 S fun w76 u0 h X5 b76 => ?e25 w76 u0 u1 u2 X5 (X6.later b76) (X7.later b76) (Nat.le_trans y1.size h) jX6 jX7 (oG X6.lt h) (oG X7.lt h) ndX6_X7 (bC y1 b76))
  intro w77 u0 u1 u2 X5 X6 X7 jX5 jX6 jX7 ndX5_X6 ndX5_X7 ndX6_X7 y1
  have S := Off.ofB y1
  refine uY1 (cC 2 S (h3.out _ (ft.later (bC bP y1))) fun w78 b78 => ?e25 w78 u0 u1 u2 (X5.later b78) (X6.later b78) (X7.later b78) jX5 jX6 jX7 ndX5_X6 ndX5_X7 ndX6_X7 (bC y1 b78))
  intro w79 u0 X5 jX5 y1
  have S := Off.ofB y1
  refine uY2 (cA 10 S fun w80 u1 h X6 b80 => ?_) (cA 11 S fun w81 u2 h X7 b81 => ?_)
  have ndX5_X6 : ¬ (u0 = u1) := (oL X5.lt h); have jX6 := (Nat.le_trans y1.size h); replace X5 := (X5.later b80); replace y1 := bC y1 b80
  clear S b80 h w79
  revert y1; revert ndX5_X6; revert jX6; revert jX5; revert X6; revert X5; revert u1; revert u0; revert w80
  refine ?e26; rotate_left
  have ndX5_X7 : ¬ (u0 = u2) := (oL X5.lt h); have jX7 := (Nat.le_trans y1.size h); replace X5 := (X5.later b81); replace y1 := bC y1 b81
  clear S b81 h w79
  revert y1; revert ndX5_X7; revert jX7; revert jX5; revert X7; revert X5; revert u2; revert u0; revert w81
  refine ?e27; rotate_left
  intro w82 u1 X6 jX6 y1
  have S := Off.ofB y1
  refine uY2 (cA 9 S fun w83 u0 h X5 b83 => ?e26 w83 u0 u1 X5 (X6.later b83) (Nat.le_trans y1.size h) jX6 (oG X6.lt h) (bC y1 b83)) (cA 11 S fun w84 u2 h X7 b84 => ?_)
  have ndX6_X7 : ¬ (u1 = u2) := (oL X6.lt h); have jX7 := (Nat.le_trans y1.size h); replace X6 := (X6.later b84); replace y1 := bC y1 b84
  clear S b84 h w82
  revert y1; revert ndX6_X7; revert jX7; revert jX6; revert X7; revert X6; revert u2; revert u1; revert w84
  refine ?e28; rotate_left
  intro w85 u2 X7 jX7 y1
  have S := Off.ofB y1
  refine uY2 (cA 9 S fun w86 u0 h X5 b86 => ?e27 w86 u0 u2 X5 (X7.later b86) (Nat.le_trans y1.size h) jX7 (oG X7.lt h) (bC y1 b86)) (cA 10 S fun w87 u1 h X6 b87 => ?e28 w87 u1 u2 X6 (X7.later b87) (Nat.le_trans y1.size h) jX7 (oG X7.lt h) (bC y1 b87))
  intro w88 u0 u1 X5 X6 jX5 jX6 ndX5_X6 y1
  have S := Off.ofB y1
  refine uY2 (cC 8 S (h5.out _ (ft.later (bC bP y1))) fun w89 b89 => ?e26 w89 u0 u1 (X5.later b89) (X6.later b89) jX5 jX6 ndX5_X6 (bC y1 b89)) (cA 11 S fun w90 u2 h X7 b90 => ?_)
  have ndX5_X7 : ¬ (u0 = u2) := (oL X5.lt h); have ndX6_X7 : ¬ (u1 = u2) := (oL X6.lt h); have jX7 := (Nat.le_trans y1.size h); replace X5 := (X5.later b90); replace X6 := (X6.later b90); replace y1 := bC y1 b90
  clear S b90 h w88
  revert y1; revert ndX6_X7; revert ndX5_X7; revert ndX5_X6; revert jX7; revert jX6; revert jX5; revert X7; revert X6; revert X5; revert u2; revert u1; revert u0; revert w90
  refine ?e29; rotate_left
  intro w91 u0 u2 X5 X7 jX5 jX7 ndX5_X7 y1
  have S := Off.ofB y1
  refine uY2 (cC 8 S (h5.out _ (ft.later (bC bP y1))) fun w92 b92 => ?e27 w92 u0 u2 (X5.later b92) (X7.later b92) jX5 jX7 ndX5_X7 (bC y1 b92)) (cA 10 S fun w93 u1 h X6 b93 => ?e29 w93 u0 u1 u2 (X5.later b93) X6 (X7.later b93) jX5 (Nat.le_trans y1.size h) jX7 (oL X5.lt h) ndX5_X7 (oG X7.lt h) (bC y1 b93))
  intro w94 u1 u2 X6 X7 jX6 jX7 ndX6_X7 y1
  have S := Off.ofB y1
  refine uY2 (cC 8 S (h5.out _ (ft.later (bC bP y1))) fun w95 b95 => ?e28 w95 u1 u2 (X6.later b95) (X7.later b95) jX6 jX7 ndX6_X7 (bC y1 b95)) (cA 9 S fun w96 u0 h X5 b96 => ?e29 w96 u0 u1 u2 X5 (X6.later b96) (X7.later b96) (Nat.le_trans y1.size h) jX6 jX7 (oG X6.lt h) (oG X7.lt h) ndX6_X7 (bC y1 b96))
  intro w97 u0 u1 u2 X5 X6 X7 jX5 jX6 jX7 ndX5_X6 ndX5_X7 ndX6_X7 y1
  have S := Off.ofB y1
  refine uY1 (cC 5 S (h4.out _ (ft.later (bC bP y1))) fun w98 b98 => ?e29 w98 u0 u1 u2 (X5.later b98) (X6.later b98) (X7.later b98) jX5 jX6 jX7 ndX5_X6 ndX5_X7 ndX6_X7 (bC y1 b98))
  intro w99 u0 u1 X5 X6 jX5 jX6 ndX5_X6 y1
  have S := Off.ofB y1
  refine uY1 (cA 11 S fun w100 u2 h X7 b100 => ?_)
  have ndX5_X7 : ¬ (u0 = u2) := (oL X5.lt h); have ndX6_X7 : ¬ (u1 = u2) := (oL X6.lt h); have jX7 := (Nat.le_trans y1.size h); replace X5 := (X5.later b100); replace X6 := (X6.later b100); replace y1 := bC y1 b100
  clear S b100 h w99
  revert y1; revert ndX6_X7; revert ndX5_X7; revert ndX5_X6; revert jX7; revert jX6; revert jX5; revert X7; revert X6; revert X5; revert u2; revert u1; revert u0; revert w100
  refine ?e30; rotate_left
  intro w101 u0 u2 X5 X7 jX5 jX7 ndX5_X7 y1
  have S := Off.ofB y1
  refine uY1 (cA 10 S fun w102 u1 h X6 b102 => ?e30 w102 u0 u1 u2 (X5.later b102) X6 (X7.later b102) jX5 (Nat.le_trans y1.size h) jX7 (oL X5.lt h) ndX5_X7 (oG X7.lt h) (bC y1 b102))
  intro w103 u1 u2 X6 X7 jX6 jX7 ndX6_X7 y1
  have S := Off.ofB y1
  refine uY1 (cA 9 S fun w104 u0 h X5 b104 => ?e30 w104 u0 u1 u2 X5 (X6.later b104) (X7.later b104) (Nat.le_trans y1.size h) jX6 jX7 (oG X6.lt h) (oG X7.lt h) ndX6_X7 (bC y1 b104))
  intro w105 u0 u1 u2 X5 X6 X7 jX5 jX6 jX7 ndX5_X6 ndX5_X7 ndX6_X7 y1
  have S := Off.ofB y1
  refine uY1 (cC 8 S (h5.out _ (ft.later (bC bP y1))) fun w106 b106 => ?e30 w106 u0 u1 u2 (X5.later b106) (X6.later b106) (X7.later b106) jX5 jX6 jX7 ndX5_X6 ndX5_X7 ndX6_X7 (bC y1 b106))
  intro w107 u0 u1 u2 X5 X6 X7 jX5 jX6 jX7 ndX5_X6 ndX5_X7 ndX6_X7 y1
  have S := Off.ofB y1
  refine uY1 (vO 12 fun K hK => ?_)
  have q := X5.o; have mX6 : ¬ (u1 = u0) := (by omega); have mX7 : ¬ (u2 = u0) := (by omega)
  go_simp
  refine vW (fun W => HB W u0 28 #[.int .u64 xh, .int .u64 xl] ∧ HB W u1 28 #[.int .u64 0, .int .u64 0] ∧ HB W u2 28 #[.int .u64 0, .int .u64 0] ∧ Below w3.heap.size w3 W) ⟨((X5.set 0 _).set 1 _), ((X6.other mX6 0 _).other mX6 1 _), ((X7.other mX7 0 _).other mX7 1 _), ((y1.setCell (p := ⟨u0, 0, none⟩) jX5 _).setCell (p := ⟨u0, 1, none⟩) jX5 _)⟩ fun w109 hz => ?_
  clear q mX6 mX7 X5 X6 X7 S y1 w107; obtain ⟨X5, X6, X7, y1⟩ := hz
  refine hK.out _ _ (Off.ofB y1) fun S => ?_; clear hK K S; refine vP ?_
  revert y1; revert ndX6_X7; revert ndX5_X7; revert ndX5_X6; revert jX7; revert jX6; revert jX5; revert X7; revert X6; revert X5; revert u2; revert u1; revert u0; revert w109
  refine ?e31; rotate_left
  intro w110 u0 u1 u2 X5 X6 X7 jX5 jX6 jX7 ndX5_X6 ndX5_X7 ndX6_X7 y1
  have S := Off.ofB y1
  refine uY1 (vO 13 fun K hK => ?_)
  have q := X6.o; have mX5 : ¬ (u0 = u1) := (by omega); have mX7 : ¬ (u2 = u1) := (by omega)
  go_simp
  refine vW (fun W => HB W u0 28 #[.int .u64 xh, .int .u64 xl] ∧ HB W u1 28 #[.int .u64 yh, .int .u64 yl] ∧ HB W u2 28 #[.int .u64 0, .int .u64 0] ∧ Below w3.heap.size w3 W) ⟨((X5.other mX5 0 _).other mX5 1 _), ((X6.set 0 _).set 1 _), ((X7.other mX7 0 _).other mX7 1 _), ((y1.setCell (p := ⟨u1, 0, none⟩) jX6 _).setCell (p := ⟨u1, 1, none⟩) jX6 _)⟩ fun w112 hz => ?_
  clear q mX5 mX7 X5 X6 X7 S y1 w110; obtain ⟨X5, X6, X7, y1⟩ := hz
  refine hK.out _ _ (Off.ofB y1) fun S => ?_; clear hK K S; refine vP ?_
  revert y1; revert ndX6_X7; revert ndX5_X7; revert ndX5_X6; revert jX7; revert jX6; revert jX5; revert X7; revert X6; revert X5; revert u2; revert u1; revert u0; revert w112
  refine ?e32; rotate_left
  intro w113 u0 u1 u2 X5 X6 X7 jX5 jX6 jX7 ndX5_X6 ndX5_X7 ndX6_X7 y1
  have S := Off.ofB y1
  refine uY1 (vO 14 fun K hK => ?_)
  have q := X7.o; have mX5 : ¬ (u0 = u2) := (by omega); have mX6 : ¬ (u1 = u2) := (by omega)
  go_simp
  refine vW (fun W => HB W u0 28 #[.int .u64 xh, .int .u64 xl] ∧ HB W u1 28 #[.int .u64 yh, .int .u64 yl] ∧ HB W u2 28 #[.int .u64 zh, .int .u64 zl] ∧ Below w3.heap.size w3 W) ⟨((X5.other mX5 0 _).other mX5 1 _), ((X6.other mX6 0 _).other mX6 1 _), ((X7.set 0 _).set 1 _), ((y1.setCell (p := ⟨u2, 0, none⟩) jX7 _).setCell (p := ⟨u2, 1, none⟩) jX7 _)⟩ fun w115 hz => ?_
  clear q mX5 mX6 X5 X6 X7 S y1 w113; obtain ⟨X5, X6, X7, y1⟩ := hz
  refine hK.out _ _ (Off.ofB y1) fun S => ?_; clear hK K S; refine vP ?_
  revert y1; revert ndX6_X7; revert ndX5_X7; revert ndX5_X6; revert jX7; revert jX6; revert jX5; revert X7; revert X6; revert X5; revert u2; revert u1; revert u0; revert w115
  refine ?e33; rotate_left
  intro w116 u0 u1 u2 X5 X6 X7 jX5 jX6 jX7 ndX5_X6 ndX5_X7 ndX6_X7 y1
  refine vD ?_
  replace X0 := X0.later (bC b2 (bC (bA (Below.refl _ _) _) b3))
  have nX0_X5 : w.heap.size < u0 := by have := X0.lt; omega
  have nX0_X6 : w.heap.size < u1 := by have := X0.lt; omega
  have nX0_X7 : w.heap.size < u2 := by have := X0.lt; omega
  have gX5 : w.heap.size ≤ u0 := by have := bP.size; omega
  have gX6 : w.heap.size ≤ u1 := by have := bP.size; omega
  have gX7 : w.heap.size ≤ u2 := by have := bP.size; omega
  have oX5 := X5.o
  have oX6 := X6.o
  rcases HH with ⟨s1, h6, h7, h8⟩ | ⟨s1, s2, s3, h6, h7, h8⟩ | ⟨s1, s2, h6, h7, h8⟩ | ⟨s1, s2, s3, h6, h7, h8⟩
  · as_aux_lemma =>
      have mX6_X5 : ¬ (u1 = u0) := by omega
      have mX5_X6 : ¬ (u0 = u1) := by omega
      go_wp2_with fail
      replace X0 := X0.later y1
      refine wp_forget (fun W => HB W w.heap.size 25 #[.int .u8 mm, .bool t] ∧ HB W u0 28 #[.int .u64 yh, .int .u64 yl] ∧ HB W u1 28 #[.int .u64 xh, .int .u64 xl] ∧ HB W u2 28 #[.int .u64 zh, .int .u64 zl] ∧ Below w.heap.size w W) ⟨((((X0.other (by omega) 0 _).other (by omega) 1 _).other (by omega) 0 _).other (by omega) 1 _), ((((X5.set 0 _).set 1 _).other (by omega) 0 _).other (by omega) 1 _), ((((X6.other (by omega) 0 _).other (by omega) 1 _).set 0 _).set 1 _), ((((X7.other (by omega) 0 _).other (by omega) 1 _).other (by omega) 0 _).other (by omega) 1 _), (((((bC bP y1).setCell (p := ⟨u0, 0, none⟩) gX5 _).setCell (p := ⟨u0, 1, none⟩) gX5 _).setCell (p := ⟨u1, 0, none⟩) gX6 _).setCell (p := ⟨u1, 1, none⟩) gX6 _)⟩ (fun w117 hst => ?_)
      obtain ⟨X0, X5, X6, X7, kk⟩ := hst
      clear oX5 oX6 mX6_X5 mX5_X6
      have hfd1 : ∀ w : World, (Instr.field 31 (.agg #[.int .u64 ph, .int .u64 pl, .int .u8 pf]) 0).run Tryz.prog w = .ok (.agg #[.int .u64 ph, .int .u64 pl]) w := fun _ => by kernel_rfl
      have hfd2 : ∀ w : World, (Instr.field 31 (.agg #[.int .u64 qh, .int .u64 ql, .int .u8 qf]) 0).run Tryz.prog w = .ok (.agg #[.int .u64 qh, .int .u64 ql]) w := fun _ => by kernel_rfl
      refine vR [] fun w118 y2 S => ?_
      refine uT 0 S ?_
      refine uT 1 S ?_ (hy := by intro wq hb; have q := (hb.hb X0 (by simp)).o; go_simp; try (with_reducible rfl))
      refine uT 2 S ?_ (hy := by intro wq hb; have q := (hb.hb X5 (by simp)).o; go_simp; try (with_reducible rfl))
      refine uT 3 S ?_ (hy := by intro wq hb; have q := (hb.hb X7 (by simp)).o; go_simp; try (with_reducible rfl))
      refine uT 6 S ?_
      refine uT 7 S ?_ (hy := by intro wq hb; have q := (hb.hb X0 (by simp)).o; go_simp; try (with_reducible rfl))
      refine uT 8 S ?_ (hy := by intro wq hb; have q := (hb.hb X6 (by simp)).o; go_simp; try (with_reducible rfl))
      refine uT 9 S ?_ (hy := by intro wq hb; have q := (hb.hb X7 (by simp)).o; go_simp; try (with_reducible rfl))
      refine uY3 (cC 4 S (h6.out _ (ft.later (bC kk y2))) fun w119 b119 => ?_) (cA 12 S fun w120 v0 h X8 b120 => ?_) (cA 13 S fun w121 v1 h X9 b121 => ?_)
      replace y2 := bC y2 b119
      refine uT 5 (Off.ofB y2) ?_
      clear S b119 w118
      revert y2; revert w119
      refine ?a0; rotate_left
      have jX8 := (Nat.le_trans y2.size h); replace y2 := bC y2 b120
      clear S b120 h w118
      revert y2; revert jX8; revert X8; revert v0; revert w120
      refine ?a1; rotate_left
      have jX9 := (Nat.le_trans y2.size h); replace y2 := bC y2 b121
      clear S b121 h w118
      revert y2; revert jX9; revert X9; revert v1; revert w121
      refine ?a2; rotate_left
      intro w122 y2
      have S := Off.ofB y2
      refine uY3 (cC 10 S (h7.out _ (ft.later (bC kk y2))) fun w123 b123 => ?_) (cA 12 S fun w124 v0 h X8 b124 => ?_) (cA 13 S fun w125 v1 h X9 b125 => ?_)
      replace y2 := bC y2 b123
      refine uT 11 (Off.ofB y2) ?_
      clear S b123 w122
      revert y2; revert w123
      refine ?a3; rotate_left
      have jX8 := (Nat.le_trans y2.size h); replace y2 := bC y2 b124
      clear S b124 h w122
      revert y2; revert jX8; revert X8; revert v0; revert w124
      refine ?a4; rotate_left
      have jX9 := (Nat.le_trans y2.size h); replace y2 := bC y2 b125
      clear S b125 h w122
      revert y2; revert jX9; revert X9; revert v1; revert w125
      refine ?a5; rotate_left
      intro w126 v0 X8 jX8 y2
      have S := Off.ofB y2
      refine uY2 (cC 4 S (h6.out _ (ft.later (bC kk y2))) fun w127 b127 => ?_) (cA 13 S fun w128 v1 h X9 b128 => ?_)
      replace X8 := (X8.later b127); replace y2 := bC y2 b127
      refine uT 5 (Off.ofB y2) ?_
      clear S b127 w126
      revert y2; revert jX8; revert X8; revert v0; revert w127
      exact ?a4
      have ndX8_X9 : ¬ (v0 = v1) := (oL X8.lt h); have jX9 := (Nat.le_trans y2.size h); replace X8 := (X8.later b128); replace y2 := bC y2 b128
      clear S b128 h w126
      revert y2; revert ndX8_X9; revert jX9; revert jX8; revert X9; revert X8; revert v1; revert v0; revert w128
      refine ?a6; rotate_left
      intro w129 v1 X9 jX9 y2
      have S := Off.ofB y2
      refine uY2 (cC 4 S (h6.out _ (ft.later (bC kk y2))) fun w130 b130 => ?_) (cA 12 S fun w131 v0 h X8 b131 => ?a6 w131 v0 v1 X8 (X9.later b131) (Nat.le_trans y2.size h) jX9 (oG X9.lt h) (bC y2 b131))
      replace X9 := (X9.later b130); replace y2 := bC y2 b130
      refine uT 5 (Off.ofB y2) ?_
      clear S b130 w129
      revert y2; revert jX9; revert X9; revert v1; revert w130
      exact ?a5
      intro w132 y2
      have S := Off.ofB y2
      refine uY2 (cA 12 S fun w133 v0 h X8 b133 => ?_) (cA 13 S fun w134 v1 h X9 b134 => ?_)
      have jX8 := (Nat.le_trans y2.size h); replace y2 := bC y2 b133
      clear S b133 h w132
      revert y2; revert jX8; revert X8; revert v0; revert w133
      refine ?a7; rotate_left
      have jX9 := (Nat.le_trans y2.size h); replace y2 := bC y2 b134
      clear S b134 h w132
      revert y2; revert jX9; revert X9; revert v1; revert w134
      refine ?a8; rotate_left
      intro w135 v0 X8 jX8 y2
      have S := Off.ofB y2
      refine uY2 (cC 10 S (h7.out _ (ft.later (bC kk y2))) fun w136 b136 => ?_) (cA 13 S fun w137 v1 h X9 b137 => ?_)
      replace X8 := (X8.later b136); replace y2 := bC y2 b136
      refine uT 11 (Off.ofB y2) ?_
      clear S b136 w135
      revert y2; revert jX8; revert X8; revert v0; revert w136
      exact ?a7
      have ndX8_X9 : ¬ (v0 = v1) := (oL X8.lt h); have jX9 := (Nat.le_trans y2.size h); replace X8 := (X8.later b137); replace y2 := bC y2 b137
      clear S b137 h w135
      revert y2; revert ndX8_X9; revert jX9; revert jX8; revert X9; revert X8; revert v1; revert v0; revert w137
      refine ?a9; rotate_left
      intro w138 v1 X9 jX9 y2
      have S := Off.ofB y2
      refine uY2 (cC 10 S (h7.out _ (ft.later (bC kk y2))) fun w139 b139 => ?_) (cA 12 S fun w140 v0 h X8 b140 => ?a9 w140 v0 v1 X8 (X9.later b140) (Nat.le_trans y2.size h) jX9 (oG X9.lt h) (bC y2 b140))
      replace X9 := (X9.later b139); replace y2 := bC y2 b139
      refine uT 11 (Off.ofB y2) ?_
      clear S b139 w138
      revert y2; revert jX9; revert X9; revert v1; revert w139
      exact ?a8
      intro w141 v0 v1 X8 X9 jX8 jX9 ndX8_X9 y2
      have S := Off.ofB y2
      refine uY1 (cC 4 S (h6.out _ (ft.later (bC kk y2))) fun w142 b142 => ?_)
      replace X8 := (X8.later b142); replace X9 := (X9.later b142); replace y2 := bC y2 b142
      refine uT 5 (Off.ofB y2) ?_
      clear S b142 w141
      revert y2; revert ndX8_X9; revert jX9; revert jX8; revert X9; revert X8; revert v1; revert v0; revert w142
      exact ?a9
      intro w143 v0 X8 jX8 y2
      have S := Off.ofB y2
      refine uY1 (cA 13 S fun w144 v1 h X9 b144 => ?_)
      have ndX8_X9 : ¬ (v0 = v1) := (oL X8.lt h); have jX9 := (Nat.le_trans y2.size h); replace X8 := (X8.later b144); replace y2 := bC y2 b144
      clear S b144 h w143
      revert y2; revert ndX8_X9; revert jX9; revert jX8; revert X9; revert X8; revert v1; revert v0; revert w144
      refine ?a10; rotate_left
      intro w145 v1 X9 jX9 y2
      have S := Off.ofB y2
      refine uY1 (cA 12 S fun w146 v0 h X8 b146 => ?a10 w146 v0 v1 X8 (X9.later b146) (Nat.le_trans y2.size h) jX9 (oG X9.lt h) (bC y2 b146))
      intro w147 v0 v1 X8 X9 jX8 jX9 ndX8_X9 y2
      have S := Off.ofB y2
      refine uY1 (cC 10 S (h7.out _ (ft.later (bC kk y2))) fun w148 b148 => ?_)
      replace X8 := (X8.later b148); replace X9 := (X9.later b148); replace y2 := bC y2 b148
      refine uT 11 (Off.ofB y2) ?_
      clear S b148 w147
      revert y2; revert ndX8_X9; revert jX9; revert jX8; revert X9; revert X8; revert v1; revert v0; revert w148
      exact ?a10
      intro w149 v0 v1 X8 X9 jX8 jX9 ndX8_X9 y2
      have S := Off.ofB y2
      refine uY1 (vO 14 fun K hK => ?_)
      have q := X8.o; have mX9 : ¬ (v1 = v0) := (by omega)
      go_simp
      refine vW (fun W => HB W v0 28 #[.int .u64 ph, .int .u64 pl] ∧ HB W v1 28 #[.int .u64 0, .int .u64 0] ∧ Below w117.heap.size w117 W) ⟨((X8.set 0 _).set 1 _), ((X9.other mX9 0 _).other mX9 1 _), ((y2.setCell (p := ⟨v0, 0, none⟩) jX8 _).setCell (p := ⟨v0, 1, none⟩) jX8 _)⟩ fun w151 hz => ?_
      clear q mX9 X8 X9 S y2 w149; obtain ⟨X8, X9, y2⟩ := hz
      refine hK.out _ _ (Off.ofB y2) fun S => ?_; clear hK K S; refine vP ?_
      revert y2; revert ndX8_X9; revert jX9; revert jX8; revert X9; revert X8; revert v1; revert v0; revert w151
      refine ?a11; rotate_left
      intro w152 v0 v1 X8 X9 jX8 jX9 ndX8_X9 y2
      have S := Off.ofB y2
      refine uY1 (vO 15 fun K hK => ?_)
      have q := X9.o; have mX8 : ¬ (v0 = v1) := (by omega)
      go_simp
      refine vW (fun W => HB W v0 28 #[.int .u64 ph, .int .u64 pl] ∧ HB W v1 28 #[.int .u64 qh, .int .u64 ql] ∧ Below w117.heap.size w117 W) ⟨((X8.other mX8 0 _).other mX8 1 _), ((X9.set 0 _).set 1 _), ((y2.setCell (p := ⟨v1, 0, none⟩) jX9 _).setCell (p := ⟨v1, 1, none⟩) jX9 _)⟩ fun w154 hz => ?_
      clear q mX8 X8 X9 S y2 w152; obtain ⟨X8, X9, y2⟩ := hz
      refine hK.out _ _ (Off.ofB y2) fun S => ?_; clear hK K S; refine vP ?_
      revert y2; revert ndX8_X9; revert jX9; revert jX8; revert X9; revert X8; revert v1; revert v0; revert w154
      refine ?a12; rotate_left
      intro w155 v0 v1 X8 X9 jX8 jX9 ndX8_X9 y2
      refine vD ?_
      have gX8 : w.heap.size ≤ v0 := by have := kk.size; omega
      have gX9 : w.heap.size ≤ v1 := by have := kk.size; omega
      have oX8 := X8.o
      have oX9 := X9.o
      rcases HL with l1 | ⟨l1, l2, l3⟩
      all_goals
        go_wp2_with fail
        refine vM (h8.out _ (ft.later (bC kk y2))) fun w156 b156 => ?_
        clear oX8 oX9
        go_wp2_with fail
        go_ret
        exact ⟨rfl, (bC kk (bC y2 b156))⟩
  · as_aux_lemma =>
      have mX6_X5 : ¬ (u1 = u0) := by omega
      have mX5_X6 : ¬ (u0 = u1) := by omega
      go_wp2_with fail
      replace X0 := X0.later y1
      refine wp_forget (fun W => HB W w.heap.size 25 #[.int .u8 mm, .bool t] ∧ HB W u0 28 #[.int .u64 yh, .int .u64 yl] ∧ HB W u1 28 #[.int .u64 xh, .int .u64 xl] ∧ HB W u2 28 #[.int .u64 zh, .int .u64 zl] ∧ Below w.heap.size w W) ⟨((((X0.other (by omega) 0 _).other (by omega) 1 _).other (by omega) 0 _).other (by omega) 1 _), ((((X5.set 0 _).set 1 _).other (by omega) 0 _).other (by omega) 1 _), ((((X6.other (by omega) 0 _).other (by omega) 1 _).set 0 _).set 1 _), ((((X7.other (by omega) 0 _).other (by omega) 1 _).other (by omega) 0 _).other (by omega) 1 _), (((((bC bP y1).setCell (p := ⟨u0, 0, none⟩) gX5 _).setCell (p := ⟨u0, 1, none⟩) gX5 _).setCell (p := ⟨u1, 0, none⟩) gX6 _).setCell (p := ⟨u1, 1, none⟩) gX6 _)⟩ (fun w117 hst => ?_)
      obtain ⟨X0, X5, X6, X7, kk⟩ := hst
      clear oX5 oX6 mX6_X5 mX5_X6
      have hfd1 : ∀ w : World, (Instr.field 31 (.agg #[.int .u64 ph, .int .u64 pl, .int .u8 pf]) 0).run Tryz.prog w = .ok (.agg #[.int .u64 ph, .int .u64 pl]) w := fun _ => by kernel_rfl
      have hfd2 : ∀ w : World, (Instr.field 31 (.agg #[.int .u64 qh, .int .u64 ql, .int .u8 qf]) 0).run Tryz.prog w = .ok (.agg #[.int .u64 qh, .int .u64 ql]) w := fun _ => by kernel_rfl
      refine vR [] fun w118 y2 S => ?_
      refine uT 0 S ?_
      refine uT 1 S ?_ (hy := by intro wq hb; have q := (hb.hb X0 (by simp)).o; go_simp; try (with_reducible rfl))
      refine uT 2 S ?_ (hy := by intro wq hb; have q := (hb.hb X5 (by simp)).o; go_simp; try (with_reducible rfl))
      refine uT 3 S ?_ (hy := by intro wq hb; have q := (hb.hb X7 (by simp)).o; go_simp; try (with_reducible rfl))
      refine uT 6 S ?_
      refine uT 7 S ?_ (hy := by intro wq hb; have q := (hb.hb X0 (by simp)).o; go_simp; try (with_reducible rfl))
      refine uT 8 S ?_ (hy := by intro wq hb; have q := (hb.hb X6 (by simp)).o; go_simp; try (with_reducible rfl))
      refine uT 9 S ?_ (hy := by intro wq hb; have q := (hb.hb X7 (by simp)).o; go_simp; try (with_reducible rfl))
      refine uY3 (cC 4 S (h6.out _ (ft.later (bC kk y2))) fun w119 b119 => ?_) (cA 12 S fun w120 v0 h X8 b120 => ?_) (cA 13 S fun w121 v1 h X9 b121 => ?_)
      replace y2 := bC y2 b119
      refine uT 5 (Off.ofB y2) ?_
      clear S b119 w118
      revert y2; revert w119
      refine ?b0; rotate_left
      have jX8 := (Nat.le_trans y2.size h); replace y2 := bC y2 b120
      clear S b120 h w118
      revert y2; revert jX8; revert X8; revert v0; revert w120
      refine ?b1; rotate_left
      have jX9 := (Nat.le_trans y2.size h); replace y2 := bC y2 b121
      clear S b121 h w118
      revert y2; revert jX9; revert X9; revert v1; revert w121
      refine ?b2; rotate_left
      intro w122 y2
      have S := Off.ofB y2
      refine uY3 (cC 10 S (h7.out _ (ft.later (bC kk y2))) fun w123 b123 => ?_) (cA 12 S fun w124 v0 h X8 b124 => ?_) (cA 13 S fun w125 v1 h X9 b125 => ?_)
      replace y2 := bC y2 b123
      refine uT 11 (Off.ofB y2) ?_
      clear S b123 w122
      revert y2; revert w123
      refine ?b3; rotate_left
      have jX8 := (Nat.le_trans y2.size h); replace y2 := bC y2 b124
      clear S b124 h w122
      revert y2; revert jX8; revert X8; revert v0; revert w124
      refine ?b4; rotate_left
      have jX9 := (Nat.le_trans y2.size h); replace y2 := bC y2 b125
      clear S b125 h w122
      revert y2; revert jX9; revert X9; revert v1; revert w125
      refine ?b5; rotate_left
      intro w126 v0 X8 jX8 y2
      have S := Off.ofB y2
      refine uY2 (cC 4 S (h6.out _ (ft.later (bC kk y2))) fun w127 b127 => ?_) (cA 13 S fun w128 v1 h X9 b128 => ?_)
      replace X8 := (X8.later b127); replace y2 := bC y2 b127
      refine uT 5 (Off.ofB y2) ?_
      clear S b127 w126
      revert y2; revert jX8; revert X8; revert v0; revert w127
      exact ?b4
      have ndX8_X9 : ¬ (v0 = v1) := (oL X8.lt h); have jX9 := (Nat.le_trans y2.size h); replace X8 := (X8.later b128); replace y2 := bC y2 b128
      clear S b128 h w126
      revert y2; revert ndX8_X9; revert jX9; revert jX8; revert X9; revert X8; revert v1; revert v0; revert w128
      refine ?b6; rotate_left
      intro w129 v1 X9 jX9 y2
      have S := Off.ofB y2
      refine uY2 (cC 4 S (h6.out _ (ft.later (bC kk y2))) fun w130 b130 => ?_) (cA 12 S fun w131 v0 h X8 b131 => ?b6 w131 v0 v1 X8 (X9.later b131) (Nat.le_trans y2.size h) jX9 (oG X9.lt h) (bC y2 b131))
      replace X9 := (X9.later b130); replace y2 := bC y2 b130
      refine uT 5 (Off.ofB y2) ?_
      clear S b130 w129
      revert y2; revert jX9; revert X9; revert v1; revert w130
      exact ?b5
      intro w132 y2
      have S := Off.ofB y2
      refine uY2 (cA 12 S fun w133 v0 h X8 b133 => ?_) (cA 13 S fun w134 v1 h X9 b134 => ?_)
      have jX8 := (Nat.le_trans y2.size h); replace y2 := bC y2 b133
      clear S b133 h w132
      revert y2; revert jX8; revert X8; revert v0; revert w133
      refine ?b7; rotate_left
      have jX9 := (Nat.le_trans y2.size h); replace y2 := bC y2 b134
      clear S b134 h w132
      revert y2; revert jX9; revert X9; revert v1; revert w134
      refine ?b8; rotate_left
      intro w135 v0 X8 jX8 y2
      have S := Off.ofB y2
      refine uY2 (cC 10 S (h7.out _ (ft.later (bC kk y2))) fun w136 b136 => ?_) (cA 13 S fun w137 v1 h X9 b137 => ?_)
      replace X8 := (X8.later b136); replace y2 := bC y2 b136
      refine uT 11 (Off.ofB y2) ?_
      clear S b136 w135
      revert y2; revert jX8; revert X8; revert v0; revert w136
      exact ?b7
      have ndX8_X9 : ¬ (v0 = v1) := (oL X8.lt h); have jX9 := (Nat.le_trans y2.size h); replace X8 := (X8.later b137); replace y2 := bC y2 b137
      clear S b137 h w135
      revert y2; revert ndX8_X9; revert jX9; revert jX8; revert X9; revert X8; revert v1; revert v0; revert w137
      refine ?b9; rotate_left
      intro w138 v1 X9 jX9 y2
      have S := Off.ofB y2
      refine uY2 (cC 10 S (h7.out _ (ft.later (bC kk y2))) fun w139 b139 => ?_) (cA 12 S fun w140 v0 h X8 b140 => ?b9 w140 v0 v1 X8 (X9.later b140) (Nat.le_trans y2.size h) jX9 (oG X9.lt h) (bC y2 b140))
      replace X9 := (X9.later b139); replace y2 := bC y2 b139
      refine uT 11 (Off.ofB y2) ?_
      clear S b139 w138
      revert y2; revert jX9; revert X9; revert v1; revert w139
      exact ?b8
      intro w141 v0 v1 X8 X9 jX8 jX9 ndX8_X9 y2
      have S := Off.ofB y2
      refine uY1 (cC 4 S (h6.out _ (ft.later (bC kk y2))) fun w142 b142 => ?_)
      replace X8 := (X8.later b142); replace X9 := (X9.later b142); replace y2 := bC y2 b142
      refine uT 5 (Off.ofB y2) ?_
      clear S b142 w141
      revert y2; revert ndX8_X9; revert jX9; revert jX8; revert X9; revert X8; revert v1; revert v0; revert w142
      exact ?b9
      intro w143 v0 X8 jX8 y2
      have S := Off.ofB y2
      refine uY1 (cA 13 S fun w144 v1 h X9 b144 => ?_)
      have ndX8_X9 : ¬ (v0 = v1) := (oL X8.lt h); have jX9 := (Nat.le_trans y2.size h); replace X8 := (X8.later b144); replace y2 := bC y2 b144
      clear S b144 h w143
      revert y2; revert ndX8_X9; revert jX9; revert jX8; revert X9; revert X8; revert v1; revert v0; revert w144
      refine ?b10; rotate_left
      intro w145 v1 X9 jX9 y2
      have S := Off.ofB y2
      refine uY1 (cA 12 S fun w146 v0 h X8 b146 => ?b10 w146 v0 v1 X8 (X9.later b146) (Nat.le_trans y2.size h) jX9 (oG X9.lt h) (bC y2 b146))
      intro w147 v0 v1 X8 X9 jX8 jX9 ndX8_X9 y2
      have S := Off.ofB y2
      refine uY1 (cC 10 S (h7.out _ (ft.later (bC kk y2))) fun w148 b148 => ?_)
      replace X8 := (X8.later b148); replace X9 := (X9.later b148); replace y2 := bC y2 b148
      refine uT 11 (Off.ofB y2) ?_
      clear S b148 w147
      revert y2; revert ndX8_X9; revert jX9; revert jX8; revert X9; revert X8; revert v1; revert v0; revert w148
      exact ?b10
      intro w149 v0 v1 X8 X9 jX8 jX9 ndX8_X9 y2
      have S := Off.ofB y2
      refine uY1 (vO 14 fun K hK => ?_)
      have q := X8.o; have mX9 : ¬ (v1 = v0) := (by omega)
      go_simp
      refine vW (fun W => HB W v0 28 #[.int .u64 ph, .int .u64 pl] ∧ HB W v1 28 #[.int .u64 0, .int .u64 0] ∧ Below w117.heap.size w117 W) ⟨((X8.set 0 _).set 1 _), ((X9.other mX9 0 _).other mX9 1 _), ((y2.setCell (p := ⟨v0, 0, none⟩) jX8 _).setCell (p := ⟨v0, 1, none⟩) jX8 _)⟩ fun w151 hz => ?_
      clear q mX9 X8 X9 S y2 w149; obtain ⟨X8, X9, y2⟩ := hz
      refine hK.out _ _ (Off.ofB y2) fun S => ?_; clear hK K S; refine vP ?_
      revert y2; revert ndX8_X9; revert jX9; revert jX8; revert X9; revert X8; revert v1; revert v0; revert w151
      refine ?b11; rotate_left
      intro w152 v0 v1 X8 X9 jX8 jX9 ndX8_X9 y2
      have S := Off.ofB y2
      refine uY1 (vO 15 fun K hK => ?_)
      have q := X9.o; have mX8 : ¬ (v0 = v1) := (by omega)
      go_simp
      refine vW (fun W => HB W v0 28 #[.int .u64 ph, .int .u64 pl] ∧ HB W v1 28 #[.int .u64 qh, .int .u64 ql] ∧ Below w117.heap.size w117 W) ⟨((X8.other mX8 0 _).other mX8 1 _), ((X9.set 0 _).set 1 _), ((y2.setCell (p := ⟨v1, 0, none⟩) jX9 _).setCell (p := ⟨v1, 1, none⟩) jX9 _)⟩ fun w154 hz => ?_
      clear q mX8 X8 X9 S y2 w152; obtain ⟨X8, X9, y2⟩ := hz
      refine hK.out _ _ (Off.ofB y2) fun S => ?_; clear hK K S; refine vP ?_
      revert y2; revert ndX8_X9; revert jX9; revert jX8; revert X9; revert X8; revert v1; revert v0; revert w154
      refine ?b12; rotate_left
      intro w155 v0 v1 X8 X9 jX8 jX9 ndX8_X9 y2
      refine vD ?_
      have gX8 : w.heap.size ≤ v0 := by have := kk.size; omega
      have gX9 : w.heap.size ≤ v1 := by have := kk.size; omega
      have oX8 := X8.o
      have oX9 := X9.o
      rcases HL with l1 | ⟨l1, l2, l3⟩
      all_goals
        go_wp2_with fail
        refine vM (h8.out _ (ft.later (bC kk y2))) fun w156 b156 => ?_
        clear oX8 oX9
        go_wp2_with fail
        go_ret
        exact ⟨rfl, (bC kk (bC y2 b156))⟩
  · as_aux_lemma =>
      go_wp2_with fail
      clear oX5 oX6
      have hfd1 : ∀ w : World, (Instr.field 31 (.agg #[.int .u64 ph, .int .u64 pl, .int .u8 pf]) 0).run Tryz.prog w = .ok (.agg #[.int .u64 ph, .int .u64 pl]) w := fun _ => by kernel_rfl
      have hfd2 : ∀ w : World, (Instr.field 31 (.agg #[.int .u64 qh, .int .u64 ql, .int .u8 qf]) 0).run Tryz.prog w = .ok (.agg #[.int .u64 qh, .int .u64 ql]) w := fun _ => by kernel_rfl
      replace X0 := X0.later y1
      refine vR [] fun w117 kz117 S => ?_
      refine uT 0 S ?_
      refine uT 1 S ?_ (hy := by intro wq hb; have q := (hb.hb X0 (by simp)).o; go_simp; try (with_reducible rfl))
      refine uT 2 S ?_ (hy := by intro wq hb; have q := (hb.hb X5 (by simp)).o; go_simp; try (with_reducible rfl))
      refine uT 3 S ?_ (hy := by intro wq hb; have q := (hb.hb X7 (by simp)).o; go_simp; try (with_reducible rfl))
      refine uT 6 S ?_
      refine uT 7 S ?_ (hy := by intro wq hb; have q := (hb.hb X0 (by simp)).o; go_simp; try (with_reducible rfl))
      refine uT 8 S ?_ (hy := by intro wq hb; have q := (hb.hb X6 (by simp)).o; go_simp; try (with_reducible rfl))
      refine uT 9 S ?_ (hy := by intro wq hb; have q := (hb.hb X7 (by simp)).o; go_simp; try (with_reducible rfl))
      refine uY3 (cC 4 S (h6.out _ (ft.later (bC (bC bP y1) kz117))) fun w118 b118 => ?_) (cA 12 S fun w119 pp116_0 h X8 b119 => ?_) (cA 13 S fun w120 pp116_1 h X9 b120 => ?_)
      replace kz117 := bC kz117 b118
      refine uT 5 (Off.ofB kz117) ?_
      clear S b118 w117
      revert kz117; revert w118
      refine ?s117c_0; rotate_left
      have jX8 := (Nat.le_trans kz117.size h); replace kz117 := bC kz117 b119
      clear S b119 h w117
      revert kz117; revert jX8; revert X8; revert pp116_0; revert w119
      refine ?s117c_1; rotate_left
      have jX9 := (Nat.le_trans kz117.size h); replace kz117 := bC kz117 b120
      clear S b120 h w117
      revert kz117; revert jX9; revert X9; revert pp116_1; revert w120
      refine ?s117c_2; rotate_left
      intro w121 kz117
      have S := Off.ofB kz117
      refine uY3 (cC 10 S (h7.out _ (ft.later (bC (bC bP y1) kz117))) fun w122 b122 => ?_) (cA 12 S fun w123 pp116_0 h X8 b123 => ?_) (cA 13 S fun w124 pp116_1 h X9 b124 => ?_)
      replace kz117 := bC kz117 b122
      refine uT 11 (Off.ofB kz117) ?_
      clear S b122 w121
      revert kz117; revert w122
      refine ?s117c_3; rotate_left
      have jX8 := (Nat.le_trans kz117.size h); replace kz117 := bC kz117 b123
      clear S b123 h w121
      revert kz117; revert jX8; revert X8; revert pp116_0; revert w123
      refine ?s117c_4; rotate_left
      have jX9 := (Nat.le_trans kz117.size h); replace kz117 := bC kz117 b124
      clear S b124 h w121
      revert kz117; revert jX9; revert X9; revert pp116_1; revert w124
      refine ?s117c_5; rotate_left
      intro w125 pp116_0 X8 jX8 kz117
      have S := Off.ofB kz117
      refine uY2 (cC 4 S (h6.out _ (ft.later (bC (bC bP y1) kz117))) fun w126 b126 => ?_) (cA 13 S fun w127 pp116_1 h X9 b127 => ?_)
      replace X8 := (X8.later b126); replace kz117 := bC kz117 b126
      refine uT 5 (Off.ofB kz117) ?_
      clear S b126 w125
      revert kz117; revert jX8; revert X8; revert pp116_0; revert w126
      exact ?s117c_4
      have ndX8_X9 : ¬ (pp116_0 = pp116_1) := (oL X8.lt h); have jX9 := (Nat.le_trans kz117.size h); replace X8 := (X8.later b127); replace kz117 := bC kz117 b127
      clear S b127 h w125
      revert kz117; revert ndX8_X9; revert jX9; revert jX8; revert X9; revert X8; revert pp116_1; revert pp116_0; revert w127
      refine ?s117c_6; rotate_left
      intro w128 pp116_1 X9 jX9 kz117
      have S := Off.ofB kz117
      refine uY2 (cC 4 S (h6.out _ (ft.later (bC (bC bP y1) kz117))) fun w129 b129 => ?_) (cA 12 S fun w130 pp116_0 h X8 b130 => ?s117c_6 w130 pp116_0 pp116_1 X8 (X9.later b130) (Nat.le_trans kz117.size h) jX9 (oG X9.lt h) (bC kz117 b130))
      replace X9 := (X9.later b129); replace kz117 := bC kz117 b129
      refine uT 5 (Off.ofB kz117) ?_
      clear S b129 w128
      revert kz117; revert jX9; revert X9; revert pp116_1; revert w129
      exact ?s117c_5
      intro w131 kz117
      have S := Off.ofB kz117
      refine uY2 (cA 12 S fun w132 pp116_0 h X8 b132 => ?_) (cA 13 S fun w133 pp116_1 h X9 b133 => ?_)
      have jX8 := (Nat.le_trans kz117.size h); replace kz117 := bC kz117 b132
      clear S b132 h w131
      revert kz117; revert jX8; revert X8; revert pp116_0; revert w132
      refine ?s117c_7; rotate_left
      have jX9 := (Nat.le_trans kz117.size h); replace kz117 := bC kz117 b133
      clear S b133 h w131
      revert kz117; revert jX9; revert X9; revert pp116_1; revert w133
      refine ?s117c_8; rotate_left
      intro w134 pp116_0 X8 jX8 kz117
      have S := Off.ofB kz117
      refine uY2 (cC 10 S (h7.out _ (ft.later (bC (bC bP y1) kz117))) fun w135 b135 => ?_) (cA 13 S fun w136 pp116_1 h X9 b136 => ?_)
      replace X8 := (X8.later b135); replace kz117 := bC kz117 b135
      refine uT 11 (Off.ofB kz117) ?_
      clear S b135 w134
      revert kz117; revert jX8; revert X8; revert pp116_0; revert w135
      exact ?s117c_7
      have ndX8_X9 : ¬ (pp116_0 = pp116_1) := (oL X8.lt h); have jX9 := (Nat.le_trans kz117.size h); replace X8 := (X8.later b136); replace kz117 := bC kz117 b136
      clear S b136 h w134
      revert kz117; revert ndX8_X9; revert jX9; revert jX8; revert X9; revert X8; revert pp116_1; revert pp116_0; revert w136
      refine ?s117c_9; rotate_left
      intro w137 pp116_1 X9 jX9 kz117
      have S := Off.ofB kz117
      refine uY2 (cC 10 S (h7.out _ (ft.later (bC (bC bP y1) kz117))) fun w138 b138 => ?_) (cA 12 S fun w139 pp116_0 h X8 b139 => ?s117c_9 w139 pp116_0 pp116_1 X8 (X9.later b139) (Nat.le_trans kz117.size h) jX9 (oG X9.lt h) (bC kz117 b139))
      replace X9 := (X9.later b138); replace kz117 := bC kz117 b138
      refine uT 11 (Off.ofB kz117) ?_
      clear S b138 w137
      revert kz117; revert jX9; revert X9; revert pp116_1; revert w138
      exact ?s117c_8
      intro w140 pp116_0 pp116_1 X8 X9 jX8 jX9 ndX8_X9 kz117
      have S := Off.ofB kz117
      refine uY1 (cC 4 S (h6.out _ (ft.later (bC (bC bP y1) kz117))) fun w141 b141 => ?_)
      replace X8 := (X8.later b141); replace X9 := (X9.later b141); replace kz117 := bC kz117 b141
      refine uT 5 (Off.ofB kz117) ?_
      clear S b141 w140
      revert kz117; revert ndX8_X9; revert jX9; revert jX8; revert X9; revert X8; revert pp116_1; revert pp116_0; revert w141
      exact ?s117c_9
      intro w142 pp116_0 X8 jX8 kz117
      have S := Off.ofB kz117
      refine uY1 (cA 13 S fun w143 pp116_1 h X9 b143 => ?_)
      have ndX8_X9 : ¬ (pp116_0 = pp116_1) := (oL X8.lt h); have jX9 := (Nat.le_trans kz117.size h); replace X8 := (X8.later b143); replace kz117 := bC kz117 b143
      clear S b143 h w142
      revert kz117; revert ndX8_X9; revert jX9; revert jX8; revert X9; revert X8; revert pp116_1; revert pp116_0; revert w143
      refine ?s117c_10; rotate_left
      intro w144 pp116_1 X9 jX9 kz117
      have S := Off.ofB kz117
      refine uY1 (cA 12 S fun w145 pp116_0 h X8 b145 => ?s117c_10 w145 pp116_0 pp116_1 X8 (X9.later b145) (Nat.le_trans kz117.size h) jX9 (oG X9.lt h) (bC kz117 b145))
      intro w146 pp116_0 pp116_1 X8 X9 jX8 jX9 ndX8_X9 kz117
      have S := Off.ofB kz117
      refine uY1 (cC 10 S (h7.out _ (ft.later (bC (bC bP y1) kz117))) fun w147 b147 => ?_)
      replace X8 := (X8.later b147); replace X9 := (X9.later b147); replace kz117 := bC kz117 b147
      refine uT 11 (Off.ofB kz117) ?_
      clear S b147 w146
      revert kz117; revert ndX8_X9; revert jX9; revert jX8; revert X9; revert X8; revert pp116_1; revert pp116_0; revert w147
      exact ?s117c_10
      intro w148 pp116_0 pp116_1 X8 X9 jX8 jX9 ndX8_X9 kz117
      have S := Off.ofB kz117
      refine uY1 (vO 14 fun K hK => ?_)
      have q := X8.o; have mX9 : ¬ (pp116_1 = pp116_0) := (by omega)
      go_simp
      refine vW (fun W => HB W pp116_0 28 #[.int .u64 ph, .int .u64 pl] ∧ HB W pp116_1 28 #[.int .u64 0, .int .u64 0] ∧ Below w116.heap.size w116 W) ⟨((X8.set 0 _).set 1 _), ((X9.other mX9 0 _).other mX9 1 _), ((kz117.setCell (p := ⟨pp116_0, 0, none⟩) jX8 _).setCell (p := ⟨pp116_0, 1, none⟩) jX8 _)⟩ fun w150 hz => ?_
      clear q mX9 X8 X9 S kz117 w148; obtain ⟨X8, X9, kz117⟩ := hz
      refine hK.out _ _ (Off.ofB kz117) fun S => ?_; clear hK K S; refine vP ?_
      revert kz117; revert ndX8_X9; revert jX9; revert jX8; revert X9; revert X8; revert pp116_1; revert pp116_0; revert w150
      refine ?s117c_11; rotate_left
      intro w151 pp116_0 pp116_1 X8 X9 jX8 jX9 ndX8_X9 kz117
      have S := Off.ofB kz117
      refine uY1 (vO 15 fun K hK => ?_)
      have q := X9.o; have mX8 : ¬ (pp116_0 = pp116_1) := (by omega)
      go_simp
      refine vW (fun W => HB W pp116_0 28 #[.int .u64 ph, .int .u64 pl] ∧ HB W pp116_1 28 #[.int .u64 qh, .int .u64 ql] ∧ Below w116.heap.size w116 W) ⟨((X8.other mX8 0 _).other mX8 1 _), ((X9.set 0 _).set 1 _), ((kz117.setCell (p := ⟨pp116_1, 0, none⟩) jX9 _).setCell (p := ⟨pp116_1, 1, none⟩) jX9 _)⟩ fun w153 hz => ?_
      clear q mX8 X8 X9 S kz117 w151; obtain ⟨X8, X9, kz117⟩ := hz
      refine hK.out _ _ (Off.ofB kz117) fun S => ?_; clear hK K S; refine vP ?_
      revert kz117; revert ndX8_X9; revert jX9; revert jX8; revert X9; revert X8; revert pp116_1; revert pp116_0; revert w153
      refine ?s117c_12; rotate_left
      intro w154 pp116_0 pp116_1 X8 X9 jX8 jX9 ndX8_X9 kz117
      refine vD ?_
      have nX0_X8 : w.heap.size < pp116_0 := by have := X0.lt; omega
      have nX0_X9 : w.heap.size < pp116_1 := by have := X0.lt; omega
      have nX5_X8 : u0 < pp116_0 := by have := X5.lt; omega
      have nX5_X9 : u0 < pp116_1 := by have := X5.lt; omega
      have nX6_X8 : u1 < pp116_0 := by have := X6.lt; omega
      have nX6_X9 : u1 < pp116_1 := by have := X6.lt; omega
      have nX7_X8 : u2 < pp116_0 := by have := X7.lt; omega
      have nX7_X9 : u2 < pp116_1 := by have := X7.lt; omega
      have gX8 : w.heap.size ≤ pp116_0 := by have := (bC bP y1).size; omega
      have gX9 : w.heap.size ≤ pp116_1 := by have := (bC bP y1).size; omega
      have oX8 := X8.o
      have oX9 := X9.o
      rcases HL with l1 | ⟨l1, l2, l3⟩
      all_goals
        go_wp2_with fail
        refine vM (h8.out _ (ft.later (bC (bC bP y1) kz117))) fun w155 b155 => ?_
        clear oX8 oX9
        go_wp2_with fail
        go_ret
        exact ⟨rfl, (bC (bC (bC bP y1) kz117) b155)⟩
  · as_aux_lemma =>
      go_wp2_with fail
      clear oX5 oX6
      have hfd1 : ∀ w : World, (Instr.field 31 (.agg #[.int .u64 ph, .int .u64 pl, .int .u8 pf]) 0).run Tryz.prog w = .ok (.agg #[.int .u64 ph, .int .u64 pl]) w := fun _ => by kernel_rfl
      have hfd2 : ∀ w : World, (Instr.field 31 (.agg #[.int .u64 qh, .int .u64 ql, .int .u8 qf]) 0).run Tryz.prog w = .ok (.agg #[.int .u64 qh, .int .u64 ql]) w := fun _ => by kernel_rfl
      replace X0 := X0.later y1
      refine vR [] fun w117 kz117 S => ?_
      refine uT 0 S ?_
      refine uT 1 S ?_ (hy := by intro wq hb; have q := (hb.hb X0 (by simp)).o; go_simp; try (with_reducible rfl))
      refine uT 2 S ?_ (hy := by intro wq hb; have q := (hb.hb X5 (by simp)).o; go_simp; try (with_reducible rfl))
      refine uT 3 S ?_ (hy := by intro wq hb; have q := (hb.hb X7 (by simp)).o; go_simp; try (with_reducible rfl))
      refine uT 6 S ?_
      refine uT 7 S ?_ (hy := by intro wq hb; have q := (hb.hb X0 (by simp)).o; go_simp; try (with_reducible rfl))
      refine uT 8 S ?_ (hy := by intro wq hb; have q := (hb.hb X6 (by simp)).o; go_simp; try (with_reducible rfl))
      refine uT 9 S ?_ (hy := by intro wq hb; have q := (hb.hb X7 (by simp)).o; go_simp; try (with_reducible rfl))
      refine uY3 (cC 4 S (h6.out _ (ft.later (bC (bC bP y1) kz117))) fun w118 b118 => ?_) (cA 12 S fun w119 pp116_0 h X8 b119 => ?_) (cA 13 S fun w120 pp116_1 h X9 b120 => ?_)
      replace kz117 := bC kz117 b118
      refine uT 5 (Off.ofB kz117) ?_
      clear S b118 w117
      revert kz117; revert w118
      refine ?s117d_0; rotate_left
      have jX8 := (Nat.le_trans kz117.size h); replace kz117 := bC kz117 b119
      clear S b119 h w117
      revert kz117; revert jX8; revert X8; revert pp116_0; revert w119
      refine ?s117d_1; rotate_left
      have jX9 := (Nat.le_trans kz117.size h); replace kz117 := bC kz117 b120
      clear S b120 h w117
      revert kz117; revert jX9; revert X9; revert pp116_1; revert w120
      refine ?s117d_2; rotate_left
      intro w121 kz117
      have S := Off.ofB kz117
      refine uY3 (cC 10 S (h7.out _ (ft.later (bC (bC bP y1) kz117))) fun w122 b122 => ?_) (cA 12 S fun w123 pp116_0 h X8 b123 => ?_) (cA 13 S fun w124 pp116_1 h X9 b124 => ?_)
      replace kz117 := bC kz117 b122
      refine uT 11 (Off.ofB kz117) ?_
      clear S b122 w121
      revert kz117; revert w122
      refine ?s117d_3; rotate_left
      have jX8 := (Nat.le_trans kz117.size h); replace kz117 := bC kz117 b123
      clear S b123 h w121
      revert kz117; revert jX8; revert X8; revert pp116_0; revert w123
      refine ?s117d_4; rotate_left
      have jX9 := (Nat.le_trans kz117.size h); replace kz117 := bC kz117 b124
      clear S b124 h w121
      revert kz117; revert jX9; revert X9; revert pp116_1; revert w124
      refine ?s117d_5; rotate_left
      intro w125 pp116_0 X8 jX8 kz117
      have S := Off.ofB kz117
      refine uY2 (cC 4 S (h6.out _ (ft.later (bC (bC bP y1) kz117))) fun w126 b126 => ?_) (cA 13 S fun w127 pp116_1 h X9 b127 => ?_)
      replace X8 := (X8.later b126); replace kz117 := bC kz117 b126
      refine uT 5 (Off.ofB kz117) ?_
      clear S b126 w125
      revert kz117; revert jX8; revert X8; revert pp116_0; revert w126
      exact ?s117d_4
      have ndX8_X9 : ¬ (pp116_0 = pp116_1) := (oL X8.lt h); have jX9 := (Nat.le_trans kz117.size h); replace X8 := (X8.later b127); replace kz117 := bC kz117 b127
      clear S b127 h w125
      revert kz117; revert ndX8_X9; revert jX9; revert jX8; revert X9; revert X8; revert pp116_1; revert pp116_0; revert w127
      refine ?s117d_6; rotate_left
      intro w128 pp116_1 X9 jX9 kz117
      have S := Off.ofB kz117
      refine uY2 (cC 4 S (h6.out _ (ft.later (bC (bC bP y1) kz117))) fun w129 b129 => ?_) (cA 12 S fun w130 pp116_0 h X8 b130 => ?s117d_6 w130 pp116_0 pp116_1 X8 (X9.later b130) (Nat.le_trans kz117.size h) jX9 (oG X9.lt h) (bC kz117 b130))
      replace X9 := (X9.later b129); replace kz117 := bC kz117 b129
      refine uT 5 (Off.ofB kz117) ?_
      clear S b129 w128
      revert kz117; revert jX9; revert X9; revert pp116_1; revert w129
      exact ?s117d_5
      intro w131 kz117
      have S := Off.ofB kz117
      refine uY2 (cA 12 S fun w132 pp116_0 h X8 b132 => ?_) (cA 13 S fun w133 pp116_1 h X9 b133 => ?_)
      have jX8 := (Nat.le_trans kz117.size h); replace kz117 := bC kz117 b132
      clear S b132 h w131
      revert kz117; revert jX8; revert X8; revert pp116_0; revert w132
      refine ?s117d_7; rotate_left
      have jX9 := (Nat.le_trans kz117.size h); replace kz117 := bC kz117 b133
      clear S b133 h w131
      revert kz117; revert jX9; revert X9; revert pp116_1; revert w133
      refine ?s117d_8; rotate_left
      intro w134 pp116_0 X8 jX8 kz117
      have S := Off.ofB kz117
      refine uY2 (cC 10 S (h7.out _ (ft.later (bC (bC bP y1) kz117))) fun w135 b135 => ?_) (cA 13 S fun w136 pp116_1 h X9 b136 => ?_)
      replace X8 := (X8.later b135); replace kz117 := bC kz117 b135
      refine uT 11 (Off.ofB kz117) ?_
      clear S b135 w134
      revert kz117; revert jX8; revert X8; revert pp116_0; revert w135
      exact ?s117d_7
      have ndX8_X9 : ¬ (pp116_0 = pp116_1) := (oL X8.lt h); have jX9 := (Nat.le_trans kz117.size h); replace X8 := (X8.later b136); replace kz117 := bC kz117 b136
      clear S b136 h w134
      revert kz117; revert ndX8_X9; revert jX9; revert jX8; revert X9; revert X8; revert pp116_1; revert pp116_0; revert w136
      refine ?s117d_9; rotate_left
      intro w137 pp116_1 X9 jX9 kz117
      have S := Off.ofB kz117
      refine uY2 (cC 10 S (h7.out _ (ft.later (bC (bC bP y1) kz117))) fun w138 b138 => ?_) (cA 12 S fun w139 pp116_0 h X8 b139 => ?s117d_9 w139 pp116_0 pp116_1 X8 (X9.later b139) (Nat.le_trans kz117.size h) jX9 (oG X9.lt h) (bC kz117 b139))
      replace X9 := (X9.later b138); replace kz117 := bC kz117 b138
      refine uT 11 (Off.ofB kz117) ?_
      clear S b138 w137
      revert kz117; revert jX9; revert X9; revert pp116_1; revert w138
      exact ?s117d_8
      intro w140 pp116_0 pp116_1 X8 X9 jX8 jX9 ndX8_X9 kz117
      have S := Off.ofB kz117
      refine uY1 (cC 4 S (h6.out _ (ft.later (bC (bC bP y1) kz117))) fun w141 b141 => ?_)
      replace X8 := (X8.later b141); replace X9 := (X9.later b141); replace kz117 := bC kz117 b141
      refine uT 5 (Off.ofB kz117) ?_
      clear S b141 w140
      revert kz117; revert ndX8_X9; revert jX9; revert jX8; revert X9; revert X8; revert pp116_1; revert pp116_0; revert w141
      exact ?s117d_9
      intro w142 pp116_0 X8 jX8 kz117
      have S := Off.ofB kz117
      refine uY1 (cA 13 S fun w143 pp116_1 h X9 b143 => ?_)
      have ndX8_X9 : ¬ (pp116_0 = pp116_1) := (oL X8.lt h); have jX9 := (Nat.le_trans kz117.size h); replace X8 := (X8.later b143); replace kz117 := bC kz117 b143
      clear S b143 h w142
      revert kz117; revert ndX8_X9; revert jX9; revert jX8; revert X9; revert X8; revert pp116_1; revert pp116_0; revert w143
      refine ?s117d_10; rotate_left
      intro w144 pp116_1 X9 jX9 kz117
      have S := Off.ofB kz117
      refine uY1 (cA 12 S fun w145 pp116_0 h X8 b145 => ?s117d_10 w145 pp116_0 pp116_1 X8 (X9.later b145) (Nat.le_trans kz117.size h) jX9 (oG X9.lt h) (bC kz117 b145))
      intro w146 pp116_0 pp116_1 X8 X9 jX8 jX9 ndX8_X9 kz117
      have S := Off.ofB kz117
      refine uY1 (cC 10 S (h7.out _ (ft.later (bC (bC bP y1) kz117))) fun w147 b147 => ?_)
      replace X8 := (X8.later b147); replace X9 := (X9.later b147); replace kz117 := bC kz117 b147
      refine uT 11 (Off.ofB kz117) ?_
      clear S b147 w146
      revert kz117; revert ndX8_X9; revert jX9; revert jX8; revert X9; revert X8; revert pp116_1; revert pp116_0; revert w147
      exact ?s117d_10
      intro w148 pp116_0 pp116_1 X8 X9 jX8 jX9 ndX8_X9 kz117
      have S := Off.ofB kz117
      refine uY1 (vO 14 fun K hK => ?_)
      have q := X8.o; have mX9 : ¬ (pp116_1 = pp116_0) := (by omega)
      go_simp
      refine vW (fun W => HB W pp116_0 28 #[.int .u64 ph, .int .u64 pl] ∧ HB W pp116_1 28 #[.int .u64 0, .int .u64 0] ∧ Below w116.heap.size w116 W) ⟨((X8.set 0 _).set 1 _), ((X9.other mX9 0 _).other mX9 1 _), ((kz117.setCell (p := ⟨pp116_0, 0, none⟩) jX8 _).setCell (p := ⟨pp116_0, 1, none⟩) jX8 _)⟩ fun w150 hz => ?_
      clear q mX9 X8 X9 S kz117 w148; obtain ⟨X8, X9, kz117⟩ := hz
      refine hK.out _ _ (Off.ofB kz117) fun S => ?_; clear hK K S; refine vP ?_
      revert kz117; revert ndX8_X9; revert jX9; revert jX8; revert X9; revert X8; revert pp116_1; revert pp116_0; revert w150
      refine ?s117d_11; rotate_left
      intro w151 pp116_0 pp116_1 X8 X9 jX8 jX9 ndX8_X9 kz117
      have S := Off.ofB kz117
      refine uY1 (vO 15 fun K hK => ?_)
      have q := X9.o; have mX8 : ¬ (pp116_0 = pp116_1) := (by omega)
      go_simp
      refine vW (fun W => HB W pp116_0 28 #[.int .u64 ph, .int .u64 pl] ∧ HB W pp116_1 28 #[.int .u64 qh, .int .u64 ql] ∧ Below w116.heap.size w116 W) ⟨((X8.other mX8 0 _).other mX8 1 _), ((X9.set 0 _).set 1 _), ((kz117.setCell (p := ⟨pp116_1, 0, none⟩) jX9 _).setCell (p := ⟨pp116_1, 1, none⟩) jX9 _)⟩ fun w153 hz => ?_
      clear q mX8 X8 X9 S kz117 w151; obtain ⟨X8, X9, kz117⟩ := hz
      refine hK.out _ _ (Off.ofB kz117) fun S => ?_; clear hK K S; refine vP ?_
      revert kz117; revert ndX8_X9; revert jX9; revert jX8; revert X9; revert X8; revert pp116_1; revert pp116_0; revert w153
      refine ?s117d_12; rotate_left
      intro w154 pp116_0 pp116_1 X8 X9 jX8 jX9 ndX8_X9 kz117
      refine vD ?_
      have nX0_X8 : w.heap.size < pp116_0 := by have := X0.lt; omega
      have nX0_X9 : w.heap.size < pp116_1 := by have := X0.lt; omega
      have nX5_X8 : u0 < pp116_0 := by have := X5.lt; omega
      have nX5_X9 : u0 < pp116_1 := by have := X5.lt; omega
      have nX6_X8 : u1 < pp116_0 := by have := X6.lt; omega
      have nX6_X9 : u1 < pp116_1 := by have := X6.lt; omega
      have nX7_X8 : u2 < pp116_0 := by have := X7.lt; omega
      have nX7_X9 : u2 < pp116_1 := by have := X7.lt; omega
      have gX8 : w.heap.size ≤ pp116_0 := by have := (bC bP y1).size; omega
      have gX9 : w.heap.size ≤ pp116_1 := by have := (bC bP y1).size; omega
      have oX8 := X8.o
      have oX9 := X9.o
      rcases HL with l1 | ⟨l1, l2, l3⟩
      all_goals
        go_wp2_with fail
        refine vM (h8.out _ (ft.later (bC (bC bP y1) kz117))) fun w155 b155 => ?_
        clear oX8 oX9
        go_wp2_with fail
        go_ret
        exact ⟨rfl, (bC (bC (bC bP y1) kz117) b155)⟩



end Go.Proofs.YtjnohbpebdnngaaGreatDoor
