/-
  The walk of the statement AddsubNear.
-/
import Derived.Test.YtnaamckhignjeaaGreatDoorAdd18M
import Derived.Test.YtnaamckhignjeaaGreatDoorW2
import Derived.Test.YtnaamckhignjeaaGreatDoorGfA
import Derived.Test.YtnaamckhignjeaaGreatDoorGhA
import Derived.Test.YtnaamckhignjeaaGreatDoorGaA
import Derived.Test.YtnaamckhignjeaaGreatDoorGoes18
import Derived.Test.YtnaamckhignjeaaGreatDoorSize18
set_option linter.unusedVariables false
set_option linter.unusedSimpArgs false
set_option maxRecDepth 100000
namespace Go.Proofs.YtnaamckhignjeaaGreatDoor
open Go.RowKit
attribute [local go_sem ↓] Go.wp_at_zero Go.wp_at_succ

set_option maxHeartbeats 4000000 in
theorem near18_nf (f m ah al bh bl mm : Int) (t : Bool)
    (h0 : Hid (∀ w, FTab w → Ca 19 #[.int .u8 f] w (.bool false)))
    (h3 : Hid (∀ w, FTab w → Ca 13 #[] w (.bool true))) (m2 : m.tmod 5 = mm) (m3 : m % 5 = mm) (w : World) (ft : FTab w) :
    Ca 8 #[.int .u8 f, .agg #[.int .u8 m, .bool t], U2 ah al, U2 bh bl] w (.bool true) := by
  simp only [Ca, U2] at *
  go_enter Tryz.func8, Tryz.ntmps8
  go_wp2_with fail
  refine vM (h0.out _ (ft.later (bA (bA (bA (Below.refl _ _) _) _) _))) fun w1 b1 => ?_
  go_wp2_with fail
  refine vM (h3.out _ (ft.later (bC (bA (bA (bA (Below.refl _ _) _) _) _) b1))) fun w2 b2 => ?_
  go_wp2_with fail
  go_ret
  exact ⟨rfl, (bC (bC (bA (bA (bA (Below.refl _ _) _) _) _) b1) b2)⟩

set_option maxHeartbeats 4000000 in
theorem near18_na (f m ah al bh bl mm : Int) (t : Bool)
    (h0 : Hid (∀ w, FTab w → Ca 19 #[.int .u8 f] w (.bool true)))
    (h1 : Hid (∀ w, FTab w → Ca 20 #[.int .u8 f, U2 ah al] w (.bool false)))
    (h3 : Hid (∀ w, FTab w → Ca 13 #[] w (.bool true))) (m2 : m.tmod 5 = mm) (m3 : m % 5 = mm) (w : World) (ft : FTab w) :
    Ca 8 #[.int .u8 f, .agg #[.int .u8 m, .bool t], U2 ah al, U2 bh bl] w (.bool true) := by
  simp only [Ca, U2] at *
  go_enter Tryz.func8, Tryz.ntmps8
  go_wp2_with fail
  refine vM (h0.out _ (ft.later (bA (bA (bA (Below.refl _ _) _) _) _))) fun w1 b1 => ?_
  have X1 := ((HB.newAt (b := w.heap.size + 1) (by simp) _ _).alloc _).later b1
  have oX1 := X1.o
  go_wp2_with fail
  refine vM (h1.out _ (ft.later (bC (bA (bA (bA (Below.refl _ _) _) _) _) b1))) fun w2 b2 => ?_
  clear oX1
  go_wp2_with fail
  refine vM (h3.out _ (ft.later (bC (bC (bA (bA (bA (Below.refl _ _) _) _) _) b1) b2))) fun w3 b3 => ?_
  go_wp2_with fail
  go_ret
  exact ⟨rfl, (bC (bC (bC (bA (bA (bA (Below.refl _ _) _) _) _) b1) b2) b3)⟩

set_option maxHeartbeats 4000000 in
theorem near18_nb (f m ah al bh bl mm : Int) (t : Bool)
    (h0 : Hid (∀ w, FTab w → Ca 19 #[.int .u8 f] w (.bool true)))
    (h1 : Hid (∀ w, FTab w → Ca 20 #[.int .u8 f, U2 ah al] w (.bool true)))
    (h2 : Hid (∀ w, FTab w → Ca 20 #[.int .u8 f, U2 bh bl] w (.bool false)))
    (h3 : Hid (∀ w, FTab w → Ca 13 #[] w (.bool true))) (m2 : m.tmod 5 = mm) (m3 : m % 5 = mm) (w : World) (ft : FTab w) :
    Ca 8 #[.int .u8 f, .agg #[.int .u8 m, .bool t], U2 ah al, U2 bh bl] w (.bool true) := by
  simp only [Ca, U2] at *
  go_enter Tryz.func8, Tryz.ntmps8
  go_wp2_with fail
  refine vM (h0.out _ (ft.later (bA (bA (bA (Below.refl _ _) _) _) _))) fun w1 b1 => ?_
  have X1 := ((HB.newAt (b := w.heap.size + 1) (by simp) _ _).alloc _).later b1
  have X2 := (HB.newAt (b := w.heap.size + 1 + 1) (by simp) _ _).later b1
  have oX1 := X1.o
  go_wp2_with fail
  refine vM (h1.out _ (ft.later (bC (bA (bA (bA (Below.refl _ _) _) _) _) b1))) fun w2 b2 => ?_
  clear oX1
  replace X2 := X2.later b2
  have oX2 := X2.o
  go_wp2_with fail
  refine vM (h2.out _ (ft.later (bC (bC (bA (bA (bA (Below.refl _ _) _) _) _) b1) b2))) fun w3 b3 => ?_
  clear oX2
  go_wp2_with fail
  refine vM (h3.out _ (ft.later (bC (bC (bC (bA (bA (bA (Below.refl _ _) _) _) _) b1) b2) b3))) fun w4 b4 => ?_
  go_wp2_with fail
  go_ret
  exact ⟨rfl, (bC (bC (bC (bC (bA (bA (bA (Below.refl _ _) _) _) _) b1) b2) b3) b4)⟩

set_option maxHeartbeats 4000000 in
theorem near18_turn (f m ah al bh bl mm c d9 r q9 dh dl xh xl yh yl w_h w_l sh sl wf : Int) (t sa sb : Bool)
    (h0 : Hid (∀ w, FTab w → Ca 19 #[.int .u8 f] w (.bool true)))
    (h1 : Hid (∀ w, FTab w → Ca 20 #[.int .u8 f, U2 ah al] w (.bool true)))
    (h2 : Hid (∀ w, FTab w → Ca 20 #[.int .u8 f, U2 bh bl] w (.bool true)))
    (h3 : Hid (∀ w, FTab w → Ca 21 #[.int .u8 f, U2 ah al] w (.tuple #[.int .u8 c, .bool sa])))
    (h4 : Hid (∀ w, FTab w → Ca 21 #[.int .u8 f, U2 bh bl] w (.tuple #[.int .u8 d9, .bool sb])))
    (h5 : Hid (∀ w, FTab w → Ca 17 #[.int .u8 f, U2 bh bl] w (U2 dh dl)))
    (h6 : Hid (∀ w, FTab w → Ca 28 #[.int .u8 f, U2 ah al] w (U2 xh xl)))
    (h7 : Hid (∀ w, FTab w → Ca 28 #[.int .u8 f, U2 dh dl] w (U2 yh yl)))
    (h8 : Hid (∀ w, Ca 29 #[U2 xh xl, U2 yh yl] w (.int .i64 r))) (m2 : m.tmod 5 = mm) (m3 : m % 5 = mm) (gn : (sa == sb) = false)
    (HH : ((decide (0 < r) = true) ∧ (decide (q9 < 0) = true) ∧ Hid (∀ w, FTab w → Ca 11 #[.int .u8 f, .agg #[.int .u8 4, .bool false], U2 yh yl, U2 yh yl] w (.agg #[.int .u64 w_h, .int .u64 w_l, .int .u8 wf])) ∧ Hid (∀ w, Ca 29 #[U2 w_h w_l, U2 xh xl] w (.int .i64 q9)) ∧ Hid (∀ w, FTab w → Ca 13 #[] w (.bool true))) ∨ ((decide (0 < r) = true) ∧ (decide (q9 < 0) = false) ∧ Hid (∀ w, FTab w → Ca 11 #[.int .u8 f, .agg #[.int .u8 4, .bool false], U2 yh yl, U2 yh yl] w (.agg #[.int .u64 w_h, .int .u64 w_l, .int .u8 wf])) ∧ Hid (∀ w, Ca 29 #[U2 w_h w_l, U2 xh xl] w (.int .i64 q9)) ∧ Hid (∀ w, FTab w → Ca 16 #[.int .u8 f, .agg #[.int .u8 mm, .bool t], U2 ah al, U2 dh dl] w (.agg #[.int .u64 sh, .int .u64 sl, .int .u8 0])) ∧ Hid (∀ w, FTab w → Ca 13 #[] w (.bool true))) ∨ ((decide (0 < r) = false) ∧ (decide (q9 < 0) = true) ∧ Hid (∀ w, FTab w → Ca 11 #[.int .u8 f, .agg #[.int .u8 4, .bool false], U2 xh xl, U2 xh xl] w (.agg #[.int .u64 w_h, .int .u64 w_l, .int .u8 wf])) ∧ Hid (∀ w, Ca 29 #[U2 w_h w_l, U2 yh yl] w (.int .i64 q9)) ∧ Hid (∀ w, FTab w → Ca 13 #[] w (.bool true))) ∨ ((decide (0 < r) = false) ∧ (decide (q9 < 0) = false) ∧ Hid (∀ w, FTab w → Ca 11 #[.int .u8 f, .agg #[.int .u8 4, .bool false], U2 xh xl, U2 xh xl] w (.agg #[.int .u64 w_h, .int .u64 w_l, .int .u8 wf])) ∧ Hid (∀ w, Ca 29 #[U2 w_h w_l, U2 yh yl] w (.int .i64 q9)) ∧ Hid (∀ w, FTab w → Ca 16 #[.int .u8 f, .agg #[.int .u8 mm, .bool t], U2 ah al, U2 dh dl] w (.agg #[.int .u64 sh, .int .u64 sl, .int .u8 0])) ∧ Hid (∀ w, FTab w → Ca 13 #[] w (.bool true)))) (w : World) (ft : FTab w) :
    Ca 8 #[.int .u8 f, .agg #[.int .u8 m, .bool t], U2 ah al, U2 bh bl] w (.bool true) := by
  simp only [Ca, U2] at *
  go_enter Tryz.func8, Tryz.ntmps8
  go_wp2_with fail
  refine vM (h0.out _ (ft.later (bA (bA (bA (Below.refl _ _) _) _) _))) fun w1 b1 => ?_
  have gX2 : w.heap.size ≤ w.heap.size + 1 + 1 := by omega
  have X0 := (((HB.newAt (b := w.heap.size) (by simp) _ _).alloc _).alloc _).later b1
  have X1 := ((HB.newAt (b := w.heap.size + 1) (by simp) _ _).alloc _).later b1
  have X2 := (HB.newAt (b := w.heap.size + 1 + 1) (by simp) _ _).later b1
  have oX1 := X1.o
  go_wp2_with fail
  refine vM (h1.out _ (ft.later (bC (bA (bA (bA (Below.refl _ _) _) _) _) b1))) fun w2 b2 => ?_
  clear oX1
  replace X2 := X2.later b2
  have oX2 := X2.o
  go_wp2_with fail
  refine vM (h2.out _ (ft.later (bC (bC (bA (bA (bA (Below.refl _ _) _) _) _) b1) b2))) fun w3 b3 => ?_
  clear oX2
  replace X1 := X1.later (bC b2 b3)
  have oX1 := X1.o
  go_wp2_with fail
  refine vM (h3.out _ (ft.later (bC (bC (bC (bA (bA (bA (Below.refl _ _) _) _) _) b1) b2) b3))) fun w4 b4 => ?_
  clear oX1
  replace X2 := X2.later (bC b3 b4)
  have oX2 := X2.o
  go_wp2_with fail
  refine vM (h4.out _ (ft.later (bC (bC (bC (bC (bA (bA (bA (Below.refl _ _) _) _) _) b1) b2) b3) b4))) fun w5 b5 => ?_
  clear oX2
  replace X2 := X2.later b5
  have oX2 := X2.o
  go_wp2_with fail
  refine vM (h5.out _ (ft.later (bC (bC (bC (bC (bC (bA (bA (bA (Below.refl _ _) _) _) _) b1) b2) b3) b4) b5))) fun w6 b6 => ?_
  clear oX2
  replace X2 := X2.later b6
  have oX2 := X2.o
  replace X0 := X0.later (bC (bC (bC (bC b2 b3) b4) b5) b6)
  replace X1 := X1.later (bC (bC b4 b5) b6)
  go_wp2_with fail
  refine wp_forget (fun W => HB W w.heap.size 25 #[.int .u8 mm, .bool t] ∧ HB W (w.heap.size + 1) 28 #[.int .u64 ah, .int .u64 al] ∧ HB W (w.heap.size + 1 + 1) 28 #[.int .u64 dh, .int .u64 dl] ∧ Below w.heap.size w W) ⟨((X0.other (by omega) 0 _).other (by omega) 1 _), ((X1.other (by omega) 0 _).other (by omega) 1 _), ((X2.set 0 _).set 1 _), (((bC (bC (bC (bC (bC (bC (bA (bA (bA (Below.refl _ _) _) _) _) b1) b2) b3) b4) b5) b6).setCell (p := ⟨w.heap.size + 1 + 1, 0, none⟩) gX2 _).setCell (p := ⟨w.heap.size + 1 + 1, 1, none⟩) gX2 _)⟩ (fun w7 hst => ?_)
  obtain ⟨X0, X1, X2, kk⟩ := hst
  clear oX2
  refine vR [] fun w8 kz8 S => ?_
  refine vT 0 S ?_
  refine vT 1 S ?_ (hy := by intro wq hb; have q := (hb.hb X1 (by simp)).o; go_simp; try (with_reducible rfl))
  refine vT 3 S ?_
  refine vT 4 S ?_ (hy := by intro wq hb; have q := (hb.hb X2 (by simp)).o; go_simp; try (with_reducible rfl))
  refine vY3 (cC 2 S (h6.out _ (ft.later (bC kk kz8))) fun w9 b9 => ?_) (cA 6 S fun w10 pp7_0 h X3 b10 => ?_) (cA 7 S fun w11 pp7_1 h X4 b11 => ?_)
  replace kz8 := bC kz8 b9
  clear S b9 w8
  revert kz8; revert w9
  refine ?s8_0; rotate_left
  have jX3 := (Nat.le_trans kz8.size h); replace kz8 := bC kz8 b10
  clear S b10 h w8
  revert kz8; revert jX3; revert X3; revert pp7_0; revert w10
  refine ?s8_1; rotate_left
  have jX4 := (Nat.le_trans kz8.size h); replace kz8 := bC kz8 b11
  clear S b11 h w8
  revert kz8; revert jX4; revert X4; revert pp7_1; revert w11
  refine ?s8_2; rotate_left
  intro w12 kz8
  have S := Off.ofB kz8
  refine vY3 (cC 5 S (h7.out _ (ft.later (bC kk kz8))) fun w13 b13 => ?_) (cA 6 S fun w14 pp7_0 h X3 b14 => ?_) (cA 7 S fun w15 pp7_1 h X4 b15 => ?_)
  replace kz8 := bC kz8 b13
  clear S b13 w12
  revert kz8; revert w13
  refine ?s8_3; rotate_left
  have jX3 := (Nat.le_trans kz8.size h); replace kz8 := bC kz8 b14
  clear S b14 h w12
  revert kz8; revert jX3; revert X3; revert pp7_0; revert w14
  refine ?s8_4; rotate_left
  have jX4 := (Nat.le_trans kz8.size h); replace kz8 := bC kz8 b15
  clear S b15 h w12
  revert kz8; revert jX4; revert X4; revert pp7_1; revert w15
  refine ?s8_5; rotate_left
  intro w16 pp7_0 X3 jX3 kz8
  have S := Off.ofB kz8
  refine vY2 (cC 2 S (h6.out _ (ft.later (bC kk kz8))) fun w17 b17 => ?s8_4 w17 pp7_0 (X3.later b17) jX3 (bC kz8 b17)) (cA 7 S fun w18 pp7_1 h X4 b18 => ?_)
  have ndX3_X4 : ¬ (pp7_0 = pp7_1) := (Nat.ne_of_lt (Nat.lt_of_lt_of_le X3.lt h)); have jX4 := (Nat.le_trans kz8.size h); replace X3 := (X3.later b18); replace kz8 := bC kz8 b18
  clear S b18 h w16
  revert kz8; revert ndX3_X4; revert jX4; revert jX3; revert X4; revert X3; revert pp7_1; revert pp7_0; revert w18
  refine ?s8_6; rotate_left
  intro w19 pp7_1 X4 jX4 kz8
  have S := Off.ofB kz8
  refine vY2 (cC 2 S (h6.out _ (ft.later (bC kk kz8))) fun w20 b20 => ?s8_5 w20 pp7_1 (X4.later b20) jX4 (bC kz8 b20)) (cA 6 S fun w21 pp7_0 h X3 b21 => ?s8_6 w21 pp7_0 pp7_1 X3 (X4.later b21) (Nat.le_trans kz8.size h) jX4 (Nat.ne_of_gt (Nat.lt_of_lt_of_le X4.lt h)) (bC kz8 b21))
  intro w22 kz8
  have S := Off.ofB kz8
  refine vY2 (cA 6 S fun w23 pp7_0 h X3 b23 => ?_) (cA 7 S fun w24 pp7_1 h X4 b24 => ?_)
  have jX3 := (Nat.le_trans kz8.size h); replace kz8 := bC kz8 b23
  clear S b23 h w22
  revert kz8; revert jX3; revert X3; revert pp7_0; revert w23
  refine ?s8_7; rotate_left
  have jX4 := (Nat.le_trans kz8.size h); replace kz8 := bC kz8 b24
  clear S b24 h w22
  revert kz8; revert jX4; revert X4; revert pp7_1; revert w24
  refine ?s8_8; rotate_left
  intro w25 pp7_0 X3 jX3 kz8
  have S := Off.ofB kz8
  refine vY2 (cC 5 S (h7.out _ (ft.later (bC kk kz8))) fun w26 b26 => ?s8_7 w26 pp7_0 (X3.later b26) jX3 (bC kz8 b26)) (cA 7 S fun w27 pp7_1 h X4 b27 => ?_)
  have ndX3_X4 : ¬ (pp7_0 = pp7_1) := (Nat.ne_of_lt (Nat.lt_of_lt_of_le X3.lt h)); have jX4 := (Nat.le_trans kz8.size h); replace X3 := (X3.later b27); replace kz8 := bC kz8 b27
  clear S b27 h w25
  revert kz8; revert ndX3_X4; revert jX4; revert jX3; revert X4; revert X3; revert pp7_1; revert pp7_0; revert w27
  refine ?s8_9; rotate_left
  intro w28 pp7_1 X4 jX4 kz8
  have S := Off.ofB kz8
  refine vY2 (cC 5 S (h7.out _ (ft.later (bC kk kz8))) fun w29 b29 => ?s8_8 w29 pp7_1 (X4.later b29) jX4 (bC kz8 b29)) (cA 6 S fun w30 pp7_0 h X3 b30 => ?s8_9 w30 pp7_0 pp7_1 X3 (X4.later b30) (Nat.le_trans kz8.size h) jX4 (Nat.ne_of_gt (Nat.lt_of_lt_of_le X4.lt h)) (bC kz8 b30))
  intro w31 pp7_0 pp7_1 X3 X4 jX3 jX4 ndX3_X4 kz8
  have S := Off.ofB kz8
  refine vY1 (cC 2 S (h6.out _ (ft.later (bC kk kz8))) fun w32 b32 => ?s8_9 w32 pp7_0 pp7_1 (X3.later b32) (X4.later b32) jX3 jX4 ndX3_X4 (bC kz8 b32))
  intro w33 pp7_0 X3 jX3 kz8
  have S := Off.ofB kz8
  refine vY1 (cA 7 S fun w34 pp7_1 h X4 b34 => ?_)
  have ndX3_X4 : ¬ (pp7_0 = pp7_1) := (Nat.ne_of_lt (Nat.lt_of_lt_of_le X3.lt h)); have jX4 := (Nat.le_trans kz8.size h); replace X3 := (X3.later b34); replace kz8 := bC kz8 b34
  clear S b34 h w33
  revert kz8; revert ndX3_X4; revert jX4; revert jX3; revert X4; revert X3; revert pp7_1; revert pp7_0; revert w34
  refine ?s8_10; rotate_left
  intro w35 pp7_1 X4 jX4 kz8
  have S := Off.ofB kz8
  refine vY1 (cA 6 S fun w36 pp7_0 h X3 b36 => ?s8_10 w36 pp7_0 pp7_1 X3 (X4.later b36) (Nat.le_trans kz8.size h) jX4 (Nat.ne_of_gt (Nat.lt_of_lt_of_le X4.lt h)) (bC kz8 b36))
  intro w37 pp7_0 pp7_1 X3 X4 jX3 jX4 ndX3_X4 kz8
  have S := Off.ofB kz8
  refine vY1 (cC 5 S (h7.out _ (ft.later (bC kk kz8))) fun w38 b38 => ?s8_10 w38 pp7_0 pp7_1 (X3.later b38) (X4.later b38) jX3 jX4 ndX3_X4 (bC kz8 b38))
  intro w39 pp7_0 pp7_1 X3 X4 jX3 jX4 ndX3_X4 kz8
  have S := Off.ofB kz8
  refine vY1 (vO 8 fun K hK => ?_)
  have q := X3.o; have mX4 : ¬ (pp7_1 = pp7_0) := by omega
  go_simp
  refine vW (fun W => HB W pp7_0 28 #[.int .u64 xh, .int .u64 xl] ∧ HB W pp7_1 28 #[.int .u64 0, .int .u64 0] ∧ Below w7.heap.size w7 W) ⟨((X3.set 0 _).set 1 _), ((X4.other mX4 0 _).other mX4 1 _), ((kz8.setCell (p := ⟨pp7_0, 0, none⟩) jX3 _).setCell (p := ⟨pp7_0, 1, none⟩) jX3 _)⟩ fun w41 hz => ?_
  clear q mX4 X3 X4 S kz8 w39; obtain ⟨X3, X4, kz8⟩ := hz
  refine hK.out _ _ (Off.ofB kz8) fun S => ?_; clear hK K S; refine vP ?_
  revert kz8; revert ndX3_X4; revert jX4; revert jX3; revert X4; revert X3; revert pp7_1; revert pp7_0; revert w41
  refine ?s8_11; rotate_left
  intro w42 pp7_0 pp7_1 X3 X4 jX3 jX4 ndX3_X4 kz8
  have S := Off.ofB kz8
  refine vY1 (vO 9 fun K hK => ?_)
  have q := X4.o; have mX3 : ¬ (pp7_0 = pp7_1) := by omega
  go_simp
  refine vW (fun W => HB W pp7_0 28 #[.int .u64 xh, .int .u64 xl] ∧ HB W pp7_1 28 #[.int .u64 yh, .int .u64 yl] ∧ Below w7.heap.size w7 W) ⟨((X3.other mX3 0 _).other mX3 1 _), ((X4.set 0 _).set 1 _), ((kz8.setCell (p := ⟨pp7_1, 0, none⟩) jX4 _).setCell (p := ⟨pp7_1, 1, none⟩) jX4 _)⟩ fun w44 hz => ?_
  clear q mX3 X3 X4 S kz8 w42; obtain ⟨X3, X4, kz8⟩ := hz
  refine hK.out _ _ (Off.ofB kz8) fun S => ?_; clear hK K S; refine vP ?_
  revert kz8; revert ndX3_X4; revert jX4; revert jX3; revert X4; revert X3; revert pp7_1; revert pp7_0; revert w44
  refine ?s8_12; rotate_left
  intro w45 pp7_0 pp7_1 X3 X4 jX3 jX4 ndX3_X4 kz8
  refine vD ?_
  have nX0_X3 : w.heap.size < pp7_0 := by have := X0.lt; omega
  have nX0_X4 : w.heap.size < pp7_1 := by have := X0.lt; omega
  have nX1_X3 : w.heap.size + 1 < pp7_0 := by have := X1.lt; omega
  have nX1_X4 : w.heap.size + 1 < pp7_1 := by have := X1.lt; omega
  have nX2_X3 : w.heap.size + 1 + 1 < pp7_0 := by have := X2.lt; omega
  have nX2_X4 : w.heap.size + 1 + 1 < pp7_1 := by have := X2.lt; omega
  have gX3 : w.heap.size ≤ pp7_0 := by have := kk.size; omega
  have gX4 : w.heap.size ≤ pp7_1 := by have := kk.size; omega
  have oX3 := X3.o
  have oX4 := X4.o
  go_wp2_with fail
  refine vM (h8.out _) fun w46 b46 => ?_
  rcases HH with ⟨gr, gq, h9, h10, h11⟩ | ⟨gr, gq, h9, h10, h11, h12⟩ | ⟨gr, gq, h9, h10, h11⟩ | ⟨gr, gq, h9, h10, h11, h12⟩
  · clear oX3 oX4
    replace X4 := X4.later b46
    have oX4 := X4.o
    replace X3 := X3.later b46
    have oX3 := X3.o
    have mX4_X3 : ¬ (pp7_1 = pp7_0) := by omega
    have mX3_X4 : ¬ (pp7_0 = pp7_1) := by omega
    replace X0 := X0.later (bC kz8 b46)
    replace X1 := X1.later (bC kz8 b46)
    replace X2 := X2.later (bC kz8 b46)
    go_wp2_with fail
    refine vM (h9.out _ (ft.later (((((bC kk (bC kz8 b46)).setCell (p := ⟨pp7_0, 0, none⟩) gX3 _).setCell (p := ⟨pp7_0, 1, none⟩) gX3 _).setCell (p := ⟨pp7_1, 0, none⟩) gX4 _).setCell (p := ⟨pp7_1, 1, none⟩) gX4 _))) fun w47 b47 => ?_
    replace X0 := ((((X0.other (by omega) 0 _).other (by omega) 1 _).other (by omega) 0 _).other (by omega) 1 _).later b47
    replace X1 := ((((X1.other (by omega) 0 _).other (by omega) 1 _).other (by omega) 0 _).other (by omega) 1 _).later b47
    replace X2 := ((((X2.other (by omega) 0 _).other (by omega) 1 _).other (by omega) 0 _).other (by omega) 1 _).later b47
    replace X4 := ((((X4.other (by omega) 0 _).other (by omega) 1 _).set 0 _).set 1 _).later b47
    have kk := bC (((((bC kk (bC kz8 b46)).setCell (p := ⟨pp7_0, 0, none⟩) gX3 _).setCell (p := ⟨pp7_0, 1, none⟩) gX3 _).setCell (p := ⟨pp7_1, 0, none⟩) gX4 _).setCell (p := ⟨pp7_1, 1, none⟩) gX4 _) b47
    clear oX4 oX3 mX4_X3 mX3_X4
    have oX4 := X4.o
    go_wp2_with fail
    refine vM (h10.out _) fun w48 b48 => ?_
    clear oX4
    go_wp2_with fail
    refine vM (h11.out _ (ft.later (bC kk (bC (bA (Below.refl _ _) _) b48)))) fun w49 b49 => ?_
    go_wp2_with fail
    go_ret
    exact ⟨rfl, (bC kk (bC (bC (bA (Below.refl _ _) _) b48) b49))⟩
  · clear oX3 oX4
    replace X4 := X4.later b46
    have oX4 := X4.o
    replace X3 := X3.later b46
    have oX3 := X3.o
    have mX4_X3 : ¬ (pp7_1 = pp7_0) := by omega
    have mX3_X4 : ¬ (pp7_0 = pp7_1) := by omega
    replace X0 := X0.later (bC kz8 b46)
    replace X1 := X1.later (bC kz8 b46)
    replace X2 := X2.later (bC kz8 b46)
    go_wp2_with fail
    refine vM (h9.out _ (ft.later (((((bC kk (bC kz8 b46)).setCell (p := ⟨pp7_0, 0, none⟩) gX3 _).setCell (p := ⟨pp7_0, 1, none⟩) gX3 _).setCell (p := ⟨pp7_1, 0, none⟩) gX4 _).setCell (p := ⟨pp7_1, 1, none⟩) gX4 _))) fun w47 b47 => ?_
    replace X0 := ((((X0.other (by omega) 0 _).other (by omega) 1 _).other (by omega) 0 _).other (by omega) 1 _).later b47
    replace X1 := ((((X1.other (by omega) 0 _).other (by omega) 1 _).other (by omega) 0 _).other (by omega) 1 _).later b47
    replace X2 := ((((X2.other (by omega) 0 _).other (by omega) 1 _).other (by omega) 0 _).other (by omega) 1 _).later b47
    replace X4 := ((((X4.other (by omega) 0 _).other (by omega) 1 _).set 0 _).set 1 _).later b47
    have kk := bC (((((bC kk (bC kz8 b46)).setCell (p := ⟨pp7_0, 0, none⟩) gX3 _).setCell (p := ⟨pp7_0, 1, none⟩) gX3 _).setCell (p := ⟨pp7_1, 0, none⟩) gX4 _).setCell (p := ⟨pp7_1, 1, none⟩) gX4 _) b47
    clear oX4 oX3 mX4_X3 mX3_X4
    have oX4 := X4.o
    go_wp2_with fail
    refine vM (h10.out _) fun w48 b48 => ?_
    clear oX4
    replace X0 := X0.later (bC (bA (Below.refl _ _) _) b48)
    have oX0 := X0.o
    replace X1 := X1.later (bC (bA (Below.refl _ _) _) b48)
    have oX1 := X1.o
    replace X2 := X2.later (bC (bA (Below.refl _ _) _) b48)
    have oX2 := X2.o
    go_wp2_with fail
    refine vM (h11.out _ (ft.later (bC kk (bC (bA (Below.refl _ _) _) b48)))) fun w49 b49 => ?_
    clear oX0 oX1 oX2
    have hfd1 : ∀ w : World, (Instr.field 31 (.agg #[.int .u64 sh, .int .u64 sl, .int .u8 0]) 1).run Tryz.prog w = .ok (.int .u8 0) w := fun _ => by kernel_rfl
    go_wp2_with fail
    refine vM (h12.out _ (ft.later (bC kk (bC (bC (bA (Below.refl _ _) _) b48) b49)))) fun w50 b50 => ?_
    go_wp2_with fail
    go_ret
    exact ⟨rfl, (bC kk (bC (bC (bC (bA (Below.refl _ _) _) b48) b49) b50))⟩
  · clear oX3 oX4
    replace X3 := X3.later b46
    have oX3 := X3.o
    go_wp2_with fail
    refine vM (h9.out _ (ft.later (bC kk (bC kz8 b46)))) fun w47 b47 => ?_
    clear oX3
    replace X4 := X4.later (bC b46 b47)
    have oX4 := X4.o
    go_wp2_with fail
    refine vM (h10.out _) fun w48 b48 => ?_
    replace X2 := X2.later (bC (bC kz8 b46) b47)
    have nX2_X5 : w.heap.size + 1 + 1 < w47.heap.size := by have := X2.lt; omega
    have nX4_X5 : pp7_1 < w47.heap.size := by have := X4.lt; omega
    have X5 := (HB.newAt (b := w47.heap.size) (by simp) _ _).later b48
    clear oX4
    go_wp2_with fail
    refine vM (h11.out _ (ft.later (bC kk (bC (bC (bC kz8 b46) b47) (bC (bA (Below.refl _ _) _) b48))))) fun w49 b49 => ?_
    go_wp2_with fail
    go_ret
    exact ⟨rfl, (bC kk (bC (bC (bC (bC kz8 b46) b47) (bC (bA (Below.refl _ _) _) b48)) b49))⟩
  · clear oX3 oX4
    replace X3 := X3.later b46
    have oX3 := X3.o
    go_wp2_with fail
    refine vM (h9.out _ (ft.later (bC kk (bC kz8 b46)))) fun w47 b47 => ?_
    clear oX3
    replace X4 := X4.later (bC b46 b47)
    have oX4 := X4.o
    go_wp2_with fail
    refine vM (h10.out _) fun w48 b48 => ?_
    replace X2 := X2.later (bC (bC kz8 b46) b47)
    have nX2_X5 : w.heap.size + 1 + 1 < w47.heap.size := by have := X2.lt; omega
    have nX4_X5 : pp7_1 < w47.heap.size := by have := X4.lt; omega
    have X5 := (HB.newAt (b := w47.heap.size) (by simp) _ _).later b48
    clear oX4
    replace X0 := X0.later (bC (bC (bC kz8 b46) b47) (bC (bA (Below.refl _ _) _) b48))
    have oX0 := X0.o
    replace X1 := X1.later (bC (bC (bC kz8 b46) b47) (bC (bA (Below.refl _ _) _) b48))
    have oX1 := X1.o
    replace X2 := X2.later (bC (bA (Below.refl _ _) _) b48)
    have oX2 := X2.o
    go_wp2_with fail
    refine vM (h11.out _ (ft.later (bC kk (bC (bC (bC kz8 b46) b47) (bC (bA (Below.refl _ _) _) b48))))) fun w49 b49 => ?_
    clear oX0 oX1 oX2
    have hfd1 : ∀ w : World, (Instr.field 31 (.agg #[.int .u64 sh, .int .u64 sl, .int .u8 0]) 1).run Tryz.prog w = .ok (.int .u8 0) w := fun _ => by kernel_rfl
    go_wp2_with fail
    refine vM (h12.out _ (ft.later (bC kk (bC (bC (bC (bC kz8 b46) b47) (bC (bA (Below.refl _ _) _) b48)) b49)))) fun w50 b50 => ?_
    go_wp2_with fail
    go_ret
    exact ⟨rfl, (bC kk (bC (bC (bC (bC (bC kz8 b46) b47) (bC (bA (Below.refl _ _) _) b48)) b49) b50))⟩

set_option maxHeartbeats 4000000 in
theorem near18_same (f m ah al bh bl mm c d9 r q9 dh dl xh xl yh yl w_h w_l sh sl wf : Int) (t sa sb : Bool)
    (h0 : Hid (∀ w, FTab w → Ca 19 #[.int .u8 f] w (.bool true)))
    (h1 : Hid (∀ w, FTab w → Ca 20 #[.int .u8 f, U2 ah al] w (.bool true)))
    (h2 : Hid (∀ w, FTab w → Ca 20 #[.int .u8 f, U2 bh bl] w (.bool true)))
    (h3 : Hid (∀ w, FTab w → Ca 21 #[.int .u8 f, U2 ah al] w (.tuple #[.int .u8 c, .bool sa])))
    (h4 : Hid (∀ w, FTab w → Ca 21 #[.int .u8 f, U2 bh bl] w (.tuple #[.int .u8 d9, .bool sb])))
    (h5 : Hid (∀ w, FTab w → Ca 28 #[.int .u8 f, U2 ah al] w (U2 xh xl)))
    (h6 : Hid (∀ w, FTab w → Ca 28 #[.int .u8 f, U2 bh bl] w (U2 yh yl)))
    (h7 : Hid (∀ w, Ca 29 #[U2 xh xl, U2 yh yl] w (.int .i64 r))) (m2 : m.tmod 5 = mm) (m3 : m % 5 = mm) (gn : (sa == sb) = true)
    (HH : ((decide (0 < r) = true) ∧ (decide (q9 < 0) = true) ∧ Hid (∀ w, FTab w → Ca 11 #[.int .u8 f, .agg #[.int .u8 4, .bool false], U2 yh yl, U2 yh yl] w (.agg #[.int .u64 w_h, .int .u64 w_l, .int .u8 wf])) ∧ Hid (∀ w, Ca 29 #[U2 w_h w_l, U2 xh xl] w (.int .i64 q9)) ∧ Hid (∀ w, FTab w → Ca 13 #[] w (.bool true))) ∨ ((decide (0 < r) = true) ∧ (decide (q9 < 0) = false) ∧ Hid (∀ w, FTab w → Ca 11 #[.int .u8 f, .agg #[.int .u8 4, .bool false], U2 yh yl, U2 yh yl] w (.agg #[.int .u64 w_h, .int .u64 w_l, .int .u8 wf])) ∧ Hid (∀ w, Ca 29 #[U2 w_h w_l, U2 xh xl] w (.int .i64 q9)) ∧ Hid (∀ w, FTab w → Ca 16 #[.int .u8 f, .agg #[.int .u8 mm, .bool t], U2 ah al, U2 bh bl] w (.agg #[.int .u64 sh, .int .u64 sl, .int .u8 0])) ∧ Hid (∀ w, FTab w → Ca 13 #[] w (.bool true))) ∨ ((decide (0 < r) = false) ∧ (decide (q9 < 0) = true) ∧ Hid (∀ w, FTab w → Ca 11 #[.int .u8 f, .agg #[.int .u8 4, .bool false], U2 xh xl, U2 xh xl] w (.agg #[.int .u64 w_h, .int .u64 w_l, .int .u8 wf])) ∧ Hid (∀ w, Ca 29 #[U2 w_h w_l, U2 yh yl] w (.int .i64 q9)) ∧ Hid (∀ w, FTab w → Ca 13 #[] w (.bool true))) ∨ ((decide (0 < r) = false) ∧ (decide (q9 < 0) = false) ∧ Hid (∀ w, FTab w → Ca 11 #[.int .u8 f, .agg #[.int .u8 4, .bool false], U2 xh xl, U2 xh xl] w (.agg #[.int .u64 w_h, .int .u64 w_l, .int .u8 wf])) ∧ Hid (∀ w, Ca 29 #[U2 w_h w_l, U2 yh yl] w (.int .i64 q9)) ∧ Hid (∀ w, FTab w → Ca 16 #[.int .u8 f, .agg #[.int .u8 mm, .bool t], U2 ah al, U2 bh bl] w (.agg #[.int .u64 sh, .int .u64 sl, .int .u8 0])) ∧ Hid (∀ w, FTab w → Ca 13 #[] w (.bool true)))) (w : World) (ft : FTab w) :
    Ca 8 #[.int .u8 f, .agg #[.int .u8 m, .bool t], U2 ah al, U2 bh bl] w (.bool true) := by
  simp only [Ca, U2] at *
  go_enter Tryz.func8, Tryz.ntmps8
  go_wp2_with fail
  refine vM (h0.out _ (ft.later (bA (bA (bA (Below.refl _ _) _) _) _))) fun w1 b1 => ?_
  have X0 := (((HB.newAt (b := w.heap.size) (by simp) _ _).alloc _).alloc _).later b1
  have X1 := ((HB.newAt (b := w.heap.size + 1) (by simp) _ _).alloc _).later b1
  have X2 := (HB.newAt (b := w.heap.size + 1 + 1) (by simp) _ _).later b1
  have oX1 := X1.o
  go_wp2_with fail
  refine vM (h1.out _ (ft.later (bC (bA (bA (bA (Below.refl _ _) _) _) _) b1))) fun w2 b2 => ?_
  clear oX1
  replace X2 := X2.later b2
  have oX2 := X2.o
  go_wp2_with fail
  refine vM (h2.out _ (ft.later (bC (bC (bA (bA (bA (Below.refl _ _) _) _) _) b1) b2))) fun w3 b3 => ?_
  clear oX2
  replace X1 := X1.later (bC b2 b3)
  have oX1 := X1.o
  go_wp2_with fail
  refine vM (h3.out _ (ft.later (bC (bC (bC (bA (bA (bA (Below.refl _ _) _) _) _) b1) b2) b3))) fun w4 b4 => ?_
  clear oX1
  replace X2 := X2.later (bC b3 b4)
  have oX2 := X2.o
  go_wp2_with fail
  refine vM (h4.out _ (ft.later (bC (bC (bC (bC (bA (bA (bA (Below.refl _ _) _) _) _) b1) b2) b3) b4))) fun w5 b5 => ?_
  clear oX2
  go_wp2_with fail
  replace X1 := X1.later (bC b4 b5)
  replace X2 := X2.later b5
  refine vR [] fun w6 kz6 S => ?_
  refine vT 0 S ?_
  refine vT 1 S ?_ (hy := by intro wq hb; have q := (hb.hb X1 (by simp)).o; go_simp; try (with_reducible rfl))
  refine vT 3 S ?_
  refine vT 4 S ?_ (hy := by intro wq hb; have q := (hb.hb X2 (by simp)).o; go_simp; try (with_reducible rfl))
  refine vY3 (cC 2 S (h5.out _ (ft.later (bC (bC (bC (bC (bC (bC (bA (bA (bA (Below.refl _ _) _) _) _) b1) b2) b3) b4) b5) kz6))) fun w7 b7 => ?_) (cA 6 S fun w8 pp5_0 h X3 b8 => ?_) (cA 7 S fun w9 pp5_1 h X4 b9 => ?_)
  replace kz6 := bC kz6 b7
  clear S b7 w6
  revert kz6; revert w7
  refine ?s6_0; rotate_left
  have jX3 := (Nat.le_trans kz6.size h); replace kz6 := bC kz6 b8
  clear S b8 h w6
  revert kz6; revert jX3; revert X3; revert pp5_0; revert w8
  refine ?s6_1; rotate_left
  have jX4 := (Nat.le_trans kz6.size h); replace kz6 := bC kz6 b9
  clear S b9 h w6
  revert kz6; revert jX4; revert X4; revert pp5_1; revert w9
  refine ?s6_2; rotate_left
  intro w10 kz6
  have S := Off.ofB kz6
  refine vY3 (cC 5 S (h6.out _ (ft.later (bC (bC (bC (bC (bC (bC (bA (bA (bA (Below.refl _ _) _) _) _) b1) b2) b3) b4) b5) kz6))) fun w11 b11 => ?_) (cA 6 S fun w12 pp5_0 h X3 b12 => ?_) (cA 7 S fun w13 pp5_1 h X4 b13 => ?_)
  replace kz6 := bC kz6 b11
  clear S b11 w10
  revert kz6; revert w11
  refine ?s6_3; rotate_left
  have jX3 := (Nat.le_trans kz6.size h); replace kz6 := bC kz6 b12
  clear S b12 h w10
  revert kz6; revert jX3; revert X3; revert pp5_0; revert w12
  refine ?s6_4; rotate_left
  have jX4 := (Nat.le_trans kz6.size h); replace kz6 := bC kz6 b13
  clear S b13 h w10
  revert kz6; revert jX4; revert X4; revert pp5_1; revert w13
  refine ?s6_5; rotate_left
  intro w14 pp5_0 X3 jX3 kz6
  have S := Off.ofB kz6
  refine vY2 (cC 2 S (h5.out _ (ft.later (bC (bC (bC (bC (bC (bC (bA (bA (bA (Below.refl _ _) _) _) _) b1) b2) b3) b4) b5) kz6))) fun w15 b15 => ?s6_4 w15 pp5_0 (X3.later b15) jX3 (bC kz6 b15)) (cA 7 S fun w16 pp5_1 h X4 b16 => ?_)
  have ndX3_X4 : ¬ (pp5_0 = pp5_1) := (Nat.ne_of_lt (Nat.lt_of_lt_of_le X3.lt h)); have jX4 := (Nat.le_trans kz6.size h); replace X3 := (X3.later b16); replace kz6 := bC kz6 b16
  clear S b16 h w14
  revert kz6; revert ndX3_X4; revert jX4; revert jX3; revert X4; revert X3; revert pp5_1; revert pp5_0; revert w16
  refine ?s6_6; rotate_left
  intro w17 pp5_1 X4 jX4 kz6
  have S := Off.ofB kz6
  refine vY2 (cC 2 S (h5.out _ (ft.later (bC (bC (bC (bC (bC (bC (bA (bA (bA (Below.refl _ _) _) _) _) b1) b2) b3) b4) b5) kz6))) fun w18 b18 => ?s6_5 w18 pp5_1 (X4.later b18) jX4 (bC kz6 b18)) (cA 6 S fun w19 pp5_0 h X3 b19 => ?s6_6 w19 pp5_0 pp5_1 X3 (X4.later b19) (Nat.le_trans kz6.size h) jX4 (Nat.ne_of_gt (Nat.lt_of_lt_of_le X4.lt h)) (bC kz6 b19))
  intro w20 kz6
  have S := Off.ofB kz6
  refine vY2 (cA 6 S fun w21 pp5_0 h X3 b21 => ?_) (cA 7 S fun w22 pp5_1 h X4 b22 => ?_)
  have jX3 := (Nat.le_trans kz6.size h); replace kz6 := bC kz6 b21
  clear S b21 h w20
  revert kz6; revert jX3; revert X3; revert pp5_0; revert w21
  refine ?s6_7; rotate_left
  have jX4 := (Nat.le_trans kz6.size h); replace kz6 := bC kz6 b22
  clear S b22 h w20
  revert kz6; revert jX4; revert X4; revert pp5_1; revert w22
  refine ?s6_8; rotate_left
  intro w23 pp5_0 X3 jX3 kz6
  have S := Off.ofB kz6
  refine vY2 (cC 5 S (h6.out _ (ft.later (bC (bC (bC (bC (bC (bC (bA (bA (bA (Below.refl _ _) _) _) _) b1) b2) b3) b4) b5) kz6))) fun w24 b24 => ?s6_7 w24 pp5_0 (X3.later b24) jX3 (bC kz6 b24)) (cA 7 S fun w25 pp5_1 h X4 b25 => ?_)
  have ndX3_X4 : ¬ (pp5_0 = pp5_1) := (Nat.ne_of_lt (Nat.lt_of_lt_of_le X3.lt h)); have jX4 := (Nat.le_trans kz6.size h); replace X3 := (X3.later b25); replace kz6 := bC kz6 b25
  clear S b25 h w23
  revert kz6; revert ndX3_X4; revert jX4; revert jX3; revert X4; revert X3; revert pp5_1; revert pp5_0; revert w25
  refine ?s6_9; rotate_left
  intro w26 pp5_1 X4 jX4 kz6
  have S := Off.ofB kz6
  refine vY2 (cC 5 S (h6.out _ (ft.later (bC (bC (bC (bC (bC (bC (bA (bA (bA (Below.refl _ _) _) _) _) b1) b2) b3) b4) b5) kz6))) fun w27 b27 => ?s6_8 w27 pp5_1 (X4.later b27) jX4 (bC kz6 b27)) (cA 6 S fun w28 pp5_0 h X3 b28 => ?s6_9 w28 pp5_0 pp5_1 X3 (X4.later b28) (Nat.le_trans kz6.size h) jX4 (Nat.ne_of_gt (Nat.lt_of_lt_of_le X4.lt h)) (bC kz6 b28))
  intro w29 pp5_0 pp5_1 X3 X4 jX3 jX4 ndX3_X4 kz6
  have S := Off.ofB kz6
  refine vY1 (cC 2 S (h5.out _ (ft.later (bC (bC (bC (bC (bC (bC (bA (bA (bA (Below.refl _ _) _) _) _) b1) b2) b3) b4) b5) kz6))) fun w30 b30 => ?s6_9 w30 pp5_0 pp5_1 (X3.later b30) (X4.later b30) jX3 jX4 ndX3_X4 (bC kz6 b30))
  intro w31 pp5_0 X3 jX3 kz6
  have S := Off.ofB kz6
  refine vY1 (cA 7 S fun w32 pp5_1 h X4 b32 => ?_)
  have ndX3_X4 : ¬ (pp5_0 = pp5_1) := (Nat.ne_of_lt (Nat.lt_of_lt_of_le X3.lt h)); have jX4 := (Nat.le_trans kz6.size h); replace X3 := (X3.later b32); replace kz6 := bC kz6 b32
  clear S b32 h w31
  revert kz6; revert ndX3_X4; revert jX4; revert jX3; revert X4; revert X3; revert pp5_1; revert pp5_0; revert w32
  refine ?s6_10; rotate_left
  intro w33 pp5_1 X4 jX4 kz6
  have S := Off.ofB kz6
  refine vY1 (cA 6 S fun w34 pp5_0 h X3 b34 => ?s6_10 w34 pp5_0 pp5_1 X3 (X4.later b34) (Nat.le_trans kz6.size h) jX4 (Nat.ne_of_gt (Nat.lt_of_lt_of_le X4.lt h)) (bC kz6 b34))
  intro w35 pp5_0 pp5_1 X3 X4 jX3 jX4 ndX3_X4 kz6
  have S := Off.ofB kz6
  refine vY1 (cC 5 S (h6.out _ (ft.later (bC (bC (bC (bC (bC (bC (bA (bA (bA (Below.refl _ _) _) _) _) b1) b2) b3) b4) b5) kz6))) fun w36 b36 => ?s6_10 w36 pp5_0 pp5_1 (X3.later b36) (X4.later b36) jX3 jX4 ndX3_X4 (bC kz6 b36))
  intro w37 pp5_0 pp5_1 X3 X4 jX3 jX4 ndX3_X4 kz6
  have S := Off.ofB kz6
  refine vY1 (vO 8 fun K hK => ?_)
  have q := X3.o; have mX4 : ¬ (pp5_1 = pp5_0) := by omega
  go_simp
  refine vW (fun W => HB W pp5_0 28 #[.int .u64 xh, .int .u64 xl] ∧ HB W pp5_1 28 #[.int .u64 0, .int .u64 0] ∧ Below w5.heap.size w5 W) ⟨((X3.set 0 _).set 1 _), ((X4.other mX4 0 _).other mX4 1 _), ((kz6.setCell (p := ⟨pp5_0, 0, none⟩) jX3 _).setCell (p := ⟨pp5_0, 1, none⟩) jX3 _)⟩ fun w39 hz => ?_
  clear q mX4 X3 X4 S kz6 w37; obtain ⟨X3, X4, kz6⟩ := hz
  refine hK.out _ _ (Off.ofB kz6) fun S => ?_; clear hK K S; refine vP ?_
  revert kz6; revert ndX3_X4; revert jX4; revert jX3; revert X4; revert X3; revert pp5_1; revert pp5_0; revert w39
  refine ?s6_11; rotate_left
  intro w40 pp5_0 pp5_1 X3 X4 jX3 jX4 ndX3_X4 kz6
  have S := Off.ofB kz6
  refine vY1 (vO 9 fun K hK => ?_)
  have q := X4.o; have mX3 : ¬ (pp5_0 = pp5_1) := by omega
  go_simp
  refine vW (fun W => HB W pp5_0 28 #[.int .u64 xh, .int .u64 xl] ∧ HB W pp5_1 28 #[.int .u64 yh, .int .u64 yl] ∧ Below w5.heap.size w5 W) ⟨((X3.other mX3 0 _).other mX3 1 _), ((X4.set 0 _).set 1 _), ((kz6.setCell (p := ⟨pp5_1, 0, none⟩) jX4 _).setCell (p := ⟨pp5_1, 1, none⟩) jX4 _)⟩ fun w42 hz => ?_
  clear q mX3 X3 X4 S kz6 w40; obtain ⟨X3, X4, kz6⟩ := hz
  refine hK.out _ _ (Off.ofB kz6) fun S => ?_; clear hK K S; refine vP ?_
  revert kz6; revert ndX3_X4; revert jX4; revert jX3; revert X4; revert X3; revert pp5_1; revert pp5_0; revert w42
  refine ?s6_12; rotate_left
  intro w43 pp5_0 pp5_1 X3 X4 jX3 jX4 ndX3_X4 kz6
  refine vD ?_
  replace X0 := X0.later (bC (bC (bC b2 b3) b4) b5)
  have nX0_X3 : w.heap.size < pp5_0 := by have := X0.lt; omega
  have nX0_X4 : w.heap.size < pp5_1 := by have := X0.lt; omega
  have nX1_X3 : w.heap.size + 1 < pp5_0 := by have := X1.lt; omega
  have nX1_X4 : w.heap.size + 1 < pp5_1 := by have := X1.lt; omega
  have nX2_X3 : w.heap.size + 1 + 1 < pp5_0 := by have := X2.lt; omega
  have nX2_X4 : w.heap.size + 1 + 1 < pp5_1 := by have := X2.lt; omega
  have gX3 : w.heap.size ≤ pp5_0 := by have := (bC (bC (bC (bC (bC (bA (bA (bA (Below.refl _ _) _) _) _) b1) b2) b3) b4) b5).size; omega
  have gX4 : w.heap.size ≤ pp5_1 := by have := (bC (bC (bC (bC (bC (bA (bA (bA (Below.refl _ _) _) _) _) b1) b2) b3) b4) b5).size; omega
  have oX3 := X3.o
  have oX4 := X4.o
  go_wp2_with fail
  refine vM (h7.out _) fun w44 b44 => ?_
  rcases HH with ⟨gr, gq, h8, h9, h10⟩ | ⟨gr, gq, h8, h9, h10, h11⟩ | ⟨gr, gq, h8, h9, h10⟩ | ⟨gr, gq, h8, h9, h10, h11⟩
  · clear oX3 oX4
    replace X4 := X4.later b44
    have oX4 := X4.o
    replace X3 := X3.later b44
    have oX3 := X3.o
    have mX4_X3 : ¬ (pp5_1 = pp5_0) := by omega
    have mX3_X4 : ¬ (pp5_0 = pp5_1) := by omega
    replace X0 := X0.later (bC kz6 b44)
    replace X1 := X1.later (bC kz6 b44)
    replace X2 := X2.later (bC kz6 b44)
    go_wp2_with fail
    refine vM (h8.out _ (ft.later (((((bC (bC (bC (bC (bC (bC (bC (bA (bA (bA (Below.refl _ _) _) _) _) b1) b2) b3) b4) b5) kz6) b44).setCell (p := ⟨pp5_0, 0, none⟩) gX3 _).setCell (p := ⟨pp5_0, 1, none⟩) gX3 _).setCell (p := ⟨pp5_1, 0, none⟩) gX4 _).setCell (p := ⟨pp5_1, 1, none⟩) gX4 _))) fun w45 b45 => ?_
    replace X0 := ((((X0.other (by omega) 0 _).other (by omega) 1 _).other (by omega) 0 _).other (by omega) 1 _).later b45
    replace X1 := ((((X1.other (by omega) 0 _).other (by omega) 1 _).other (by omega) 0 _).other (by omega) 1 _).later b45
    replace X2 := ((((X2.other (by omega) 0 _).other (by omega) 1 _).other (by omega) 0 _).other (by omega) 1 _).later b45
    replace X4 := ((((X4.other (by omega) 0 _).other (by omega) 1 _).set 0 _).set 1 _).later b45
    have kk := bC (((((bC (bC (bC (bC (bC (bC (bC (bA (bA (bA (Below.refl _ _) _) _) _) b1) b2) b3) b4) b5) kz6) b44).setCell (p := ⟨pp5_0, 0, none⟩) gX3 _).setCell (p := ⟨pp5_0, 1, none⟩) gX3 _).setCell (p := ⟨pp5_1, 0, none⟩) gX4 _).setCell (p := ⟨pp5_1, 1, none⟩) gX4 _) b45
    clear oX4 oX3 mX4_X3 mX3_X4
    have oX4 := X4.o
    go_wp2_with fail
    refine vM (h9.out _) fun w46 b46 => ?_
    clear oX4
    go_wp2_with fail
    refine vM (h10.out _ (ft.later (bC kk (bC (bA (Below.refl _ _) _) b46)))) fun w47 b47 => ?_
    go_wp2_with fail
    go_ret
    exact ⟨rfl, (bC kk (bC (bC (bA (Below.refl _ _) _) b46) b47))⟩
  · clear oX3 oX4
    replace X4 := X4.later b44
    have oX4 := X4.o
    replace X3 := X3.later b44
    have oX3 := X3.o
    have mX4_X3 : ¬ (pp5_1 = pp5_0) := by omega
    have mX3_X4 : ¬ (pp5_0 = pp5_1) := by omega
    replace X0 := X0.later (bC kz6 b44)
    replace X1 := X1.later (bC kz6 b44)
    replace X2 := X2.later (bC kz6 b44)
    go_wp2_with fail
    refine vM (h8.out _ (ft.later (((((bC (bC (bC (bC (bC (bC (bC (bA (bA (bA (Below.refl _ _) _) _) _) b1) b2) b3) b4) b5) kz6) b44).setCell (p := ⟨pp5_0, 0, none⟩) gX3 _).setCell (p := ⟨pp5_0, 1, none⟩) gX3 _).setCell (p := ⟨pp5_1, 0, none⟩) gX4 _).setCell (p := ⟨pp5_1, 1, none⟩) gX4 _))) fun w45 b45 => ?_
    replace X0 := ((((X0.other (by omega) 0 _).other (by omega) 1 _).other (by omega) 0 _).other (by omega) 1 _).later b45
    replace X1 := ((((X1.other (by omega) 0 _).other (by omega) 1 _).other (by omega) 0 _).other (by omega) 1 _).later b45
    replace X2 := ((((X2.other (by omega) 0 _).other (by omega) 1 _).other (by omega) 0 _).other (by omega) 1 _).later b45
    replace X4 := ((((X4.other (by omega) 0 _).other (by omega) 1 _).set 0 _).set 1 _).later b45
    have kk := bC (((((bC (bC (bC (bC (bC (bC (bC (bA (bA (bA (Below.refl _ _) _) _) _) b1) b2) b3) b4) b5) kz6) b44).setCell (p := ⟨pp5_0, 0, none⟩) gX3 _).setCell (p := ⟨pp5_0, 1, none⟩) gX3 _).setCell (p := ⟨pp5_1, 0, none⟩) gX4 _).setCell (p := ⟨pp5_1, 1, none⟩) gX4 _) b45
    clear oX4 oX3 mX4_X3 mX3_X4
    have oX4 := X4.o
    go_wp2_with fail
    refine vM (h9.out _) fun w46 b46 => ?_
    clear oX4
    replace X0 := X0.later (bC (bA (Below.refl _ _) _) b46)
    have oX0 := X0.o
    replace X1 := X1.later (bC (bA (Below.refl _ _) _) b46)
    have oX1 := X1.o
    replace X2 := X2.later (bC (bA (Below.refl _ _) _) b46)
    have oX2 := X2.o
    go_wp2_with fail
    refine vM (h10.out _ (ft.later (bC kk (bC (bA (Below.refl _ _) _) b46)))) fun w47 b47 => ?_
    clear oX0 oX1 oX2
    have hfd1 : ∀ w : World, (Instr.field 31 (.agg #[.int .u64 sh, .int .u64 sl, .int .u8 0]) 1).run Tryz.prog w = .ok (.int .u8 0) w := fun _ => by kernel_rfl
    go_wp2_with fail
    refine vM (h11.out _ (ft.later (bC kk (bC (bC (bA (Below.refl _ _) _) b46) b47)))) fun w48 b48 => ?_
    go_wp2_with fail
    go_ret
    exact ⟨rfl, (bC kk (bC (bC (bC (bA (Below.refl _ _) _) b46) b47) b48))⟩
  · clear oX3 oX4
    replace X3 := X3.later b44
    have oX3 := X3.o
    go_wp2_with fail
    refine vM (h8.out _ (ft.later (bC (bC (bC (bC (bC (bC (bC (bA (bA (bA (Below.refl _ _) _) _) _) b1) b2) b3) b4) b5) kz6) b44))) fun w45 b45 => ?_
    clear oX3
    replace X4 := X4.later (bC b44 b45)
    have oX4 := X4.o
    go_wp2_with fail
    refine vM (h9.out _) fun w46 b46 => ?_
    have nX4_X5 : pp5_1 < w45.heap.size := by have := X4.lt; omega
    have X5 := (HB.newAt (b := w45.heap.size) (by simp) _ _).later b46
    clear oX4
    go_wp2_with fail
    refine vM (h10.out _ (ft.later (bC (bC (bC (bC (bC (bC (bC (bC (bC (bA (bA (bA (Below.refl _ _) _) _) _) b1) b2) b3) b4) b5) kz6) b44) b45) (bC (bA (Below.refl _ _) _) b46)))) fun w47 b47 => ?_
    go_wp2_with fail
    go_ret
    exact ⟨rfl, (bC (bC (bC (bC (bC (bC (bC (bC (bC (bC (bA (bA (bA (Below.refl _ _) _) _) _) b1) b2) b3) b4) b5) kz6) b44) b45) (bC (bA (Below.refl _ _) _) b46)) b47)⟩
  · clear oX3 oX4
    replace X3 := X3.later b44
    have oX3 := X3.o
    go_wp2_with fail
    refine vM (h8.out _ (ft.later (bC (bC (bC (bC (bC (bC (bC (bA (bA (bA (Below.refl _ _) _) _) _) b1) b2) b3) b4) b5) kz6) b44))) fun w45 b45 => ?_
    clear oX3
    replace X4 := X4.later (bC b44 b45)
    have oX4 := X4.o
    go_wp2_with fail
    refine vM (h9.out _) fun w46 b46 => ?_
    have nX4_X5 : pp5_1 < w45.heap.size := by have := X4.lt; omega
    have X5 := (HB.newAt (b := w45.heap.size) (by simp) _ _).later b46
    clear oX4
    replace X0 := X0.later (bC (bC (bC kz6 b44) b45) (bC (bA (Below.refl _ _) _) b46))
    have oX0 := X0.o
    replace X1 := X1.later (bC (bC (bC kz6 b44) b45) (bC (bA (Below.refl _ _) _) b46))
    have oX1 := X1.o
    replace X2 := X2.later (bC (bC (bC kz6 b44) b45) (bC (bA (Below.refl _ _) _) b46))
    have oX2 := X2.o
    go_wp2_with fail
    refine vM (h10.out _ (ft.later (bC (bC (bC (bC (bC (bC (bC (bC (bC (bA (bA (bA (Below.refl _ _) _) _) _) b1) b2) b3) b4) b5) kz6) b44) b45) (bC (bA (Below.refl _ _) _) b46)))) fun w47 b47 => ?_
    clear oX0 oX1 oX2
    have hfd1 : ∀ w : World, (Instr.field 31 (.agg #[.int .u64 sh, .int .u64 sl, .int .u8 0]) 1).run Tryz.prog w = .ok (.int .u8 0) w := fun _ => by kernel_rfl
    go_wp2_with fail
    refine vM (h11.out _ (ft.later (bC (bC (bC (bC (bC (bC (bC (bC (bC (bC (bA (bA (bA (Below.refl _ _) _) _) _) b1) b2) b3) b4) b5) kz6) b44) b45) (bC (bA (Below.refl _ _) _) b46)) b47))) fun w48 b48 => ?_
    go_wp2_with fail
    go_ret
    exact ⟨rfl, (bC (bC (bC (bC (bC (bC (bC (bC (bC (bC (bC (bA (bA (bA (Below.refl _ _) _) _) _) b1) b2) b3) b4) b5) kz6) b44) b45) (bC (bA (Below.refl _ _) _) b46)) b47) b48)⟩



end Go.Proofs.YtnaamckhignjeaaGreatDoor
