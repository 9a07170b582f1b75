/-
  The walk of the statement MulSpecial.
-/
import Derived.Test.YtjnohbpebdnngaaGreatDoorMul19M
import Derived.Test.YtjnohbpebdnngaaGreatDoorW2
import Derived.Test.YtjnohbpebdnngaaGreatDoorGaB
import Derived.Test.YtjnohbpebdnngaaGreatDoorGfA
import Derived.Test.YtjnohbpebdnngaaGreatDoorGhA
import Derived.Test.YtjnohbpebdnngaaGreatDoorGaA
import Derived.Test.YtjnohbpebdnngaaGreatDoorGoes19
set_option linter.unusedVariables false
set_option linter.unusedSimpArgs false
set_option maxRecDepth 100000
namespace Go.Proofs.YtjnohbpebdnngaaGreatDoor
open Go.RowKit
attribute [local go_sem ↓] Go.wp_at_zero Go.wp_at_succ

set_option maxHeartbeats 4000000 in
theorem special19_no1 (f m ah al : Int) (t ng : Bool)
    (h0 : Hid (∀ w, FTab w → Ca 22 #[.int .u8 f] w (.bool false)))
    (h3 : Hid (∀ w, FTab w → Ca 13 #[] w (.bool true))) (w : World) (ft : FTab w) :
    Ca 9 #[.int .u8 f, .agg #[.int .u8 m, .bool t], U2 ah al, .bool ng] w (.bool true) := by
  simp only [Ca, U2] at *
  go_enter Tryz.func9, Tryz.ntmps9
  go_wp2_with fail
  refine vM (h0.out _ (ft.later (bA (bA (Below.refl _ _) _) _))) fun w1 b1 => ?_
  go_wp2_with fail
  refine vM (h3.out _ (ft.later (bC (bA (bA (Below.refl _ _) _) _) b1))) fun w2 b2 => ?_
  go_wp2_with fail
  go_ret
  exact ⟨rfl, (bC (bC (bA (bA (Below.refl _ _) _) _) b1) b2)⟩

set_option maxHeartbeats 4000000 in
theorem special19_no2 (f m ah al : Int) (t ng : Bool)
    (h0 : Hid (∀ w, FTab w → Ca 22 #[.int .u8 f] w (.bool true)))
    (h1 : Hid (∀ w, Ca 23 #[.int .u8 m] w (.bool false)))
    (h3 : Hid (∀ w, FTab w → Ca 13 #[] w (.bool true))) (w : World) (ft : FTab w) :
    Ca 9 #[.int .u8 f, .agg #[.int .u8 m, .bool t], U2 ah al, .bool ng] w (.bool true) := by
  simp only [Ca, U2] at *
  go_enter Tryz.func9, Tryz.ntmps9
  go_wp2_with fail
  refine vM (h0.out _ (ft.later (bA (bA (Below.refl _ _) _) _))) fun w1 b1 => ?_
  have X0 := ((HB.newAt (b := w.heap.size) (by simp) _ _).alloc _).later b1
  have oX0 := X0.o
  go_wp2_with fail
  refine vM (h1.out _) fun w2 b2 => ?_
  clear oX0
  go_wp2_with fail
  refine vM (h3.out _ (ft.later (bC (bC (bA (bA (Below.refl _ _) _) _) b1) b2))) fun w3 b3 => ?_
  go_wp2_with fail
  go_ret
  exact ⟨rfl, (bC (bC (bC (bA (bA (Below.refl _ _) _) _) b1) b2) b3)⟩

set_option maxHeartbeats 4000000 in
theorem special19_no3 (f m ah al : Int) (t ng : Bool)
    (h0 : Hid (∀ w, FTab w → Ca 22 #[.int .u8 f] w (.bool true)))
    (h1 : Hid (∀ w, Ca 23 #[.int .u8 m] w (.bool true)))
    (h2 : Hid (∀ w, FTab w → Ca 25 #[.int .u8 f, U2 ah al] w (.bool true)))
    (h3 : Hid (∀ w, FTab w → Ca 13 #[] w (.bool true))) (w : World) (ft : FTab w) :
    Ca 9 #[.int .u8 f, .agg #[.int .u8 m, .bool t], U2 ah al, .bool ng] w (.bool true) := by
  simp only [Ca, U2] at *
  go_enter Tryz.func9, Tryz.ntmps9
  go_wp2_with fail
  refine vM (h0.out _ (ft.later (bA (bA (Below.refl _ _) _) _))) fun w1 b1 => ?_
  have X0 := ((HB.newAt (b := w.heap.size) (by simp) _ _).alloc _).later b1
  have X1 := (HB.newAt (b := w.heap.size + 1) (by simp) _ _).later b1
  have oX0 := X0.o
  go_wp2_with fail
  refine vM (h1.out _) fun w2 b2 => ?_
  clear oX0
  replace X1 := X1.later b2
  have oX1 := X1.o
  go_wp2_with fail
  refine vM (h2.out _ (ft.later (bC (bC (bA (bA (Below.refl _ _) _) _) b1) b2))) fun w3 b3 => ?_
  clear oX1
  go_wp2_with fail
  refine vM (h3.out _ (ft.later (bC (bC (bC (bA (bA (Below.refl _ _) _) _) b1) b2) b3))) fun w4 b4 => ?_
  go_wp2_with fail
  go_ret
  exact ⟨rfl, (bC (bC (bC (bC (bA (bA (Below.refl _ _) _) _) b1) b2) b3) b4)⟩

set_option maxHeartbeats 4000000 in
theorem special19_main (f m ah al c rh rl fl sh sl sf zh zl ih il nh nl jh jl : Int) (t ng na : Bool)
    (h0 : Hid (∀ w, FTab w → Ca 22 #[.int .u8 f] w (.bool true)))
    (h1 : Hid (∀ w, Ca 23 #[.int .u8 m] w (.bool true)))
    (h2 : Hid (∀ w, FTab w → Ca 25 #[.int .u8 f, U2 ah al] w (.bool false)))
    (h3 : Hid (∀ w, FTab w → Ca 32 #[.int .u8 f, U2 ah al] w (.tuple #[.int .u8 c, .bool na])))
    (h4 : Hid (∀ w, FTab w → Ca 34 #[.int .u8 f, .bool ng] w (U2 zh zl)))
    (h5 : Hid (∀ w, FTab w → Ca 11 #[.int .u8 f, .agg #[.int .u8 m, .bool t], U2 ah al, U2 zh zl] w (.agg #[.int .u64 rh, .int .u64 rl, .int .u8 fl])))
    (h6 : Hid (∀ w, FTab w → Ca 35 #[.int .u8 f, .bool ng] w (U2 ih il)))
    (h7 : Hid (∀ w, FTab w → Ca 11 #[.int .u8 f, .agg #[.int .u8 m, .bool t], U2 ah al, U2 ih il] w (.agg #[.int .u64 sh, .int .u64 sl, .int .u8 sf]))) 
    (HH : (((c == 3) = true) ∧ ((fl == 1) = true) ∧ (∀ w, (binOp .eql 31 (.agg #[.int .u64 sh, .int .u64 sl, .int .u8 sf]) (.agg #[.int .u64 jh, .int .u64 jl, .int .u8 0])).run Tryz.prog w = .ok (.bool true) w) ∧ Hid (∀ w, FTab w → Ca 25 #[.int .u8 f, U2 rh rl] w (.bool true)) ∧ Hid (∀ w, FTab w → Ca 35 #[.int .u8 f, .bool ((!(ng == na)))] w (U2 jh jl)) ∧ Hid (∀ w, FTab w → Ca 13 #[] w (.bool true))) ∨ (((c == 3) = false) ∧ ((c == 0) = true) ∧ ((sf == 1) = true) ∧ (∀ w, (binOp .neq 31 (.agg #[.int .u64 rh, .int .u64 rl, .int .u8 fl]) (.agg #[.int .u64 nh, .int .u64 nl, .int .u8 0])).run Tryz.prog w = .ok (.bool false) w) ∧ Hid (∀ w, FTab w → Ca 34 #[.int .u8 f, .bool ((!(ng == na)))] w (U2 nh nl)) ∧ Hid (∀ w, FTab w → Ca 25 #[.int .u8 f, U2 sh sl] w (.bool true)) ∧ Hid (∀ w, FTab w → Ca 13 #[] w (.bool true))) ∨ (((c == 3) = false) ∧ ((c == 0) = false) ∧ (∀ w, (binOp .neq 31 (.agg #[.int .u64 rh, .int .u64 rl, .int .u8 fl]) (.agg #[.int .u64 nh, .int .u64 nl, .int .u8 0])).run Tryz.prog w = .ok (.bool false) w) ∧ (∀ w, (binOp .eql 31 (.agg #[.int .u64 sh, .int .u64 sl, .int .u8 sf]) (.agg #[.int .u64 jh, .int .u64 jl, .int .u8 0])).run Tryz.prog w = .ok (.bool true) w) ∧ Hid (∀ w, FTab w → Ca 34 #[.int .u8 f, .bool ((!(ng == na)))] w (U2 nh nl)) ∧ Hid (∀ w, FTab w → Ca 35 #[.int .u8 f, .bool ((!(ng == na)))] w (U2 jh jl)) ∧ Hid (∀ w, FTab w → Ca 13 #[] w (.bool true)))) (w : World) (ft : FTab w) :
    Ca 9 #[.int .u8 f, .agg #[.int .u8 m, .bool t], U2 ah al, .bool ng] w (.bool true) := by
  simp only [Ca, U2] at *
  go_enter Tryz.func9, Tryz.ntmps9
  go_wp2_with fail
  refine vM (h0.out _ (ft.later (bA (bA (Below.refl _ _) _) _))) fun w1 b1 => ?_
  have X0 := ((HB.newAt (b := w.heap.size) (by simp) _ _).alloc _).later b1
  have X1 := (HB.newAt (b := w.heap.size + 1) (by simp) _ _).later b1
  have oX0 := X0.o
  go_wp2_with fail
  refine vM (h1.out _) fun w2 b2 => ?_
  clear oX0
  replace X1 := X1.later b2
  have oX1 := X1.o
  go_wp2_with fail
  refine vM (h2.out _ (ft.later (bC (bC (bA (bA (Below.refl _ _) _) _) b1) b2))) fun w3 b3 => ?_
  clear oX1
  replace X1 := X1.later b3
  have oX1 := X1.o
  go_wp2_with fail
  refine vM (h3.out _ (ft.later (bC (bC (bC (bA (bA (Below.refl _ _) _) _) b1) b2) b3))) fun w4 b4 => ?_
  clear oX1
  go_wp2_with fail
  replace X0 := X0.later (bC (bC b2 b3) b4)
  replace X1 := X1.later b4
  refine vR [] fun w5 kz5 S => ?_
  refine vT 0 S ?_
  refine vT 1 S ?_ (hy := by intro wq hb; have q := (hb.hb X0 (by simp)).o; go_simp; try (with_reducible rfl))
  refine vT 2 S ?_ (hy := by intro wq hb; have q := (hb.hb X1 (by simp)).o; go_simp; try (with_reducible rfl))
  refine vT 3 S ?_
  refine vT 4 S ?_
  refine vT 7 S ?_
  refine vT 8 S ?_ (hy := by intro wq hb; have q := (hb.hb X0 (by simp)).o; go_simp; try (with_reducible rfl))
  refine vT 9 S ?_ (hy := by intro wq hb; have q := (hb.hb X1 (by simp)).o; go_simp; try (with_reducible rfl))
  refine vT 10 S ?_
  refine vT 11 S ?_
  refine vY3 (cC 5 S (h4.out _ (ft.later (bC (bC (bC (bC (bC (bA (bA (Below.refl _ _) _) _) b1) b2) b3) b4) kz5))) fun w6 b6 => ?_) (cA 14 S fun w7 pp4_0 h X2 b7 => ?_) (cA 15 S fun w8 pp4_1 h X3 b8 => ?_)
  replace kz5 := bC kz5 b6
  clear S b6 w5
  revert kz5; revert w6
  refine ?s5_0; rotate_left
  have jX2 := (Nat.le_trans kz5.size h); replace kz5 := bC kz5 b7
  clear S b7 h w5
  revert kz5; revert jX2; revert X2; revert pp4_0; revert w7
  refine ?s5_1; rotate_left
  have jX3 := (Nat.le_trans kz5.size h); replace kz5 := bC kz5 b8
  clear S b8 h w5
  revert kz5; revert jX3; revert X3; revert pp4_1; revert w8
  refine ?s5_2; rotate_left
  intro w9 kz5
  have S := Off.ofB kz5
  refine vY3 (cC 6 S (h5.out _ (ft.later (bC (bC (bC (bC (bC (bA (bA (Below.refl _ _) _) _) b1) b2) b3) b4) kz5))) fun w10 b10 => ?_) (cA 14 S fun w11 pp4_0 h X2 b11 => ?_) (cA 15 S fun w12 pp4_1 h X3 b12 => ?_)
  replace kz5 := bC kz5 b10
  clear S b10 w9
  revert kz5; revert w10
  refine ?s5_3; rotate_left
  have jX2 := (Nat.le_trans kz5.size h); replace kz5 := bC kz5 b11
  clear S b11 h w9
  revert kz5; revert jX2; revert X2; revert pp4_0; revert w11
  refine ?s5_4; rotate_left
  have jX3 := (Nat.le_trans kz5.size h); replace kz5 := bC kz5 b12
  clear S b12 h w9
  revert kz5; revert jX3; revert X3; revert pp4_1; revert w12
  refine ?s5_5; rotate_left
  intro w13 pp4_0 X2 jX2 kz5
  have S := Off.ofB kz5
  refine vY2 (cC 5 S (h4.out _ (ft.later (bC (bC (bC (bC (bC (bA (bA (Below.refl _ _) _) _) b1) b2) b3) b4) kz5))) fun w14 b14 => ?s5_4 w14 pp4_0 (X2.later b14) jX2 (bC kz5 b14)) (cA 15 S fun w15 pp4_1 h X3 b15 => ?_)
  have ndX2_X3 : ¬ (pp4_0 = pp4_1) := (Nat.ne_of_lt (Nat.lt_of_lt_of_le X2.lt h)); have jX3 := (Nat.le_trans kz5.size h); replace X2 := (X2.later b15); replace kz5 := bC kz5 b15
  clear S b15 h w13
  revert kz5; revert ndX2_X3; revert jX3; revert jX2; revert X3; revert X2; revert pp4_1; revert pp4_0; revert w15
  refine ?s5_6; rotate_left
  intro w16 pp4_1 X3 jX3 kz5
  have S := Off.ofB kz5
  refine vY2 (cC 5 S (h4.out _ (ft.later (bC (bC (bC (bC (bC (bA (bA (Below.refl _ _) _) _) b1) b2) b3) b4) kz5))) fun w17 b17 => ?s5_5 w17 pp4_1 (X3.later b17) jX3 (bC kz5 b17)) (cA 14 S fun w18 pp4_0 h X2 b18 => ?s5_6 w18 pp4_0 pp4_1 X2 (X3.later b18) (Nat.le_trans kz5.size h) jX3 (Nat.ne_of_gt (Nat.lt_of_lt_of_le X3.lt h)) (bC kz5 b18))
  intro w19 kz5
  have S := Off.ofB kz5
  refine vY3 (cC 12 S (h6.out _ (ft.later (bC (bC (bC (bC (bC (bA (bA (Below.refl _ _) _) _) b1) b2) b3) b4) kz5))) fun w20 b20 => ?_) (cA 14 S fun w21 pp4_0 h X2 b21 => ?_) (cA 15 S fun w22 pp4_1 h X3 b22 => ?_)
  replace kz5 := bC kz5 b20
  clear S b20 w19
  revert kz5; revert w20
  refine ?s5_7; rotate_left
  have jX2 := (Nat.le_trans kz5.size h); replace kz5 := bC kz5 b21
  clear S b21 h w19
  revert kz5; revert jX2; revert X2; revert pp4_0; revert w21
  refine ?s5_8; rotate_left
  have jX3 := (Nat.le_trans kz5.size h); replace kz5 := bC kz5 b22
  clear S b22 h w19
  revert kz5; revert jX3; revert X3; revert pp4_1; revert w22
  refine ?s5_9; rotate_left
  intro w23 pp4_0 X2 jX2 kz5
  have S := Off.ofB kz5
  refine vY2 (cC 6 S (h5.out _ (ft.later (bC (bC (bC (bC (bC (bA (bA (Below.refl _ _) _) _) b1) b2) b3) b4) kz5))) fun w24 b24 => ?s5_8 w24 pp4_0 (X2.later b24) jX2 (bC kz5 b24)) (cA 15 S fun w25 pp4_1 h X3 b25 => ?_)
  have ndX2_X3 : ¬ (pp4_0 = pp4_1) := (Nat.ne_of_lt (Nat.lt_of_lt_of_le X2.lt h)); have jX3 := (Nat.le_trans kz5.size h); replace X2 := (X2.later b25); replace kz5 := bC kz5 b25
  clear S b25 h w23
  revert kz5; revert ndX2_X3; revert jX3; revert jX2; revert X3; revert X2; revert pp4_1; revert pp4_0; revert w25
  refine ?s5_10; rotate_left
  intro w26 pp4_1 X3 jX3 kz5
  have S := Off.ofB kz5
  refine vY2 (cC 6 S (h5.out _ (ft.later (bC (bC (bC (bC (bC (bA (bA (Below.refl _ _) _) _) b1) b2) b3) b4) kz5))) fun w27 b27 => ?s5_9 w27 pp4_1 (X3.later b27) jX3 (bC kz5 b27)) (cA 14 S fun w28 pp4_0 h X2 b28 => ?s5_10 w28 pp4_0 pp4_1 X2 (X3.later b28) (Nat.le_trans kz5.size h) jX3 (Nat.ne_of_gt (Nat.lt_of_lt_of_le X3.lt h)) (bC kz5 b28))
  intro w29 pp4_0 pp4_1 X2 X3 jX2 jX3 ndX2_X3 kz5
  have S := Off.ofB kz5
  refine vY1 (cC 5 S (h4.out _ (ft.later (bC (bC (bC (bC (bC (bA (bA (Below.refl _ _) _) _) b1) b2) b3) b4) kz5))) fun w30 b30 => ?s5_10 w30 pp4_0 pp4_1 (X2.later b30) (X3.later b30) jX2 jX3 ndX2_X3 (bC kz5 b30))
  intro w31 kz5
  have S := Off.ofB kz5
  refine vY3 (cC 13 S (h7.out _ (ft.later (bC (bC (bC (bC (bC (bA (bA (Below.refl _ _) _) _) b1) b2) b3) b4) kz5))) fun w32 b32 => ?_) (cA 14 S fun w33 pp4_0 h X2 b33 => ?_) (cA 15 S fun w34 pp4_1 h X3 b34 => ?_)
  replace kz5 := bC kz5 b32
  clear S b32 w31
  revert kz5; revert w32
  refine ?s5_11; rotate_left
  have jX2 := (Nat.le_trans kz5.size h); replace kz5 := bC kz5 b33
  clear S b33 h w31
  revert kz5; revert jX2; revert X2; revert pp4_0; revert w33
  refine ?s5_12; rotate_left
  have jX3 := (Nat.le_trans kz5.size h); replace kz5 := bC kz5 b34
  clear S b34 h w31
  revert kz5; revert jX3; revert X3; revert pp4_1; revert w34
  refine ?s5_13; rotate_left
  intro w35 pp4_0 X2 jX2 kz5
  have S := Off.ofB kz5
  refine vY2 (cC 12 S (h6.out _ (ft.later (bC (bC (bC (bC (bC (bA (bA (Below.refl _ _) _) _) b1) b2) b3) b4) kz5))) fun w36 b36 => ?s5_12 w36 pp4_0 (X2.later b36) jX2 (bC kz5 b36)) (cA 15 S fun w37 pp4_1 h X3 b37 => ?_)
  have ndX2_X3 : ¬ (pp4_0 = pp4_1) := (Nat.ne_of_lt (Nat.lt_of_lt_of_le X2.lt h)); have jX3 := (Nat.le_trans kz5.size h); replace X2 := (X2.later b37); replace kz5 := bC kz5 b37
  clear S b37 h w35
  revert kz5; revert ndX2_X3; revert jX3; revert jX2; revert X3; revert X2; revert pp4_1; revert pp4_0; revert w37
  refine ?s5_14; rotate_left
  intro w38 pp4_1 X3 jX3 kz5
  have S := Off.ofB kz5
  refine vY2 (cC 12 S (h6.out _ (ft.later (bC (bC (bC (bC (bC (bA (bA (Below.refl _ _) _) _) b1) b2) b3) b4) kz5))) fun w39 b39 => ?s5_13 w39 pp4_1 (X3.later b39) jX3 (bC kz5 b39)) (cA 14 S fun w40 pp4_0 h X2 b40 => ?s5_14 w40 pp4_0 pp4_1 X2 (X3.later b40) (Nat.le_trans kz5.size h) jX3 (Nat.ne_of_gt (Nat.lt_of_lt_of_le X3.lt h)) (bC kz5 b40))
  intro w41 pp4_0 pp4_1 X2 X3 jX2 jX3 ndX2_X3 kz5
  have S := Off.ofB kz5
  refine vY1 (cC 6 S (h5.out _ (ft.later (bC (bC (bC (bC (bC (bA (bA (Below.refl _ _) _) _) b1) b2) b3) b4) kz5))) fun w42 b42 => ?s5_14 w42 pp4_0 pp4_1 (X2.later b42) (X3.later b42) jX2 jX3 ndX2_X3 (bC kz5 b42))
  intro w43 kz5
  have S := Off.ofB kz5
  refine vY2 (cA 14 S fun w44 pp4_0 h X2 b44 => ?_) (cA 15 S fun w45 pp4_1 h X3 b45 => ?_)
  have jX2 := (Nat.le_trans kz5.size h); replace kz5 := bC kz5 b44
  clear S b44 h w43
  revert kz5; revert jX2; revert X2; revert pp4_0; revert w44
  refine ?s5_15; rotate_left
  have jX3 := (Nat.le_trans kz5.size h); replace kz5 := bC kz5 b45
  clear S b45 h w43
  revert kz5; revert jX3; revert X3; revert pp4_1; revert w45
  refine ?s5_16; rotate_left
  intro w46 pp4_0 X2 jX2 kz5
  have S := Off.ofB kz5
  refine vY2 (cC 13 S (h7.out _ (ft.later (bC (bC (bC (bC (bC (bA (bA (Below.refl _ _) _) _) b1) b2) b3) b4) kz5))) fun w47 b47 => ?s5_15 w47 pp4_0 (X2.later b47) jX2 (bC kz5 b47)) (cA 15 S fun w48 pp4_1 h X3 b48 => ?_)
  have ndX2_X3 : ¬ (pp4_0 = pp4_1) := (Nat.ne_of_lt (Nat.lt_of_lt_of_le X2.lt h)); have jX3 := (Nat.le_trans kz5.size h); replace X2 := (X2.later b48); replace kz5 := bC kz5 b48
  clear S b48 h w46
  revert kz5; revert ndX2_X3; revert jX3; revert jX2; revert X3; revert X2; revert pp4_1; revert pp4_0; revert w48
  refine ?s5_17; rotate_left
  intro w49 pp4_1 X3 jX3 kz5
  have S := Off.ofB kz5
  refine vY2 (cC 13 S (h7.out _ (ft.later (bC (bC (bC (bC (bC (bA (bA (Below.refl _ _) _) _) b1) b2) b3) b4) kz5))) fun w50 b50 => ?s5_16 w50 pp4_1 (X3.later b50) jX3 (bC kz5 b50)) (cA 14 S fun w51 pp4_0 h X2 b51 => ?s5_17 w51 pp4_0 pp4_1 X2 (X3.later b51) (Nat.le_trans kz5.size h) jX3 (Nat.ne_of_gt (Nat.lt_of_lt_of_le X3.lt h)) (bC kz5 b51))
  intro w52 pp4_0 pp4_1 X2 X3 jX2 jX3 ndX2_X3 kz5
  have S := Off.ofB kz5
  refine vY1 (cC 12 S (h6.out _ (ft.later (bC (bC (bC (bC (bC (bA (bA (Below.refl _ _) _) _) b1) b2) b3) b4) kz5))) fun w53 b53 => ?s5_17 w53 pp4_0 pp4_1 (X2.later b53) (X3.later b53) jX2 jX3 ndX2_X3 (bC kz5 b53))
  intro w54 pp4_0 X2 jX2 kz5
  have S := Off.ofB kz5
  refine vY1 (cA 15 S fun w55 pp4_1 h X3 b55 => ?_)
  have ndX2_X3 : ¬ (pp4_0 = pp4_1) := (Nat.ne_of_lt (Nat.lt_of_lt_of_le X2.lt h)); have jX3 := (Nat.le_trans kz5.size h); replace X2 := (X2.later b55); replace kz5 := bC kz5 b55
  clear S b55 h w54
  revert kz5; revert ndX2_X3; revert jX3; revert jX2; revert X3; revert X2; revert pp4_1; revert pp4_0; revert w55
  refine ?s5_18; rotate_left
  intro w56 pp4_1 X3 jX3 kz5
  have S := Off.ofB kz5
  refine vY1 (cA 14 S fun w57 pp4_0 h X2 b57 => ?s5_18 w57 pp4_0 pp4_1 X2 (X3.later b57) (Nat.le_trans kz5.size h) jX3 (Nat.ne_of_gt (Nat.lt_of_lt_of_le X3.lt h)) (bC kz5 b57))
  intro w58 pp4_0 pp4_1 X2 X3 jX2 jX3 ndX2_X3 kz5
  have S := Off.ofB kz5
  refine vY1 (cC 13 S (h7.out _ (ft.later (bC (bC (bC (bC (bC (bA (bA (Below.refl _ _) _) _) b1) b2) b3) b4) kz5))) fun w59 b59 => ?s5_18 w59 pp4_0 pp4_1 (X2.later b59) (X3.later b59) jX2 jX3 ndX2_X3 (bC kz5 b59))
  intro w60 pp4_0 pp4_1 X2 X3 jX2 jX3 ndX2_X3 kz5
  have S := Off.ofB kz5
  refine vY1 (vO 16 fun K hK => ?_)
  have q := X2.o; have mX3 : ¬ (pp4_1 = pp4_0) := (by omega)
  go_simp
  refine vW (fun W => HB W pp4_0 31 #[.int .u64 rh, .int .u64 rl, .int .u8 fl] ∧ HB W pp4_1 31 #[.int .u64 0, .int .u64 0, .int .u8 0] ∧ Below w4.heap.size w4 W) ⟨(((X2.set 0 _).set 1 _).set 2 _), (((X3.other mX3 0 _).other mX3 1 _).other mX3 2 _), (((kz5.setCell (p := ⟨pp4_0, 0, none⟩) jX2 _).setCell (p := ⟨pp4_0, 1, none⟩) jX2 _).setCell (p := ⟨pp4_0, 2, none⟩) jX2 _)⟩ fun w62 hz => ?_
  clear q mX3 X2 X3 S kz5 w60; obtain ⟨X2, X3, kz5⟩ := hz
  refine hK.out _ _ (Off.ofB kz5) fun S => ?_; clear hK K S; refine vP ?_
  revert kz5; revert ndX2_X3; revert jX3; revert jX2; revert X3; revert X2; revert pp4_1; revert pp4_0; revert w62
  refine ?s5_19; rotate_left
  intro w63 pp4_0 pp4_1 X2 X3 jX2 jX3 ndX2_X3 kz5
  have S := Off.ofB kz5
  refine vY1 (vO 17 fun K hK => ?_)
  have q := X3.o; have mX2 : ¬ (pp4_0 = pp4_1) := (by omega)
  go_simp
  refine vW (fun W => HB W pp4_0 31 #[.int .u64 rh, .int .u64 rl, .int .u8 fl] ∧ HB W pp4_1 31 #[.int .u64 sh, .int .u64 sl, .int .u8 sf] ∧ Below w4.heap.size w4 W) ⟨(((X2.other mX2 0 _).other mX2 1 _).other mX2 2 _), (((X3.set 0 _).set 1 _).set 2 _), (((kz5.setCell (p := ⟨pp4_1, 0, none⟩) jX3 _).setCell (p := ⟨pp4_1, 1, none⟩) jX3 _).setCell (p := ⟨pp4_1, 2, none⟩) jX3 _)⟩ fun w65 hz => ?_
  clear q mX2 X2 X3 S kz5 w63; obtain ⟨X2, X3, kz5⟩ := hz
  refine hK.out _ _ (Off.ofB kz5) fun S => ?_; clear hK K S; refine vP ?_
  revert kz5; revert ndX2_X3; revert jX3; revert jX2; revert X3; revert X2; revert pp4_1; revert pp4_0; revert w65
  refine ?s5_20; rotate_left
  intro w66 pp4_0 pp4_1 X2 X3 jX2 jX3 ndX2_X3 kz5
  refine vD ?_
  have gX2 : w.heap.size ≤ pp4_0 := by have := (bC (bC (bC (bC (bA (bA (Below.refl _ _) _) _) b1) b2) b3) b4).size; omega
  have gX3 : w.heap.size ≤ pp4_1 := by have := (bC (bC (bC (bC (bA (bA (Below.refl _ _) _) _) b1) b2) b3) b4).size; omega
  rcases HH with ⟨gc, gf, nq, h8, h9, h10⟩ | ⟨g3, gc, gf, nz, h8, h9, h10⟩ | ⟨g3, gc, nz, nq, h8, h9, h10⟩
  · go_wp2_with fail
    refine vR [] fun w67 b67 S67 => ?_
    refine vT 0 S67 ?_
    refine vT 1 S67 ?_
    refine vT 2 S67 ?_ (hy := by intro wq hb; have q := (hb.hb X2 (by simp)).o; go_simp; try (with_reducible rfl))
    refine vY1 (vC 3 S67 (h8.out _ (ft.later (bC (bC (bC (bC (bC (bC (bA (bA (Below.refl _ _) _) _) b1) b2) b3) b4) kz5) b67))) (fun _ _ => Off.later) fun w68 b68 S68 => ?_)
    refine vT 4 S68 ?_
    refine vT 5 S68 ?_
    refine vT 6 S68 ?_ (hy := by intro wq hb; have q := (hb.hb X2 (by simp)).o; go_simp; try (with_reducible rfl))
    refine vT 7 S68 ?_
    refine vT 8 S68 ?_
    refine vT 9 S68 ?_
    refine vT 10 S68 ?_
    refine vT 11 S68 ?_ (hy := by intro wq hb; have q := (hb.hb X3 (by simp)).o; go_simp; try (with_reducible rfl))
    refine vT 12 S68 ?_
    refine vT 13 S68 ?_
    refine vT 14 S68 ?_
    refine vT 15 S68 ?_
    refine vY1 (vC 16 S68 (h9.out _ (ft.later (bC (bC (bC (bC (bC (bC (bC (bA (bA (Below.refl _ _) _) _) b1) b2) b3) b4) kz5) b67) b68))) (fun _ _ => Off.later) fun w69 b69 S69 => ?_)
    refine vT 17 S69 ?_
    refine vT 18 S69 ?_
    refine vT 19 S69 ?_
    refine vT 20 S69 ?_
    refine vY1 (vC 21 S69 (h10.out _ (ft.later (bC (bC (bC (bC (bC (bC (bC (bC (bA (bA (Below.refl _ _) _) _) b1) b2) b3) b4) kz5) b67) b68) b69))) (fun _ _ => Off.later) fun w70 b70 S70 => ?_)
    refine vT 22 S70 ?_
    refine vT 23 S70 ?_
    refine vD ?_
    go_wp2_with fail
    go_ret
    exact ⟨rfl, (bC (bC (bC (bC (bC (bC (bC (bC (bC (bA (bA (Below.refl _ _) _) _) b1) b2) b3) b4) kz5) b67) b68) b69) b70)⟩
  · go_wp2_with fail
    refine vR [] fun w67 b67 S67 => ?_
    refine vT 0 S67 ?_ (hy := by intro wq hb; have q := (hb.hb X2 (by simp)).o; go_simp; try (with_reducible rfl))
    refine vT 1 S67 ?_
    refine vT 2 S67 ?_
    refine vT 3 S67 ?_
    refine vT 4 S67 ?_
    refine vY1 (vC 5 S67 (h8.out _ (ft.later (bC (bC (bC (bC (bC (bC (bA (bA (Below.refl _ _) _) _) b1) b2) b3) b4) kz5) b67))) (fun _ _ => Off.later) fun w68 b68 S68 => ?_)
    refine vT 6 S68 ?_
    refine vT 7 S68 ?_
    refine vD ?_
    replace X3 := X3.later (bC b67 b68)
    have oX3 := X3.o
    go_wp2_with fail
    refine vM (h9.out _ (ft.later (bC (bC (bC (bC (bC (bC (bC (bA (bA (Below.refl _ _) _) _) b1) b2) b3) b4) kz5) b67) b68))) fun w69 b69 => ?_
    clear oX3
    replace X3 := X3.later b69
    have oX3 := X3.o
    go_wp2_with fail
    refine vM (h10.out _ (ft.later (bC (bC (bC (bC (bC (bC (bC (bC (bA (bA (Below.refl _ _) _) _) b1) b2) b3) b4) kz5) b67) b68) b69))) fun w70 b70 => ?_
    clear oX3
    go_wp2_with fail
    go_ret
    exact ⟨rfl, (bC (bC (bC (bC (bC (bC (bC (bC (bC (bA (bA (Below.refl _ _) _) _) b1) b2) b3) b4) kz5) b67) b68) b69) b70)⟩
  · go_wp2_with fail
    refine vR [] fun w67 b67 S67 => ?_
    refine vT 0 S67 ?_ (hy := by intro wq hb; have q := (hb.hb X2 (by simp)).o; go_simp; try (with_reducible rfl))
    refine vT 1 S67 ?_
    refine vT 2 S67 ?_
    refine vT 3 S67 ?_
    refine vT 4 S67 ?_
    refine vY1 (vC 5 S67 (h8.out _ (ft.later (bC (bC (bC (bC (bC (bC (bA (bA (Below.refl _ _) _) _) b1) b2) b3) b4) kz5) b67))) (fun _ _ => Off.later) fun w68 b68 S68 => ?_)
    refine vT 6 S68 ?_
    refine vT 7 S68 ?_
    refine vD ?_
    go_wp2_with fail
    replace X3 := X3.later (bC b67 b68)
    refine vR [] fun w69 b69 S69 => ?_
    refine vT 0 S69 ?_ (hy := by intro wq hb; have q := (hb.hb X3 (by simp)).o; go_simp; try (with_reducible rfl))
    refine vT 1 S69 ?_
    refine vT 2 S69 ?_
    refine vT 3 S69 ?_
    refine vT 4 S69 ?_
    refine vY1 (vC 5 S69 (h9.out _ (ft.later (bC (bC (bC (bC (bC (bC (bC (bC (bA (bA (Below.refl _ _) _) _) b1) b2) b3) b4) kz5) b67) b68) b69))) (fun _ _ => Off.later) fun w70 b70 S70 => ?_)
    refine vT 6 S70 ?_
    refine vT 7 S70 ?_
    refine vT 8 S70 ?_
    refine vY1 (vC 9 S70 (h10.out _ (ft.later (bC (bC (bC (bC (bC (bC (bC (bC (bC (bA (bA (Below.refl _ _) _) _) b1) b2) b3) b4) kz5) b67) b68) b69) b70))) (fun _ _ => Off.later) fun w71 b71 S71 => ?_)
    refine vT 10 S71 ?_
    refine vT 11 S71 ?_
    refine vD ?_
    go_wp2_with fail
    go_ret
    exact ⟨rfl, (bC (bC (bC (bC (bC (bC (bC (bC (bC (bC (bA (bA (Below.refl _ _) _) _) b1) b2) b3) b4) kz5) b67) b68) b69) b70) b71)⟩



end Go.Proofs.YtjnohbpebdnngaaGreatDoor
