import Derived.Test.YtjdjonekoodalaaGreatDoorGzC
set_option maxHeartbeats 4000000
set_option linter.unusedVariables false
set_option linter.unusedSimpArgs false
set_option maxRecDepth 100000
namespace Go.Proofs.YtjdjonekoodalaaGreatDoor
open Go.RowKit
attribute [local go_sem ↓] Go.wp_at_zero Go.wp_at_succ
theorem half23_no1 (f ah al bh bl d k k2 af of_ rh rl xh xl yh yl sh sl zh zl oh ol : Int) (n : Bool)
    (h0 : Hid (∀ w, FTab w → Ca 14 #[.int .u8 f, U2 bh bl] w (.tuple #[.int .u8 d, .bool n])))
    (h1 : Hid (∀ w, FTab w → Ca 15 #[.int .u8 f] w (.bool false)))
    (h3 : Hid (∀ w, FTab w → Ca 11 #[] w (.bool true))) (w : World) (ft : FTab w) :
    Ca 4 #[.int .u8 f, U2 ah al, U2 bh bl] w (.bool true) := by
  simp only [Ca, U2] at *
  go_enter Tryz.func4, Tryz.ntmps4
  go_wp2_with fail
  refine vM (h0.out _ (ft.later (bA (bA bR _) _))) fun w1 b1 => ?_
  go_wp2_with fail
  refine vM (h1.out _ (ft.later (bC (bA (bA bR _) _) b1))) fun w2 b2 => ?_
  go_wp2_with fail
  refine vM (h3.out _ (ft.later (bC (bC (bA (bA bR _) _) b1) b2))) fun w3 b3 => ?_
  go_wp2_with fail
  go_ret
  exact ⟨rfl, (bC (bC (bC (bA (bA bR _) _) b1) b2) b3)⟩
theorem half23_no2 (f ah al bh bl d k k2 af of_ rh rl xh xl yh yl sh sl zh zl oh ol : Int) (n : Bool)
    (h0 : Hid (∀ w, FTab w → Ca 14 #[.int .u8 f, U2 bh bl] w (.tuple #[.int .u8 d, .bool n])))
    (h1 : Hid (∀ w, FTab w → Ca 15 #[.int .u8 f] w (.bool true)))
    (h2 : Hid (∀ w, FTab w → Ca 16 #[.int .u8 f, U2 ah al] w (.bool false)))
    (h3 : Hid (∀ w, FTab w → Ca 11 #[] w (.bool true))) (w : World) (ft : FTab w) :
    Ca 4 #[.int .u8 f, U2 ah al, U2 bh bl] w (.bool true) := by
  simp only [Ca, U2] at *
  go_enter Tryz.func4, Tryz.ntmps4
  go_wp2_with fail
  refine vM (h0.out _ (ft.later (bA (bA bR _) _))) fun w1 b1 => ?_
  have X0 := ((HB.newAt (b := w.heap.size) (by simp) _ _).alloc _).later b1
  go_wp2_with fail
  refine vM (h1.out _ (ft.later (bC (bA (bA bR _) _) b1))) fun w2 b2 => ?_
  replace X0 := X0.later b2
  have oX0 := X0.o
  go_wp2_with fail
  refine vM (h2.out _ (ft.later (bC (bC (bA (bA bR _) _) b1) b2))) fun w3 b3 => ?_
  clear oX0
  go_wp2_with fail
  refine vM (h3.out _ (ft.later (bC (bC (bC (bA (bA bR _) _) b1) b2) b3))) fun w4 b4 => ?_
  go_wp2_with fail
  go_ret
  exact ⟨rfl, (bC (bC (bC (bC (bA (bA bR _) _) b1) b2) b3) b4)⟩
theorem half23_no3 (f ah al bh bl d k k2 af of_ rh rl xh xl yh yl sh sl zh zl oh ol : Int) (n : Bool)
    (h0 : Hid (∀ w, FTab w → Ca 14 #[.int .u8 f, U2 bh bl] w (.tuple #[.int .u8 d, .bool n])))
    (h1 : Hid (∀ w, FTab w → Ca 15 #[.int .u8 f] w (.bool true)))
    (h2 : Hid (∀ w, FTab w → Ca 16 #[.int .u8 f, U2 ah al] w (.bool true)))
    (h3 : Hid (∀ w, FTab w → Ca 11 #[] w (.bool true))) (g1 : (d != 1) = true) (g2 : (d != 2) = true) (w : World) (ft : FTab w) :
    Ca 4 #[.int .u8 f, U2 ah al, U2 bh bl] w (.bool true) := by
  simp only [Ca, U2] at *
  go_enter Tryz.func4, Tryz.ntmps4
  go_wp2_with fail
  refine vM (h0.out _ (ft.later (bA (bA bR _) _))) fun w1 b1 => ?_
  have X0 := ((HB.newAt (b := w.heap.size) (by simp) _ _).alloc _).later b1
  go_wp2_with fail
  refine vM (h1.out _ (ft.later (bC (bA (bA bR _) _) b1))) fun w2 b2 => ?_
  replace X0 := X0.later b2
  have oX0 := X0.o
  go_wp2_with fail
  refine vM (h2.out _ (ft.later (bC (bC (bA (bA bR _) _) b1) b2))) fun w3 b3 => ?_
  clear oX0
  go_wp2_with fail
  refine vM (h3.out _ (ft.later (bC (bC (bC (bA (bA bR _) _) b1) b2) b3))) fun w4 b4 => ?_
  go_wp2_with fail
  go_ret
  exact ⟨rfl, (bC (bC (bC (bC (bA (bA bR _) _) b1) b2) b3) b4)⟩
theorem half23_sub (f ah al bh bl d k k2 af of_ rh rl xh xl yh yl sh sl zh zl oh ol : Int) (n : Bool)
    (h0 : Hid (∀ w, FTab w → Ca 14 #[.int .u8 f, U2 bh bl] w (.tuple #[.int .u8 d, .bool n])))
    (h1 : Hid (∀ w, FTab w → Ca 15 #[.int .u8 f] w (.bool true)))
    (h2 : Hid (∀ w, FTab w → Ca 16 #[.int .u8 f, U2 ah al] w (.bool true)))
    (h3 : Hid (∀ w, FTab w → Ca 12 #[.int .u8 f, U2 ah al, U2 bh bl] w (.agg #[.int .u64 rh, .int .u64 rl, .int .u8 0])))
    (h4 : Hid (∀ w, FTab w → Ca 16 #[.int .u8 f, U2 rh rl] w (.bool true)))
    (h5 : Hid (∀ w, FTab w → Ca 17 #[.int .u8 f, U2 rh rl] w (U2 xh xl)))
    (h6 : Hid (∀ w, FTab w → Ca 17 #[.int .u8 f, U2 bh bl] w (U2 yh yl)))
    (h7 : Hid (∀ w, FTab w → Ca 18 #[.int .u8 f, .agg #[.int .u8 4, .bool false], U2 xh xl, U2 xh xl] w (.agg #[.int .u64 sh, .int .u64 sl, .int .u8 af])))
    (h8 : Hid (∀ w, Ca 19 #[U2 sh sl, U2 yh yl] w (.int .i64 k)))
    (h9 : Hid (∀ w, FTab w → Ca 17 #[.int .u8 f, U2 ah al] w (U2 zh zl)))
    (h11 : Hid (∀ w, FTab w → Ca 18 #[.int .u8 f, .agg #[.int .u8 4, .bool false], U2 zh zl, U2 zh zl] w (.agg #[.int .u64 oh, .int .u64 ol, .int .u8 of_]))) (g2 : (d != 1) = false) (g4 : decide (0 < k) = false)
    (HH : (((of_ == 0) = false) ∧ Hid (∀ w, FTab w → Ca 12 #[.int .u8 f, U2 rh rl, U2 bh bl] w (.agg #[.int .u64 rh, .int .u64 rl, .int .u8 0])) ∧ Hid (∀ w, FTab w → Ca 11 #[] w (.bool true))) ∨ (((of_ == 0) = true) ∧ (decide (k2 < 0) = false) ∧ Hid (∀ w, Ca 19 #[U2 oh ol, U2 yh yl] w (.int .i64 k2)) ∧ Hid (∀ w, FTab w → Ca 12 #[.int .u8 f, U2 rh rl, U2 bh bl] w (.agg #[.int .u64 rh, .int .u64 rl, .int .u8 0])) ∧ Hid (∀ w, FTab w → Ca 11 #[] w (.bool true))) ∨ (((of_ == 0) = true) ∧ (decide (k2 < 0) = true) ∧ Hid (∀ w, Ca 19 #[U2 oh ol, U2 yh yl] w (.int .i64 k2)) ∧ Hid (∀ w, FTab w → Ca 20 #[.int .u8 f, U2 ah al] w (U2 rh rl)) ∧ Hid (∀ w, FTab w → Ca 12 #[.int .u8 f, U2 rh rl, U2 bh bl] w (.agg #[.int .u64 rh, .int .u64 rl, .int .u8 0])) ∧ Hid (∀ w, FTab w → Ca 11 #[] w (.bool true)))) (w : World) (ft : FTab w) :
    Ca 4 #[.int .u8 f, U2 ah al, U2 bh bl] w (.bool true) := by
  simp only [Ca, U2] at *
  have EQ := eqr23 rh rl 0
  have NE := neb23 rh rl
  go_enter Tryz.func4, Tryz.ntmps4
  go_wp2_with fail
  refine vM (h0.out _ (ft.later (bA (bA bR _) _))) fun w1 b1 => ?_
  have X0 := ((HB.newAt (b := w.heap.size) (by simp) _ _).alloc _).later b1
  have X1 := (HB.newAt (b := w.heap.size + 1) (by simp) _ _).later b1
  go_wp2_with fail
  refine vM (h1.out _ (ft.later (bC (bA (bA bR _) _) b1))) fun w2 b2 => ?_
  replace X0 := X0.later b2
  have oX0 := X0.o
  go_wp2_with fail
  refine vM (h2.out _ (ft.later (bC (bC (bA (bA bR _) _) b1) b2))) fun w3 b3 => ?_
  clear oX0
  replace X0 := X0.later b3
  have oX0 := X0.o
  replace X1 := X1.later (bC b2 b3)
  have oX1 := X1.o
  go_wp2_with fail
  refine vM (h3.out _ (ft.later (bC (bC (bC (bA (bA bR _) _) b1) b2) b3))) fun w4 b4 => ?_
  clear oX0 oX1
  go_wp2_with fail
  refine vM (h4.out _ (ft.later (bA (bC (bC (bC (bC (bA (bA bR _) _) b1) b2) b3) b4) _))) fun w5 b5 => ?_
  have X2 := (HB.newAt (b := w4.heap.size) (by simp) _ _).later b5
  go_wp2_with fail
  refine vF1 fun w6 b6 X3 => ?_
  replace X1 := X1.later (bC (bC b4 (bC (bA bR _) b5)) b6)
  replace X2 := X2.later b6
  refine' (have s7_12 : Hid (_ : Prop) := ?ns7_12; ?ms7_12)
  case' ms7_12 => skip
  refine' (have s7_11 : Hid (_ : Prop) := ?ns7_11; ?ms7_11)
  case' ms7_11 => skip
  refine' (have s7_10 : Hid (_ : Prop) := ?ns7_10; ?ms7_10)
  case' ms7_10 => skip
  refine' (have s7_9 : Hid (_ : Prop) := ?ns7_9; ?ms7_9)
  case' ms7_9 => skip
  refine' (have s7_8 : Hid (_ : Prop) := ?ns7_8; ?ms7_8)
  case' ms7_8 => skip
  refine' (have s7_7 : Hid (_ : Prop) := ?ns7_7; ?ms7_7)
  case' ms7_7 => skip
  refine' (have s7_6 : Hid (_ : Prop) := ?ns7_6; ?ms7_6)
  case' ms7_6 => skip
  refine' (have s7_5 : Hid (_ : Prop) := ?ns7_5; ?ms7_5)
  case' ms7_5 => skip
  refine' (have s7_4 : Hid (_ : Prop) := ?ns7_4; ?ms7_4)
  case' ms7_4 => skip
  refine' (have s7_3 : Hid (_ : Prop) := ?ns7_3; ?ms7_3)
  case' ms7_3 => skip
  refine' (have s7_2 : Hid (_ : Prop) := ?ns7_2; ?ms7_2)
  case' ms7_2 => skip
  refine' (have s7_1 : Hid (_ : Prop) := ?ns7_1; ?ms7_1)
  case' ms7_1 => skip
  refine' (have s7_0 : Hid (_ : Prop) := ?ns7_0; ?ms7_0)
  case' ms7_0 => skip
  refine vR [] fun w7 kz7 S => ?_
  refine vT 0 S ?_
  refine vT 1 S ?_
  refine vT 2 S ?_ (hy := by intro wq hb; have q := (hb.hb X2 (by simp)).o; go_simp; try (with_reducible rfl))
  refine vT 4 S ?_
  refine vT 5 S ?_ (hy := by intro wq hb; have q := (hb.hb X1 (by simp)).o; go_simp; try (with_reducible rfl))
  refine vY3 (cC 3 S (h5.out _ (ft.later (bC (bC (bC (bC (bC (bC (bC (bA (bA bR _) _) b1) b2) b3) b4) (bC (bA bR _) b5)) b6) kz7))) fun w8 b8 => ?_) (cA 7 S fun w9 pp6_0 h X4 b9 => ?_) (cA 8 S fun w10 pp6_1 h X5 b10 => ?_)
  replace kz7 := bC kz7 b8
  clear S b8 w7
  revert kz7; revert w8
  exact s7_0.out
  have jX4 := (lZ kz7.size h); replace kz7 := bC kz7 b9
  clear S b9 h w7
  revert kz7; revert jX4; revert X4; revert pp6_0; revert w9
  exact s7_1.out
  have jX5 := (lZ kz7.size h); replace kz7 := bC kz7 b10
  clear S b10 h w7
  revert kz7; revert jX5; revert X5; revert pp6_1; revert w10
  exact s7_2.out
  case' ns7_0 => refine lH ?_
  intro w11 kz7
  have S := Off.ofB kz7
  refine vY3 (cC 6 S (h6.out _ (ft.later (bC (bC (bC (bC (bC (bC (bC (bA (bA bR _) _) b1) b2) b3) b4) (bC (bA bR _) b5)) b6) kz7))) fun w12 b12 => ?_) (cA 7 S fun w13 pp6_0 h X4 b13 => ?_) (cA 8 S fun w14 pp6_1 h X5 b14 => ?_)
  replace kz7 := bC kz7 b12
  clear S b12 w11
  revert kz7; revert w12
  exact s7_3.out
  have jX4 := (lZ kz7.size h); replace kz7 := bC kz7 b13
  clear S b13 h w11
  revert kz7; revert jX4; revert X4; revert pp6_0; revert w13
  exact s7_4.out
  have jX5 := (lZ kz7.size h); replace kz7 := bC kz7 b14
  clear S b14 h w11
  revert kz7; revert jX5; revert X5; revert pp6_1; revert w14
  exact s7_5.out
  case' ns7_1 => refine lH ?_
  intro w15 pp6_0 X4 jX4 kz7
  have S := Off.ofB kz7
  refine vY2 (cC 3 S (h5.out _ (ft.later (bC (bC (bC (bC (bC (bC (bC (bA (bA bR _) _) b1) b2) b3) b4) (bC (bA bR _) b5)) b6) kz7))) fun w16 b16 => s7_4.out w16 pp6_0 (X4.later b16) jX4 (bC kz7 b16)) (cA 8 S fun w17 pp6_1 h X5 b17 => ?_)
  have ndX4_X5 : ¬ (pp6_0 = pp6_1) := (Nat.ne_of_lt (lY X4.lt h)); have jX5 := (lZ kz7.size h); replace X4 := (X4.later b17); replace kz7 := bC kz7 b17
  clear S b17 h w15
  revert kz7; revert ndX4_X5; revert jX5; revert jX4; revert X5; revert X4; revert pp6_1; revert pp6_0; revert w17
  exact s7_6.out
  case' ns7_2 => refine lH ?_
  intro w18 pp6_1 X5 jX5 kz7
  have S := Off.ofB kz7
  refine vY2 (cC 3 S (h5.out _ (ft.later (bC (bC (bC (bC (bC (bC (bC (bA (bA bR _) _) b1) b2) b3) b4) (bC (bA bR _) b5)) b6) kz7))) fun w19 b19 => s7_5.out w19 pp6_1 (X5.later b19) jX5 (bC kz7 b19)) (cA 7 S fun w20 pp6_0 h X4 b20 => s7_6.out w20 pp6_0 pp6_1 X4 (X5.later b20) (lZ kz7.size h) jX5 (Nat.ne_of_gt (lY X5.lt h)) (bC kz7 b20))
  case' ns7_3 => refine lH ?_
  intro w21 kz7
  have S := Off.ofB kz7
  refine vY2 (cA 7 S fun w22 pp6_0 h X4 b22 => ?_) (cA 8 S fun w23 pp6_1 h X5 b23 => ?_)
  have jX4 := (lZ kz7.size h); replace kz7 := bC kz7 b22
  clear S b22 h w21
  revert kz7; revert jX4; revert X4; revert pp6_0; revert w22
  exact s7_7.out
  have jX5 := (lZ kz7.size h); replace kz7 := bC kz7 b23
  clear S b23 h w21
  revert kz7; revert jX5; revert X5; revert pp6_1; revert w23
  exact s7_8.out
  case' ns7_4 => refine lH ?_
  intro w24 pp6_0 X4 jX4 kz7
  have S := Off.ofB kz7
  refine vY2 (cC 6 S (h6.out _ (ft.later (bC (bC (bC (bC (bC (bC (bC (bA (bA bR _) _) b1) b2) b3) b4) (bC (bA bR _) b5)) b6) kz7))) fun w25 b25 => s7_7.out w25 pp6_0 (X4.later b25) jX4 (bC kz7 b25)) (cA 8 S fun w26 pp6_1 h X5 b26 => ?_)
  have ndX4_X5 : ¬ (pp6_0 = pp6_1) := (Nat.ne_of_lt (lY X4.lt h)); have jX5 := (lZ kz7.size h); replace X4 := (X4.later b26); replace kz7 := bC kz7 b26
  clear S b26 h w24
  revert kz7; revert ndX4_X5; revert jX5; revert jX4; revert X5; revert X4; revert pp6_1; revert pp6_0; revert w26
  exact s7_9.out
  case' ns7_5 => refine lH ?_
  intro w27 pp6_1 X5 jX5 kz7
  have S := Off.ofB kz7
  refine vY2 (cC 6 S (h6.out _ (ft.later (bC (bC (bC (bC (bC (bC (bC (bA (bA bR _) _) b1) b2) b3) b4) (bC (bA bR _) b5)) b6) kz7))) fun w28 b28 => s7_8.out w28 pp6_1 (X5.later b28) jX5 (bC kz7 b28)) (cA 7 S fun w29 pp6_0 h X4 b29 => s7_9.out w29 pp6_0 pp6_1 X4 (X5.later b29) (lZ kz7.size h) jX5 (Nat.ne_of_gt (lY X5.lt h)) (bC kz7 b29))
  case' ns7_6 => refine lH ?_
  intro w30 pp6_0 pp6_1 X4 X5 jX4 jX5 ndX4_X5 kz7
  have S := Off.ofB kz7
  refine vY1 (cC 3 S (h5.out _ (ft.later (bC (bC (bC (bC (bC (bC (bC (bA (bA bR _) _) b1) b2) b3) b4) (bC (bA bR _) b5)) b6) kz7))) fun w31 b31 => s7_9.out w31 pp6_0 pp6_1 (X4.later b31) (X5.later b31) jX4 jX5 ndX4_X5 (bC kz7 b31))
  case' ns7_7 => refine lH ?_
  intro w32 pp6_0 X4 jX4 kz7
  have S := Off.ofB kz7
  refine vY1 (cA 8 S fun w33 pp6_1 h X5 b33 => ?_)
  have ndX4_X5 : ¬ (pp6_0 = pp6_1) := (Nat.ne_of_lt (lY X4.lt h)); have jX5 := (lZ kz7.size h); replace X4 := (X4.later b33); replace kz7 := bC kz7 b33
  clear S b33 h w32
  revert kz7; revert ndX4_X5; revert jX5; revert jX4; revert X5; revert X4; revert pp6_1; revert pp6_0; revert w33
  exact s7_10.out
  case' ns7_8 => refine lH ?_
  intro w34 pp6_1 X5 jX5 kz7
  have S := Off.ofB kz7
  refine vY1 (cA 7 S fun w35 pp6_0 h X4 b35 => s7_10.out w35 pp6_0 pp6_1 X4 (X5.later b35) (lZ kz7.size h) jX5 (Nat.ne_of_gt (lY X5.lt h)) (bC kz7 b35))
  case' ns7_9 => refine lH ?_
  intro w36 pp6_0 pp6_1 X4 X5 jX4 jX5 ndX4_X5 kz7
  have S := Off.ofB kz7
  refine vY1 (cC 6 S (h6.out _ (ft.later (bC (bC (bC (bC (bC (bC (bC (bA (bA bR _) _) b1) b2) b3) b4) (bC (bA bR _) b5)) b6) kz7))) fun w37 b37 => s7_10.out w37 pp6_0 pp6_1 (X4.later b37) (X5.later b37) jX4 jX5 ndX4_X5 (bC kz7 b37))
  case' ns7_10 => refine lH ?_
  intro w38 pp6_0 pp6_1 X4 X5 jX4 jX5 ndX4_X5 kz7
  have S := Off.ofB kz7
  refine vY1 (vO 9 fun K hK => ?_)
  have q := X4.o; have mX5 : ¬ (pp6_1 = pp6_0) := (by omega)
  go_simp
  refine vW (fun W => HB W pp6_0 25 #[.int .u64 xh, .int .u64 xl] ∧ HB W pp6_1 25 #[.int .u64 0, .int .u64 0] ∧ Below w6.heap.size w6 W) ⟨((X4.set 0 _).set 1 _), ((X5.other mX5 0 _).other mX5 1 _), ((kz7.setCell (p := ⟨pp6_0, 0, none⟩) jX4 _).setCell (p := ⟨pp6_0, 1, none⟩) jX4 _)⟩ fun w40 hz => ?_
  clear q mX5 X4 X5 S kz7 w38; obtain ⟨X4, X5, kz7⟩ := hz
  refine hK.out _ _ (Off.ofB kz7) fun S => ?_; clear hK K S; refine vP ?_
  revert kz7; revert ndX4_X5; revert jX5; revert jX4; revert X5; revert X4; revert pp6_1; revert pp6_0; revert w40
  exact s7_11.out
  case' ns7_11 => refine lH ?_
  intro w41 pp6_0 pp6_1 X4 X5 jX4 jX5 ndX4_X5 kz7
  have S := Off.ofB kz7
  refine vY1 (vO 10 fun K hK => ?_)
  have q := X5.o; have mX4 : ¬ (pp6_0 = pp6_1) := (by omega)
  go_simp
  refine vW (fun W => HB W pp6_0 25 #[.int .u64 xh, .int .u64 xl] ∧ HB W pp6_1 25 #[.int .u64 yh, .int .u64 yl] ∧ Below w6.heap.size w6 W) ⟨((X4.other mX4 0 _).other mX4 1 _), ((X5.set 0 _).set 1 _), ((kz7.setCell (p := ⟨pp6_1, 0, none⟩) jX5 _).setCell (p := ⟨pp6_1, 1, none⟩) jX5 _)⟩ fun w43 hz => ?_
  clear q mX4 X4 X5 S kz7 w41; obtain ⟨X4, X5, kz7⟩ := hz
  refine hK.out _ _ (Off.ofB kz7) fun S => ?_; clear hK K S; refine vP ?_
  revert kz7; revert ndX4_X5; revert jX5; revert jX4; revert X5; revert X4; revert pp6_1; revert pp6_0; revert w43
  exact s7_12.out
  case' ns7_12 => refine lH ?_
  intro w44 pp6_0 pp6_1 X4 X5 jX4 jX5 ndX4_X5 kz7
  refine vD ?_
  replace X0 := X0.later (bC (bC b4 (bC (bA bR _) b5)) b6)
  have nX0_X4 : w.heap.size < pp6_0 := by have := X0.lt; omega
  have nX0_X5 : w.heap.size < pp6_1 := by have := X0.lt; omega
  have nX1_X4 : w.heap.size + 1 < pp6_0 := by have := X1.lt; omega
  have nX1_X5 : w.heap.size + 1 < pp6_1 := by have := X1.lt; omega
  have nX2_X4 : w4.heap.size < pp6_0 := by have := X2.lt; omega
  have nX2_X5 : w4.heap.size < pp6_1 := by have := X2.lt; omega
  have nX3_X4 : w5.heap.size < pp6_0 := by have := X3.lt; omega
  have nX3_X5 : w5.heap.size < pp6_1 := by have := X3.lt; omega
  have gX4 : w.heap.size ≤ pp6_0 := by have := (bC (bC (bC (bC (bC (bC (bA (bA bR _) _) b1) b2) b3) b4) (bC (bA bR _) b5)) b6).size; omega
  have gX5 : w.heap.size ≤ pp6_1 := by have := (bC (bC (bC (bC (bC (bC (bA (bA bR _) _) b1) b2) b3) b4) (bC (bA bR _) b5)) b6).size; omega
  replace X3 := X3.later kz7
  have oX3 := X3.o
  have oX4 := X4.o
  go_wp2_with fail
  refine vM (h7.out _ (ft.later (bC (bC (bC (bC (bC (bC (bC (bA (bA bR _) _) b1) b2) b3) b4) (bC (bA bR _) b5)) b6) kz7))) fun w45 b45 => ?_
  clear oX3 oX4
  replace X5 := X5.later b45
  have oX5 := X5.o
  go_wp2_with fail
  refine vM (h8.out _) fun w46 b46 => ?_
  have nX5_X6 : pp6_1 < w45.heap.size := by have := X5.lt; omega
  have X6 := (HB.newAt (b := w45.heap.size) (by simp) _ _).later b46
  clear oX5
  go_wp2_with fail
  replace X0 := X0.later (bC (bC kz7 b45) (bC (bA bR _) b46))
  replace X3 := X3.later (bC b45 (bC (bA bR _) b46))
  refine' (have s47_7 : Hid (_ : Prop) := ?ns47_7; ?ms47_7)
  case' ms47_7 => skip
  refine' (have s47_6 : Hid (_ : Prop) := ?ns47_6; ?ms47_6)
  case' ms47_6 => skip
  refine' (have s47_5 : Hid (_ : Prop) := ?ns47_5; ?ms47_5)
  case' ms47_5 => skip
  refine' (have s47_4 : Hid (_ : Prop) := ?ns47_4; ?ms47_4)
  case' ms47_4 => skip
  refine' (have s47_3 : Hid (_ : Prop) := ?ns47_3; ?ms47_3)
  case' ms47_3 => skip
  refine' (have s47_2 : Hid (_ : Prop) := ?ns47_2; ?ms47_2)
  case' ms47_2 => skip
  refine' (have s47_1 : Hid (_ : Prop) := ?ns47_1; ?ms47_1)
  case' ms47_1 => skip
  refine' (have s47_0 : Hid (_ : Prop) := ?ns47_0; ?ms47_0)
  case' ms47_0 => skip
  refine vR [] fun w47 kz47 S => ?_
  refine vT 0 S ?_
  refine vT 1 S ?_ (hy := by intro wq hb; have q := (hb.hb X3 (by simp)).o; go_simp; try (with_reducible rfl))
  refine vT 2 S ?_
  refine vT 3 S ?_ (hy := by intro wq hb; have q := (hb.hb X0 (by simp)).o; go_simp; try (with_reducible rfl))
  refine vT 5 S ?_
  refine vT 6 S ?_ (hy := by intro wq hb; have q := (hb.hb X0 (by simp)).o; go_simp; try (with_reducible rfl))
  refine vY2 (cC 4 S (h9.out _ (ft.later (bC (bC (bC (bC (bC (bC (bC (bC (bC (bC (bA (bA bR _) _) b1) b2) b3) b4) (bC (bA bR _) b5)) b6) kz7) b45) (bC (bA bR _) b46)) kz47))) fun w48 b48 => ?_) (cA 9 S fun w49 pp46_0 h X7 b49 => ?_)
  replace kz47 := bC kz47 b48
  clear S b48 w47
  revert kz47; revert w48
  exact s47_0.out
  have jX7 := (lZ kz47.size h); replace kz47 := bC kz47 b49
  clear S b49 h w47
  revert kz47; revert jX7; revert X7; revert pp46_0; revert w49
  exact s47_1.out
  case' ns47_0 => refine lH ?_
  intro w50 kz47
  have S := Off.ofB kz47
  refine vY2 (cC 7 S (h9.out _ (ft.later (bC (bC (bC (bC (bC (bC (bC (bC (bC (bC (bA (bA bR _) _) b1) b2) b3) b4) (bC (bA bR _) b5)) b6) kz7) b45) (bC (bA bR _) b46)) kz47))) fun w51 b51 => ?_) (cA 9 S fun w52 pp46_0 h X7 b52 => ?_)
  replace kz47 := bC kz47 b51
  clear S b51 w50
  revert kz47; revert w51
  exact s47_2.out
  have jX7 := (lZ kz47.size h); replace kz47 := bC kz47 b52
  clear S b52 h w50
  revert kz47; revert jX7; revert X7; revert pp46_0; revert w52
  exact s47_3.out
  case' ns47_1 => refine lH ?_
  intro w53 pp46_0 X7 jX7 kz47
  have S := Off.ofB kz47
  refine vY1 (cC 4 S (h9.out _ (ft.later (bC (bC (bC (bC (bC (bC (bC (bC (bC (bC (bA (bA bR _) _) b1) b2) b3) b4) (bC (bA bR _) b5)) b6) kz7) b45) (bC (bA bR _) b46)) kz47))) fun w54 b54 => s47_3.out w54 pp46_0 (X7.later b54) jX7 (bC kz47 b54))
  case' ns47_2 => refine lH ?_
  intro w55 kz47
  have S := Off.ofB kz47
  refine vY2 (cC 8 S (h11.out _ (ft.later (bC (bC (bC (bC (bC (bC (bC (bC (bC (bC (bA (bA bR _) _) b1) b2) b3) b4) (bC (bA bR _) b5)) b6) kz7) b45) (bC (bA bR _) b46)) kz47))) fun w56 b56 => ?_) (cA 9 S fun w57 pp46_0 h X7 b57 => ?_)
  replace kz47 := bC kz47 b56
  clear S b56 w55
  revert kz47; revert w56
  exact s47_4.out
  have jX7 := (lZ kz47.size h); replace kz47 := bC kz47 b57
  clear S b57 h w55
  revert kz47; revert jX7; revert X7; revert pp46_0; revert w57
  exact s47_5.out
  case' ns47_3 => refine lH ?_
  intro w58 pp46_0 X7 jX7 kz47
  have S := Off.ofB kz47
  refine vY1 (cC 7 S (h9.out _ (ft.later (bC (bC (bC (bC (bC (bC (bC (bC (bC (bC (bA (bA bR _) _) b1) b2) b3) b4) (bC (bA bR _) b5)) b6) kz7) b45) (bC (bA bR _) b46)) kz47))) fun w59 b59 => s47_5.out w59 pp46_0 (X7.later b59) jX7 (bC kz47 b59))
  case' ns47_4 => refine lH ?_
  intro w60 kz47
  have S := Off.ofB kz47
  refine vY1 (cA 9 S fun w61 pp46_0 h X7 b61 => ?_)
  have jX7 := (lZ kz47.size h); replace kz47 := bC kz47 b61
  clear S b61 h w60
  revert kz47; revert jX7; revert X7; revert pp46_0; revert w61
  exact s47_6.out
  case' ns47_5 => refine lH ?_
  intro w62 pp46_0 X7 jX7 kz47
  have S := Off.ofB kz47
  refine vY1 (cC 8 S (h11.out _ (ft.later (bC (bC (bC (bC (bC (bC (bC (bC (bC (bC (bA (bA bR _) _) b1) b2) b3) b4) (bC (bA bR _) b5)) b6) kz7) b45) (bC (bA bR _) b46)) kz47))) fun w63 b63 => s47_6.out w63 pp46_0 (X7.later b63) jX7 (bC kz47 b63))
  case' ns47_6 => refine lH ?_
  intro w64 pp46_0 X7 jX7 kz47
  have S := Off.ofB kz47
  refine vY1 (vO 10 fun K hK => ?_)
  have q := X7.o
  go_simp
  refine vW (fun W => HB W pp46_0 30 #[.int .u64 oh, .int .u64 ol, .int .u8 of_] ∧ Below w46.heap.size w46 W) ⟨(((X7.set 0 _).set 1 _).set 2 _), (((kz47.setCell (p := ⟨pp46_0, 0, none⟩) jX7 _).setCell (p := ⟨pp46_0, 1, none⟩) jX7 _).setCell (p := ⟨pp46_0, 2, none⟩) jX7 _)⟩ fun w66 hz => ?_
  clear q X7 S kz47 w64; obtain ⟨X7, kz47⟩ := hz
  refine hK.out _ _ (Off.ofB kz47) fun S => ?_; clear hK K S; refine vP ?_
  revert kz47; revert jX7; revert X7; revert pp46_0; revert w66
  exact s47_7.out
  case' ns47_7 => refine lH ?_
  intro w67 pp46_0 X7 jX7 kz47
  refine vD ?_
  have nX0_X7 : w.heap.size < pp46_0 := by have := X0.lt; omega
  replace X1 := X1.later (bC (bC kz7 b45) (bC (bA bR _) b46))
  have nX1_X7 : w.heap.size + 1 < pp46_0 := by have := X1.lt; omega
  replace X2 := X2.later (bC (bC kz7 b45) (bC (bA bR _) b46))
  have nX2_X7 : w4.heap.size < pp46_0 := by have := X2.lt; omega
  replace X5 := X5.later (bC (bA bR _) b46)
  have nX5_X7 : pp6_1 < pp46_0 := by have := X5.lt; omega
  have nX6_X7 : w45.heap.size < pp46_0 := by have := X6.lt; omega
  have gX7 : w.heap.size ≤ pp46_0 := by have := (bC (bC (bC (bC (bC (bC (bC (bC (bC (bA (bA bR _) _) b1) b2) b3) b4) (bC (bA bR _) b5)) b6) kz7) b45) (bC (bA bR _) b46)).size; omega
  rcases HH with ⟨g5, h14, h15⟩ | ⟨g5, g6, h12, h14, h15⟩ | ⟨g5, g6, h12, h13, h14, h15⟩
  · go_wp2_with fail
    refine vR [] fun w68 b68 S68 => ?_
    refine vT 0 S68 ?_
    refine vT 1 S68 ?_ (hy := by intro wq hb; have q := (hb.hb X7 (by simp)).o; go_simp; try (with_reducible rfl))
    refine vT 2 S68 ?_
    refine vT 3 S68 ?_
    refine vN 4 S68 ?_
    refine vN 5 S68 ?_
    refine vN 6 S68 ?_
    refine vN 7 S68 ?_
    refine vN 8 S68 ?_
    refine vT 9 S68 ?_
    refine vT 10 S68 ?_
    refine vN 11 S68 ?_
    refine vN 12 S68 ?_
    refine vN 13 S68 ?_
    refine vN 14 S68 ?_
    refine vN 15 S68 ?_
    refine vN 16 S68 ?_
    refine vT 17 S68 ?_
    refine vD ?_
    replace X2 := X2.later (bC kz47 b68)
    have oX2 := X2.o
    replace X1 := X1.later (bC kz47 b68)
    have oX1 := X1.o
    go_wp2_with fail
    refine vM (h14.out _ (ft.later (bC (bC (bC (bC (bC (bC (bC (bC (bC (bC (bC (bA (bA bR _) _) b1) b2) b3) b4) (bC (bA bR _) b5)) b6) kz7) b45) (bC (bA bR _) b46)) kz47) b68))) fun w69 b69 => ?_
    clear oX2 oX1
    replace X2 := X2.later b69
    have oX2 := X2.o
    replace X6 := X6.later (bC (bC kz47 b68) b69)
    have oX6 := X6.o
    replace X5 := X5.later (bC (bC kz47 b68) b69)
    have oX5 := X5.o
    go_wp2_with fail
    refine vM (h15.out _ (ft.later (bA (bC (bC (bC (bC (bC (bC (bC (bC (bC (bC (bC (bC (bA (bA bR _) _) b1) b2) b3) b4) (bC (bA bR _) b5)) b6) kz7) b45) (bC (bA bR _) b46)) kz47) b68) b69) _))) fun w70 b70 => ?_
    clear oX2 oX6 oX5
    go_wp2_with fail
    go_ret
    exact ⟨rfl, (bC (bC (bC (bC (bC (bC (bC (bC (bC (bC (bC (bC (bC (bA (bA bR _) _) b1) b2) b3) b4) (bC (bA bR _) b5)) b6) kz7) b45) (bC (bA bR _) b46)) kz47) b68) b69) (bC (bA bR _) b70))⟩
  · go_wp2_with fail
    replace X5 := X5.later kz47
    refine vR [] fun w68 b68 S68 => ?_
    refine vT 0 S68 ?_
    refine vT 1 S68 ?_ (hy := by intro wq hb; have q := (hb.hb X7 (by simp)).o; go_simp; try (with_reducible rfl))
    refine vT 2 S68 ?_
    refine vT 3 S68 ?_
    refine vT 4 S68 ?_
    refine vT 5 S68 ?_ (hy := by intro wq hb; have q := (hb.hb X7 (by simp)).o; go_simp; try (with_reducible rfl))
    refine vT 6 S68 ?_ (hy := by intro wq hb; have q := (hb.hb X5 (by simp)).o; go_simp; try (with_reducible rfl))
    refine vY1 (vC 7 S68 (h12.out _) (fun _ _ => Off.later) fun w69 b69 S69 => ?_)
    refine vT 8 S69 ?_
    refine vT 9 S69 ?_
    refine vT 10 S69 ?_
    refine vN 11 S69 ?_
    refine vN 12 S69 ?_
    refine vN 13 S69 ?_
    refine vN 14 S69 ?_
    refine vN 15 S69 ?_
    refine vN 16 S69 ?_
    refine vT 17 S69 ?_
    refine vD ?_
    replace X2 := X2.later (bC (bC kz47 b68) b69)
    have oX2 := X2.o
    replace X1 := X1.later (bC (bC kz47 b68) b69)
    have oX1 := X1.o
    go_wp2_with fail
    refine vM (h14.out _ (ft.later (bC (bC (bC (bC (bC (bC (bC (bC (bC (bC (bC (bC (bA (bA bR _) _) b1) b2) b3) b4) (bC (bA bR _) b5)) b6) kz7) b45) (bC (bA bR _) b46)) kz47) b68) b69))) fun w70 b70 => ?_
    clear oX2 oX1
    replace X2 := X2.later b70
    have oX2 := X2.o
    replace X6 := X6.later (bC (bC (bC kz47 b68) b69) b70)
    have oX6 := X6.o
    replace X5 := X5.later (bC (bC b68 b69) b70)
    have oX5 := X5.o
    go_wp2_with fail
    refine vM (h15.out _ (ft.later (bA (bC (bC (bC (bC (bC (bC (bC (bC (bC (bC (bC (bC (bC (bA (bA bR _) _) b1) b2) b3) b4) (bC (bA bR _) b5)) b6) kz7) b45) (bC (bA bR _) b46)) kz47) b68) b69) b70) _))) fun w71 b71 => ?_
    clear oX2 oX6 oX5
    go_wp2_with fail
    go_ret
    exact ⟨rfl, (bC (bC (bC (bC (bC (bC (bC (bC (bC (bC (bC (bC (bC (bC (bA (bA bR _) _) b1) b2) b3) b4) (bC (bA bR _) b5)) b6) kz7) b45) (bC (bA bR _) b46)) kz47) b68) b69) b70) (bC (bA bR _) b71))⟩
  · go_wp2_with fail
    replace X0 := X0.later kz47
    replace X2 := X2.later kz47
    replace X5 := X5.later kz47
    refine vR [] fun w68 b68 S68 => ?_
    refine vT 0 S68 ?_
    refine vT 1 S68 ?_ (hy := by intro wq hb; have q := (hb.hb X7 (by simp)).o; go_simp; try (with_reducible rfl))
    refine vT 2 S68 ?_
    refine vT 3 S68 ?_
    refine vT 4 S68 ?_
    refine vT 5 S68 ?_ (hy := by intro wq hb; have q := (hb.hb X7 (by simp)).o; go_simp; try (with_reducible rfl))
    refine vT 6 S68 ?_ (hy := by intro wq hb; have q := (hb.hb X5 (by simp)).o; go_simp; try (with_reducible rfl))
    refine vY1 (vC 7 S68 (h12.out _) (fun _ _ => Off.later) fun w69 b69 S69 => ?_)
    refine vT 8 S69 ?_
    refine vT 9 S69 ?_
    refine vT 10 S69 ?_
    refine vT 11 S69 ?_
    refine vT 12 S69 ?_ (hy := by intro wq hb; have q := (hb.hb X2 (by simp)).o; go_simp; try (with_reducible rfl))
    refine vT 13 S69 ?_
    refine vT 14 S69 ?_ (hy := by intro wq hb; have q := (hb.hb X0 (by simp)).o; go_simp; try (with_reducible rfl))
    refine vY1 (vC 15 S69 (h13.out _ (ft.later (bC (bC (bC (bC (bC (bC (bC (bC (bC (bC (bC (bC (bA (bA bR _) _) b1) b2) b3) b4) (bC (bA bR _) b5)) b6) kz7) b45) (bC (bA bR _) b46)) kz47) b68) b69))) (fun _ _ => Off.later) fun w70 b70 S70 => ?_)
    refine vT 16 S70 ?_
    refine vT 17 S70 ?_
    refine vD ?_
    replace X2 := X2.later (bC (bC b68 b69) b70)
    have oX2 := X2.o
    replace X1 := X1.later (bC (bC (bC kz47 b68) b69) b70)
    have oX1 := X1.o
    go_wp2_with fail
    refine vM (h14.out _ (ft.later (bC (bC (bC (bC (bC (bC (bC (bC (bC (bC (bC (bC (bC (bA (bA bR _) _) b1) b2) b3) b4) (bC (bA bR _) b5)) b6) kz7) b45) (bC (bA bR _) b46)) kz47) b68) b69) b70))) fun w71 b71 => ?_
    clear oX2 oX1
    replace X2 := X2.later b71
    have oX2 := X2.o
    replace X6 := X6.later (bC (bC (bC (bC kz47 b68) b69) b70) b71)
    have oX6 := X6.o
    replace X5 := X5.later (bC (bC (bC b68 b69) b70) b71)
    have oX5 := X5.o
    go_wp2_with fail
    refine vM (h15.out _ (ft.later (bA (bC (bC (bC (bC (bC (bC (bC (bC (bC (bC (bC (bC (bC (bC (bA (bA bR _) _) b1) b2) b3) b4) (bC (bA bR _) b5)) b6) kz7) b45) (bC (bA bR _) b46)) kz47) b68) b69) b70) b71) _))) fun w72 b72 => ?_
    clear oX2 oX6 oX5
    go_wp2_with fail
    go_ret
    exact ⟨rfl, (bC (bC (bC (bC (bC (bC (bC (bC (bC (bC (bC (bC (bC (bC (bC (bA (bA bR _) _) b1) b2) b3) b4) (bC (bA bR _) b5)) b6) kz7) b45) (bC (bA bR _) b46)) kz47) b68) b69) b70) b71) (bC (bA bR _) b72))⟩
theorem half23_nor (f ah al bh bl d k k2 af of_ rh rl xh xl yh yl sh sl zh zl oh ol : Int) (n : Bool)
    (h0 : Hid (∀ w, FTab w → Ca 14 #[.int .u8 f, U2 bh bl] w (.tuple #[.int .u8 d, .bool n])))
    (h1 : Hid (∀ w, FTab w → Ca 15 #[.int .u8 f] w (.bool true)))
    (h2 : Hid (∀ w, FTab w → Ca 16 #[.int .u8 f, U2 ah al] w (.bool true)))
    (h3 : Hid (∀ w, FTab w → Ca 12 #[.int .u8 f, U2 ah al, U2 bh bl] w (.agg #[.int .u64 rh, .int .u64 rl, .int .u8 0])))
    (h4 : Hid (∀ w, FTab w → Ca 16 #[.int .u8 f, U2 rh rl] w (.bool true)))
    (h5 : Hid (∀ w, FTab w → Ca 17 #[.int .u8 f, U2 rh rl] w (U2 xh xl)))
    (h6 : Hid (∀ w, FTab w → Ca 17 #[.int .u8 f, U2 bh bl] w (U2 yh yl)))
    (h7 : Hid (∀ w, FTab w → Ca 18 #[.int .u8 f, .agg #[.int .u8 4, .bool false], U2 xh xl, U2 xh xl] w (.agg #[.int .u64 sh, .int .u64 sl, .int .u8 af])))
    (h8 : Hid (∀ w, Ca 19 #[U2 sh sl, U2 yh yl] w (.int .i64 k)))
    (h9 : Hid (∀ w, FTab w → Ca 17 #[.int .u8 f, U2 ah al] w (U2 zh zl)))
    (h11 : Hid (∀ w, FTab w → Ca 18 #[.int .u8 f, .agg #[.int .u8 4, .bool false], U2 zh zl, U2 zh zl] w (.agg #[.int .u64 oh, .int .u64 ol, .int .u8 of_]))) (g2 : (d != 1) = true) (g3 : (d != 2) = false) (g4 : decide (0 < k) = false)
    (HH : (((of_ == 0) = false) ∧ Hid (∀ w, FTab w → Ca 12 #[.int .u8 f, U2 rh rl, U2 bh bl] w (.agg #[.int .u64 rh, .int .u64 rl, .int .u8 0])) ∧ Hid (∀ w, FTab w → Ca 11 #[] w (.bool true))) ∨ (((of_ == 0) = true) ∧ (decide (k2 < 0) = false) ∧ Hid (∀ w, Ca 19 #[U2 oh ol, U2 yh yl] w (.int .i64 k2)) ∧ Hid (∀ w, FTab w → Ca 12 #[.int .u8 f, U2 rh rl, U2 bh bl] w (.agg #[.int .u64 rh, .int .u64 rl, .int .u8 0])) ∧ Hid (∀ w, FTab w → Ca 11 #[] w (.bool true))) ∨ (((of_ == 0) = true) ∧ (decide (k2 < 0) = true) ∧ Hid (∀ w, Ca 19 #[U2 oh ol, U2 yh yl] w (.int .i64 k2)) ∧ Hid (∀ w, FTab w → Ca 20 #[.int .u8 f, U2 ah al] w (U2 rh rl)) ∧ Hid (∀ w, FTab w → Ca 12 #[.int .u8 f, U2 rh rl, U2 bh bl] w (.agg #[.int .u64 rh, .int .u64 rl, .int .u8 0])) ∧ Hid (∀ w, FTab w → Ca 11 #[] w (.bool true)))) (w : World) (ft : FTab w) :
    Ca 4 #[.int .u8 f, U2 ah al, U2 bh bl] w (.bool true) := by
  simp only [Ca, U2] at *
  have EQ := eqr23 rh rl 0
  have NE := neb23 rh rl
  go_enter Tryz.func4, Tryz.ntmps4
  go_wp2_with fail
  refine vM (h0.out _ (ft.later (bA (bA bR _) _))) fun w1 b1 => ?_
  have X0 := ((HB.newAt (b := w.heap.size) (by simp) _ _).alloc _).later b1
  have X1 := (HB.newAt (b := w.heap.size + 1) (by simp) _ _).later b1
  go_wp2_with fail
  refine vM (h1.out _ (ft.later (bC (bA (bA bR _) _) b1))) fun w2 b2 => ?_
  replace X0 := X0.later b2
  have oX0 := X0.o
  go_wp2_with fail
  refine vM (h2.out _ (ft.later (bC (bC (bA (bA bR _) _) b1) b2))) fun w3 b3 => ?_
  clear oX0
  replace X0 := X0.later b3
  have oX0 := X0.o
  replace X1 := X1.later (bC b2 b3)
  have oX1 := X1.o
  go_wp2_with fail
  refine vM (h3.out _ (ft.later (bC (bC (bC (bA (bA bR _) _) b1) b2) b3))) fun w4 b4 => ?_
  clear oX0 oX1
  go_wp2_with fail
  refine vM (h4.out _ (ft.later (bA (bC (bC (bC (bC (bA (bA bR _) _) b1) b2) b3) b4) _))) fun w5 b5 => ?_
  have X2 := (HB.newAt (b := w4.heap.size) (by simp) _ _).later b5
  go_wp2_with fail
  refine vF1 fun w6 b6 X3 => ?_
  replace X1 := X1.later (bC (bC b4 (bC (bA bR _) b5)) b6)
  replace X2 := X2.later b6
  refine' (have s7_12 : Hid (_ : Prop) := ?ns7_12; ?ms7_12)
  case' ms7_12 => skip
  refine' (have s7_11 : Hid (_ : Prop) := ?ns7_11; ?ms7_11)
  case' ms7_11 => skip
  refine' (have s7_10 : Hid (_ : Prop) := ?ns7_10; ?ms7_10)
  case' ms7_10 => skip
  refine' (have s7_9 : Hid (_ : Prop) := ?ns7_9; ?ms7_9)
  case' ms7_9 => skip
  refine' (have s7_8 : Hid (_ : Prop) := ?ns7_8; ?ms7_8)
  case' ms7_8 => skip
  refine' (have s7_7 : Hid (_ : Prop) := ?ns7_7; ?ms7_7)
  case' ms7_7 => skip
  refine' (have s7_6 : Hid (_ : Prop) := ?ns7_6; ?ms7_6)
  case' ms7_6 => skip
  refine' (have s7_5 : Hid (_ : Prop) := ?ns7_5; ?ms7_5)
  case' ms7_5 => skip
  refine' (have s7_4 : Hid (_ : Prop) := ?ns7_4; ?ms7_4)
  case' ms7_4 => skip
  refine' (have s7_3 : Hid (_ : Prop) := ?ns7_3; ?ms7_3)
  case' ms7_3 => skip
  refine' (have s7_2 : Hid (_ : Prop) := ?ns7_2; ?ms7_2)
  case' ms7_2 => skip
  refine' (have s7_1 : Hid (_ : Prop) := ?ns7_1; ?ms7_1)
  case' ms7_1 => skip
  refine' (have s7_0 : Hid (_ : Prop) := ?ns7_0; ?ms7_0)
  case' ms7_0 => skip
  refine vR [] fun w7 kz7 S => ?_
  refine vT 0 S ?_
  refine vT 1 S ?_
  refine vT 2 S ?_ (hy := by intro wq hb; have q := (hb.hb X2 (by simp)).o; go_simp; try (with_reducible rfl))
  refine vT 4 S ?_
  refine vT 5 S ?_ (hy := by intro wq hb; have q := (hb.hb X1 (by simp)).o; go_simp; try (with_reducible rfl))
  refine vY3 (cC 3 S (h5.out _ (ft.later (bC (bC (bC (bC (bC (bC (bC (bA (bA bR _) _) b1) b2) b3) b4) (bC (bA bR _) b5)) b6) kz7))) fun w8 b8 => ?_) (cA 7 S fun w9 pp6_0 h X4 b9 => ?_) (cA 8 S fun w10 pp6_1 h X5 b10 => ?_)
  replace kz7 := bC kz7 b8
  clear S b8 w7
  revert kz7; revert w8
  exact s7_0.out
  have jX4 := (lZ kz7.size h); replace kz7 := bC kz7 b9
  clear S b9 h w7
  revert kz7; revert jX4; revert X4; revert pp6_0; revert w9
  exact s7_1.out
  have jX5 := (lZ kz7.size h); replace kz7 := bC kz7 b10
  clear S b10 h w7
  revert kz7; revert jX5; revert X5; revert pp6_1; revert w10
  exact s7_2.out
  case' ns7_0 => refine lH ?_
  intro w11 kz7
  have S := Off.ofB kz7
  refine vY3 (cC 6 S (h6.out _ (ft.later (bC (bC (bC (bC (bC (bC (bC (bA (bA bR _) _) b1) b2) b3) b4) (bC (bA bR _) b5)) b6) kz7))) fun w12 b12 => ?_) (cA 7 S fun w13 pp6_0 h X4 b13 => ?_) (cA 8 S fun w14 pp6_1 h X5 b14 => ?_)
  replace kz7 := bC kz7 b12
  clear S b12 w11
  revert kz7; revert w12
  exact s7_3.out
  have jX4 := (lZ kz7.size h); replace kz7 := bC kz7 b13
  clear S b13 h w11
  revert kz7; revert jX4; revert X4; revert pp6_0; revert w13
  exact s7_4.out
  have jX5 := (lZ kz7.size h); replace kz7 := bC kz7 b14
  clear S b14 h w11
  revert kz7; revert jX5; revert X5; revert pp6_1; revert w14
  exact s7_5.out
  case' ns7_1 => refine lH ?_
  intro w15 pp6_0 X4 jX4 kz7
  have S := Off.ofB kz7
  refine vY2 (cC 3 S (h5.out _ (ft.later (bC (bC (bC (bC (bC (bC (bC (bA (bA bR _) _) b1) b2) b3) b4) (bC (bA bR _) b5)) b6) kz7))) fun w16 b16 => s7_4.out w16 pp6_0 (X4.later b16) jX4 (bC kz7 b16)) (cA 8 S fun w17 pp6_1 h X5 b17 => ?_)
  have ndX4_X5 : ¬ (pp6_0 = pp6_1) := (Nat.ne_of_lt (lY X4.lt h)); have jX5 := (lZ kz7.size h); replace X4 := (X4.later b17); replace kz7 := bC kz7 b17
  clear S b17 h w15
  revert kz7; revert ndX4_X5; revert jX5; revert jX4; revert X5; revert X4; revert pp6_1; revert pp6_0; revert w17
  exact s7_6.out
  case' ns7_2 => refine lH ?_
  intro w18 pp6_1 X5 jX5 kz7
  have S := Off.ofB kz7
  refine vY2 (cC 3 S (h5.out _ (ft.later (bC (bC (bC (bC (bC (bC (bC (bA (bA bR _) _) b1) b2) b3) b4) (bC (bA bR _) b5)) b6) kz7))) fun w19 b19 => s7_5.out w19 pp6_1 (X5.later b19) jX5 (bC kz7 b19)) (cA 7 S fun w20 pp6_0 h X4 b20 => s7_6.out w20 pp6_0 pp6_1 X4 (X5.later b20) (lZ kz7.size h) jX5 (Nat.ne_of_gt (lY X5.lt h)) (bC kz7 b20))
  case' ns7_3 => refine lH ?_
  intro w21 kz7
  have S := Off.ofB kz7
  refine vY2 (cA 7 S fun w22 pp6_0 h X4 b22 => ?_) (cA 8 S fun w23 pp6_1 h X5 b23 => ?_)
  have jX4 := (lZ kz7.size h); replace kz7 := bC kz7 b22
  clear S b22 h w21
  revert kz7; revert jX4; revert X4; revert pp6_0; revert w22
  exact s7_7.out
  have jX5 := (lZ kz7.size h); replace kz7 := bC kz7 b23
  clear S b23 h w21
  revert kz7; revert jX5; revert X5; revert pp6_1; revert w23
  exact s7_8.out
  case' ns7_4 => refine lH ?_
  intro w24 pp6_0 X4 jX4 kz7
  have S := Off.ofB kz7
  refine vY2 (cC 6 S (h6.out _ (ft.later (bC (bC (bC (bC (bC (bC (bC (bA (bA bR _) _) b1) b2) b3) b4) (bC (bA bR _) b5)) b6) kz7))) fun w25 b25 => s7_7.out w25 pp6_0 (X4.later b25) jX4 (bC kz7 b25)) (cA 8 S fun w26 pp6_1 h X5 b26 => ?_)
  have ndX4_X5 : ¬ (pp6_0 = pp6_1) := (Nat.ne_of_lt (lY X4.lt h)); have jX5 := (lZ kz7.size h); replace X4 := (X4.later b26); replace kz7 := bC kz7 b26
  clear S b26 h w24
  revert kz7; revert ndX4_X5; revert jX5; revert jX4; revert X5; revert X4; revert pp6_1; revert pp6_0; revert w26
  exact s7_9.out
  case' ns7_5 => refine lH ?_
  intro w27 pp6_1 X5 jX5 kz7
  have S := Off.ofB kz7
  refine vY2 (cC 6 S (h6.out _ (ft.later (bC (bC (bC (bC (bC (bC (bC (bA (bA bR _) _) b1) b2) b3) b4) (bC (bA bR _) b5)) b6) kz7))) fun w28 b28 => s7_8.out w28 pp6_1 (X5.later b28) jX5 (bC kz7 b28)) (cA 7 S fun w29 pp6_0 h X4 b29 => s7_9.out w29 pp6_0 pp6_1 X4 (X5.later b29) (lZ kz7.size h) jX5 (Nat.ne_of_gt (lY X5.lt h)) (bC kz7 b29))
  case' ns7_6 => refine lH ?_
  intro w30 pp6_0 pp6_1 X4 X5 jX4 jX5 ndX4_X5 kz7
  have S := Off.ofB kz7
  refine vY1 (cC 3 S (h5.out _ (ft.later (bC (bC (bC (bC (bC (bC (bC (bA (bA bR _) _) b1) b2) b3) b4) (bC (bA bR _) b5)) b6) kz7))) fun w31 b31 => s7_9.out w31 pp6_0 pp6_1 (X4.later b31) (X5.later b31) jX4 jX5 ndX4_X5 (bC kz7 b31))
  case' ns7_7 => refine lH ?_
  intro w32 pp6_0 X4 jX4 kz7
  have S := Off.ofB kz7
  refine vY1 (cA 8 S fun w33 pp6_1 h X5 b33 => ?_)
  have ndX4_X5 : ¬ (pp6_0 = pp6_1) := (Nat.ne_of_lt (lY X4.lt h)); have jX5 := (lZ kz7.size h); replace X4 := (X4.later b33); replace kz7 := bC kz7 b33
  clear S b33 h w32
  revert kz7; revert ndX4_X5; revert jX5; revert jX4; revert X5; revert X4; revert pp6_1; revert pp6_0; revert w33
  exact s7_10.out
  case' ns7_8 => refine lH ?_
  intro w34 pp6_1 X5 jX5 kz7
  have S := Off.ofB kz7
  refine vY1 (cA 7 S fun w35 pp6_0 h X4 b35 => s7_10.out w35 pp6_0 pp6_1 X4 (X5.later b35) (lZ kz7.size h) jX5 (Nat.ne_of_gt (lY X5.lt h)) (bC kz7 b35))
  case' ns7_9 => refine lH ?_
  intro w36 pp6_0 pp6_1 X4 X5 jX4 jX5 ndX4_X5 kz7
  have S := Off.ofB kz7
  refine vY1 (cC 6 S (h6.out _ (ft.later (bC (bC (bC (bC (bC (bC (bC (bA (bA bR _) _) b1) b2) b3) b4) (bC (bA bR _) b5)) b6) kz7))) fun w37 b37 => s7_10.out w37 pp6_0 pp6_1 (X4.later b37) (X5.later b37) jX4 jX5 ndX4_X5 (bC kz7 b37))
  case' ns7_10 => refine lH ?_
  intro w38 pp6_0 pp6_1 X4 X5 jX4 jX5 ndX4_X5 kz7
  have S := Off.ofB kz7
  refine vY1 (vO 9 fun K hK => ?_)
  have q := X4.o; have mX5 : ¬ (pp6_1 = pp6_0) := (by omega)
  go_simp
  refine vW (fun W => HB W pp6_0 25 #[.int .u64 xh, .int .u64 xl] ∧ HB W pp6_1 25 #[.int .u64 0, .int .u64 0] ∧ Below w6.heap.size w6 W) ⟨((X4.set 0 _).set 1 _), ((X5.other mX5 0 _).other mX5 1 _), ((kz7.setCell (p := ⟨pp6_0, 0, none⟩) jX4 _).setCell (p := ⟨pp6_0, 1, none⟩) jX4 _)⟩ fun w40 hz => ?_
  clear q mX5 X4 X5 S kz7 w38; obtain ⟨X4, X5, kz7⟩ := hz
  refine hK.out _ _ (Off.ofB kz7) fun S => ?_; clear hK K S; refine vP ?_
  revert kz7; revert ndX4_X5; revert jX5; revert jX4; revert X5; revert X4; revert pp6_1; revert pp6_0; revert w40
  exact s7_11.out
  case' ns7_11 => refine lH ?_
  intro w41 pp6_0 pp6_1 X4 X5 jX4 jX5 ndX4_X5 kz7
  have S := Off.ofB kz7
  refine vY1 (vO 10 fun K hK => ?_)
  have q := X5.o; have mX4 : ¬ (pp6_0 = pp6_1) := (by omega)
  go_simp
  refine vW (fun W => HB W pp6_0 25 #[.int .u64 xh, .int .u64 xl] ∧ HB W pp6_1 25 #[.int .u64 yh, .int .u64 yl] ∧ Below w6.heap.size w6 W) ⟨((X4.other mX4 0 _).other mX4 1 _), ((X5.set 0 _).set 1 _), ((kz7.setCell (p := ⟨pp6_1, 0, none⟩) jX5 _).setCell (p := ⟨pp6_1, 1, none⟩) jX5 _)⟩ fun w43 hz => ?_
  clear q mX4 X4 X5 S kz7 w41; obtain ⟨X4, X5, kz7⟩ := hz
  refine hK.out _ _ (Off.ofB kz7) fun S => ?_; clear hK K S; refine vP ?_
  revert kz7; revert ndX4_X5; revert jX5; revert jX4; revert X5; revert X4; revert pp6_1; revert pp6_0; revert w43
  exact s7_12.out
  case' ns7_12 => refine lH ?_
  intro w44 pp6_0 pp6_1 X4 X5 jX4 jX5 ndX4_X5 kz7
  refine vD ?_
  replace X0 := X0.later (bC (bC b4 (bC (bA bR _) b5)) b6)
  have nX0_X4 : w.heap.size < pp6_0 := by have := X0.lt; omega
  have nX0_X5 : w.heap.size < pp6_1 := by have := X0.lt; omega
  have nX1_X4 : w.heap.size + 1 < pp6_0 := by have := X1.lt; omega
  have nX1_X5 : w.heap.size + 1 < pp6_1 := by have := X1.lt; omega
  have nX2_X4 : w4.heap.size < pp6_0 := by have := X2.lt; omega
  have nX2_X5 : w4.heap.size < pp6_1 := by have := X2.lt; omega
  have nX3_X4 : w5.heap.size < pp6_0 := by have := X3.lt; omega
  have nX3_X5 : w5.heap.size < pp6_1 := by have := X3.lt; omega
  have gX4 : w.heap.size ≤ pp6_0 := by have := (bC (bC (bC (bC (bC (bC (bA (bA bR _) _) b1) b2) b3) b4) (bC (bA bR _) b5)) b6).size; omega
  have gX5 : w.heap.size ≤ pp6_1 := by have := (bC (bC (bC (bC (bC (bC (bA (bA bR _) _) b1) b2) b3) b4) (bC (bA bR _) b5)) b6).size; omega
  replace X3 := X3.later kz7
  have oX3 := X3.o
  have oX4 := X4.o
  go_wp2_with fail
  refine vM (h7.out _ (ft.later (bC (bC (bC (bC (bC (bC (bC (bA (bA bR _) _) b1) b2) b3) b4) (bC (bA bR _) b5)) b6) kz7))) fun w45 b45 => ?_
  clear oX3 oX4
  replace X5 := X5.later b45
  have oX5 := X5.o
  go_wp2_with fail
  refine vM (h8.out _) fun w46 b46 => ?_
  have nX5_X6 : pp6_1 < w45.heap.size := by have := X5.lt; omega
  have X6 := (HB.newAt (b := w45.heap.size) (by simp) _ _).later b46
  clear oX5
  go_wp2_with fail
  replace X0 := X0.later (bC (bC kz7 b45) (bC (bA bR _) b46))
  replace X3 := X3.later (bC b45 (bC (bA bR _) b46))
  refine' (have s47_7 : Hid (_ : Prop) := ?ns47_7; ?ms47_7)
  case' ms47_7 => skip
  refine' (have s47_6 : Hid (_ : Prop) := ?ns47_6; ?ms47_6)
  case' ms47_6 => skip
  refine' (have s47_5 : Hid (_ : Prop) := ?ns47_5; ?ms47_5)
  case' ms47_5 => skip
  refine' (have s47_4 : Hid (_ : Prop) := ?ns47_4; ?ms47_4)
  case' ms47_4 => skip
  refine' (have s47_3 : Hid (_ : Prop) := ?ns47_3; ?ms47_3)
  case' ms47_3 => skip
  refine' (have s47_2 : Hid (_ : Prop) := ?ns47_2; ?ms47_2)
  case' ms47_2 => skip
  refine' (have s47_1 : Hid (_ : Prop) := ?ns47_1; ?ms47_1)
  case' ms47_1 => skip
  refine' (have s47_0 : Hid (_ : Prop) := ?ns47_0; ?ms47_0)
  case' ms47_0 => skip
  refine vR [] fun w47 kz47 S => ?_
  refine vT 0 S ?_
  refine vT 1 S ?_ (hy := by intro wq hb; have q := (hb.hb X3 (by simp)).o; go_simp; try (with_reducible rfl))
  refine vT 2 S ?_
  refine vT 3 S ?_ (hy := by intro wq hb; have q := (hb.hb X0 (by simp)).o; go_simp; try (with_reducible rfl))
  refine vT 5 S ?_
  refine vT 6 S ?_ (hy := by intro wq hb; have q := (hb.hb X0 (by simp)).o; go_simp; try (with_reducible rfl))
  refine vY2 (cC 4 S (h9.out _ (ft.later (bC (bC (bC (bC (bC (bC (bC (bC (bC (bC (bA (bA bR _) _) b1) b2) b3) b4) (bC (bA bR _) b5)) b6) kz7) b45) (bC (bA bR _) b46)) kz47))) fun w48 b48 => ?_) (cA 9 S fun w49 pp46_0 h X7 b49 => ?_)
  replace kz47 := bC kz47 b48
  clear S b48 w47
  revert kz47; revert w48
  exact s47_0.out
  have jX7 := (lZ kz47.size h); replace kz47 := bC kz47 b49
  clear S b49 h w47
  revert kz47; revert jX7; revert X7; revert pp46_0; revert w49
  exact s47_1.out
  case' ns47_0 => refine lH ?_
  intro w50 kz47
  have S := Off.ofB kz47
  refine vY2 (cC 7 S (h9.out _ (ft.later (bC (bC (bC (bC (bC (bC (bC (bC (bC (bC (bA (bA bR _) _) b1) b2) b3) b4) (bC (bA bR _) b5)) b6) kz7) b45) (bC (bA bR _) b46)) kz47))) fun w51 b51 => ?_) (cA 9 S fun w52 pp46_0 h X7 b52 => ?_)
  replace kz47 := bC kz47 b51
  clear S b51 w50
  revert kz47; revert w51
  exact s47_2.out
  have jX7 := (lZ kz47.size h); replace kz47 := bC kz47 b52
  clear S b52 h w50
  revert kz47; revert jX7; revert X7; revert pp46_0; revert w52
  exact s47_3.out
  case' ns47_1 => refine lH ?_
  intro w53 pp46_0 X7 jX7 kz47
  have S := Off.ofB kz47
  refine vY1 (cC 4 S (h9.out _ (ft.later (bC (bC (bC (bC (bC (bC (bC (bC (bC (bC (bA (bA bR _) _) b1) b2) b3) b4) (bC (bA bR _) b5)) b6) kz7) b45) (bC (bA bR _) b46)) kz47))) fun w54 b54 => s47_3.out w54 pp46_0 (X7.later b54) jX7 (bC kz47 b54))
  case' ns47_2 => refine lH ?_
  intro w55 kz47
  have S := Off.ofB kz47
  refine vY2 (cC 8 S (h11.out _ (ft.later (bC (bC (bC (bC (bC (bC (bC (bC (bC (bC (bA (bA bR _) _) b1) b2) b3) b4) (bC (bA bR _) b5)) b6) kz7) b45) (bC (bA bR _) b46)) kz47))) fun w56 b56 => ?_) (cA 9 S fun w57 pp46_0 h X7 b57 => ?_)
  replace kz47 := bC kz47 b56
  clear S b56 w55
  revert kz47; revert w56
  exact s47_4.out
  have jX7 := (lZ kz47.size h); replace kz47 := bC kz47 b57
  clear S b57 h w55
  revert kz47; revert jX7; revert X7; revert pp46_0; revert w57
  exact s47_5.out
  case' ns47_3 => refine lH ?_
  intro w58 pp46_0 X7 jX7 kz47
  have S := Off.ofB kz47
  refine vY1 (cC 7 S (h9.out _ (ft.later (bC (bC (bC (bC (bC (bC (bC (bC (bC (bC (bA (bA bR _) _) b1) b2) b3) b4) (bC (bA bR _) b5)) b6) kz7) b45) (bC (bA bR _) b46)) kz47))) fun w59 b59 => s47_5.out w59 pp46_0 (X7.later b59) jX7 (bC kz47 b59))
  case' ns47_4 => refine lH ?_
  intro w60 kz47
  have S := Off.ofB kz47
  refine vY1 (cA 9 S fun w61 pp46_0 h X7 b61 => ?_)
  have jX7 := (lZ kz47.size h); replace kz47 := bC kz47 b61
  clear S b61 h w60
  revert kz47; revert jX7; revert X7; revert pp46_0; revert w61
  exact s47_6.out
  case' ns47_5 => refine lH ?_
  intro w62 pp46_0 X7 jX7 kz47
  have S := Off.ofB kz47
  refine vY1 (cC 8 S (h11.out _ (ft.later (bC (bC (bC (bC (bC (bC (bC (bC (bC (bC (bA (bA bR _) _) b1) b2) b3) b4) (bC (bA bR _) b5)) b6) kz7) b45) (bC (bA bR _) b46)) kz47))) fun w63 b63 => s47_6.out w63 pp46_0 (X7.later b63) jX7 (bC kz47 b63))
  case' ns47_6 => refine lH ?_
  intro w64 pp46_0 X7 jX7 kz47
  have S := Off.ofB kz47
  refine vY1 (vO 10 fun K hK => ?_)
  have q := X7.o
  go_simp
  refine vW (fun W => HB W pp46_0 30 #[.int .u64 oh, .int .u64 ol, .int .u8 of_] ∧ Below w46.heap.size w46 W) ⟨(((X7.set 0 _).set 1 _).set 2 _), (((kz47.setCell (p := ⟨pp46_0, 0, none⟩) jX7 _).setCell (p := ⟨pp46_0, 1, none⟩) jX7 _).setCell (p := ⟨pp46_0, 2, none⟩) jX7 _)⟩ fun w66 hz => ?_
  clear q X7 S kz47 w64; obtain ⟨X7, kz47⟩ := hz
  refine hK.out _ _ (Off.ofB kz47) fun S => ?_; clear hK K S; refine vP ?_
  revert kz47; revert jX7; revert X7; revert pp46_0; revert w66
  exact s47_7.out
  case' ns47_7 => refine lH ?_
  intro w67 pp46_0 X7 jX7 kz47
  refine vD ?_
  have nX0_X7 : w.heap.size < pp46_0 := by have := X0.lt; omega
  replace X1 := X1.later (bC (bC kz7 b45) (bC (bA bR _) b46))
  have nX1_X7 : w.heap.size + 1 < pp46_0 := by have := X1.lt; omega
  replace X2 := X2.later (bC (bC kz7 b45) (bC (bA bR _) b46))
  have nX2_X7 : w4.heap.size < pp46_0 := by have := X2.lt; omega
  replace X5 := X5.later (bC (bA bR _) b46)
  have nX5_X7 : pp6_1 < pp46_0 := by have := X5.lt; omega
  have nX6_X7 : w45.heap.size < pp46_0 := by have := X6.lt; omega
  have gX7 : w.heap.size ≤ pp46_0 := by have := (bC (bC (bC (bC (bC (bC (bC (bC (bC (bA (bA bR _) _) b1) b2) b3) b4) (bC (bA bR _) b5)) b6) kz7) b45) (bC (bA bR _) b46)).size; omega
  rcases HH with ⟨g5, h14, h15⟩ | ⟨g5, g6, h12, h14, h15⟩ | ⟨g5, g6, h12, h13, h14, h15⟩
  · go_wp2_with fail
    refine vR [] fun w68 b68 S68 => ?_
    refine vT 0 S68 ?_
    refine vT 1 S68 ?_ (hy := by intro wq hb; have q := (hb.hb X7 (by simp)).o; go_simp; try (with_reducible rfl))
    refine vT 2 S68 ?_
    refine vT 3 S68 ?_
    refine vN 4 S68 ?_
    refine vN 5 S68 ?_
    refine vN 6 S68 ?_
    refine vN 7 S68 ?_
    refine vN 8 S68 ?_
    refine vT 9 S68 ?_
    refine vT 10 S68 ?_
    refine vN 11 S68 ?_
    refine vN 12 S68 ?_
    refine vN 13 S68 ?_
    refine vN 14 S68 ?_
    refine vN 15 S68 ?_
    refine vN 16 S68 ?_
    refine vT 17 S68 ?_
    refine vD ?_
    replace X2 := X2.later (bC kz47 b68)
    have oX2 := X2.o
    replace X1 := X1.later (bC kz47 b68)
    have oX1 := X1.o
    go_wp2_with fail
    refine vM (h14.out _ (ft.later (bC (bC (bC (bC (bC (bC (bC (bC (bC (bC (bC (bA (bA bR _) _) b1) b2) b3) b4) (bC (bA bR _) b5)) b6) kz7) b45) (bC (bA bR _) b46)) kz47) b68))) fun w69 b69 => ?_
    clear oX2 oX1
    replace X2 := X2.later b69
    have oX2 := X2.o
    replace X6 := X6.later (bC (bC kz47 b68) b69)
    have oX6 := X6.o
    replace X5 := X5.later (bC (bC kz47 b68) b69)
    have oX5 := X5.o
    go_wp2_with fail
    refine vM (h15.out _ (ft.later (bA (bC (bC (bC (bC (bC (bC (bC (bC (bC (bC (bC (bC (bA (bA bR _) _) b1) b2) b3) b4) (bC (bA bR _) b5)) b6) kz7) b45) (bC (bA bR _) b46)) kz47) b68) b69) _))) fun w70 b70 => ?_
    clear oX2 oX6 oX5
    go_wp2_with fail
    go_ret
    exact ⟨rfl, (bC (bC (bC (bC (bC (bC (bC (bC (bC (bC (bC (bC (bC (bA (bA bR _) _) b1) b2) b3) b4) (bC (bA bR _) b5)) b6) kz7) b45) (bC (bA bR _) b46)) kz47) b68) b69) (bC (bA bR _) b70))⟩
  · go_wp2_with fail
    replace X5 := X5.later kz47
    refine vR [] fun w68 b68 S68 => ?_
    refine vT 0 S68 ?_
    refine vT 1 S68 ?_ (hy := by intro wq hb; have q := (hb.hb X7 (by simp)).o; go_simp; try (with_reducible rfl))
    refine vT 2 S68 ?_
    refine vT 3 S68 ?_
    refine vT 4 S68 ?_
    refine vT 5 S68 ?_ (hy := by intro wq hb; have q := (hb.hb X7 (by simp)).o; go_simp; try (with_reducible rfl))
    refine vT 6 S68 ?_ (hy := by intro wq hb; have q := (hb.hb X5 (by simp)).o; go_simp; try (with_reducible rfl))
    refine vY1 (vC 7 S68 (h12.out _) (fun _ _ => Off.later) fun w69 b69 S69 => ?_)
    refine vT 8 S69 ?_
    refine vT 9 S69 ?_
    refine vT 10 S69 ?_
    refine vN 11 S69 ?_
    refine vN 12 S69 ?_
    refine vN 13 S69 ?_
    refine vN 14 S69 ?_
    refine vN 15 S69 ?_
    refine vN 16 S69 ?_
    refine vT 17 S69 ?_
    refine vD ?_
    replace X2 := X2.later (bC (bC kz47 b68) b69)
    have oX2 := X2.o
    replace X1 := X1.later (bC (bC kz47 b68) b69)
    have oX1 := X1.o
    go_wp2_with fail
    refine vM (h14.out _ (ft.later (bC (bC (bC (bC (bC (bC (bC (bC (bC (bC (bC (bC (bA (bA bR _) _) b1) b2) b3) b4) (bC (bA bR _) b5)) b6) kz7) b45) (bC (bA bR _) b46)) kz47) b68) b69))) fun w70 b70 => ?_
    clear oX2 oX1
    replace X2 := X2.later b70
    have oX2 := X2.o
    replace X6 := X6.later (bC (bC (bC kz47 b68) b69) b70)
    have oX6 := X6.o
    replace X5 := X5.later (bC (bC b68 b69) b70)
    have oX5 := X5.o
    go_wp2_with fail
    refine vM (h15.out _ (ft.later (bA (bC (bC (bC (bC (bC (bC (bC (bC (bC (bC (bC (bC (bC (bA (bA bR _) _) b1) b2) b3) b4) (bC (bA bR _) b5)) b6) kz7) b45) (bC (bA bR _) b46)) kz47) b68) b69) b70) _))) fun w71 b71 => ?_
    clear oX2 oX6 oX5
    go_wp2_with fail
    go_ret
    exact ⟨rfl, (bC (bC (bC (bC (bC (bC (bC (bC (bC (bC (bC (bC (bC (bC (bA (bA bR _) _) b1) b2) b3) b4) (bC (bA bR _) b5)) b6) kz7) b45) (bC (bA bR _) b46)) kz47) b68) b69) b70) (bC (bA bR _) b71))⟩
  · go_wp2_with fail
    replace X0 := X0.later kz47
    replace X2 := X2.later kz47
    replace X5 := X5.later kz47
    refine vR [] fun w68 b68 S68 => ?_
    refine vT 0 S68 ?_
    refine vT 1 S68 ?_ (hy := by intro wq hb; have q := (hb.hb X7 (by simp)).o; go_simp; try (with_reducible rfl))
    refine vT 2 S68 ?_
    refine vT 3 S68 ?_
    refine vT 4 S68 ?_
    refine vT 5 S68 ?_ (hy := by intro wq hb; have q := (hb.hb X7 (by simp)).o; go_simp; try (with_reducible rfl))
    refine vT 6 S68 ?_ (hy := by intro wq hb; have q := (hb.hb X5 (by simp)).o; go_simp; try (with_reducible rfl))
    refine vY1 (vC 7 S68 (h12.out _) (fun _ _ => Off.later) fun w69 b69 S69 => ?_)
    refine vT 8 S69 ?_
    refine vT 9 S69 ?_
    refine vT 10 S69 ?_
    refine vT 11 S69 ?_
    refine vT 12 S69 ?_ (hy := by intro wq hb; have q := (hb.hb X2 (by simp)).o; go_simp; try (with_reducible rfl))
    refine vT 13 S69 ?_
    refine vT 14 S69 ?_ (hy := by intro wq hb; have q := (hb.hb X0 (by simp)).o; go_simp; try (with_reducible rfl))
    refine vY1 (vC 15 S69 (h13.out _ (ft.later (bC (bC (bC (bC (bC (bC (bC (bC (bC (bC (bC (bC (bA (bA bR _) _) b1) b2) b3) b4) (bC (bA bR _) b5)) b6) kz7) b45) (bC (bA bR _) b46)) kz47) b68) b69))) (fun _ _ => Off.later) fun w70 b70 S70 => ?_)
    refine vT 16 S70 ?_
    refine vT 17 S70 ?_
    refine vD ?_
    replace X2 := X2.later (bC (bC b68 b69) b70)
    have oX2 := X2.o
    replace X1 := X1.later (bC (bC (bC kz47 b68) b69) b70)
    have oX1 := X1.o
    go_wp2_with fail
    refine vM (h14.out _ (ft.later (bC (bC (bC (bC (bC (bC (bC (bC (bC (bC (bC (bC (bC (bA (bA bR _) _) b1) b2) b3) b4) (bC (bA bR _) b5)) b6) kz7) b45) (bC (bA bR _) b46)) kz47) b68) b69) b70))) fun w71 b71 => ?_
    clear oX2 oX1
    replace X2 := X2.later b71
    have oX2 := X2.o
    replace X6 := X6.later (bC (bC (bC (bC kz47 b68) b69) b70) b71)
    have oX6 := X6.o
    replace X5 := X5.later (bC (bC (bC b68 b69) b70) b71)
    have oX5 := X5.o
    go_wp2_with fail
    refine vM (h15.out _ (ft.later (bA (bC (bC (bC (bC (bC (bC (bC (bC (bC (bC (bC (bC (bC (bC (bA (bA bR _) _) b1) b2) b3) b4) (bC (bA bR _) b5)) b6) kz7) b45) (bC (bA bR _) b46)) kz47) b68) b69) b70) b71) _))) fun w72 b72 => ?_
    clear oX2 oX6 oX5
    go_wp2_with fail
    go_ret
    exact ⟨rfl, (bC (bC (bC (bC (bC (bC (bC (bC (bC (bC (bC (bC (bC (bC (bC (bA (bA bR _) _) b1) b2) b3) b4) (bC (bA bR _) b5)) b6) kz7) b45) (bC (bA bR _) b46)) kz47) b68) b69) b70) b71) (bC (bA bR _) b72))⟩
end Go.Proofs.YtjdjonekoodalaaGreatDoor
