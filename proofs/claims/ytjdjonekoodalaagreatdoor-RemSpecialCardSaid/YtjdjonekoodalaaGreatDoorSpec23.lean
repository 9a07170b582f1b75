import Derived.Test.YtjdjonekoodalaaGreatDoorGzC
set_option maxHeartbeats 4000000
set_option linter.unusedVariables false
set_option linter.unusedSimpArgs false
set_option maxRecDepth 100000
namespace Go.Proofs.YtjdjonekoodalaaGreatDoor
open Go.RowKit
attribute [local go_sem ↓] Go.wp_at_zero Go.wp_at_succ
theorem spec23_no (f ah al : Int) (ng : Bool)
    (h0 : Hid (∀ w, FTab w → Ca 15 #[.int .u8 f] w (.bool false)))
    (h1 : Hid (∀ w, FTab w → Ca 12 #[.int .u8 f, U2 ah al, U2 ah al] w (.agg #[.int .u64 0, .int .u64 0, .int .u8 0])))
    (h2 : Hid (∀ w, FTab w → Ca 11 #[] w (.bool true))) (w : World) (ft : FTab w) :
    Ca 8 #[.int .u8 f, U2 ah al, .bool ng] w (.bool true) := by
  simp only [Ca, U2] at *
  have EQ := eqr23 0 0 0
  go_enter Tryz.func8, Tryz.ntmps8
  go_wp2_with fail
  refine vM (h0.out _ (ft.later (bA bR _))) fun w1 b1 => ?_
  have X0 := (HB.newAt (b := w.heap.size) (by simp) _ _).later b1
  have oX0 := X0.o
  go_wp2_with fail
  refine vM (h1.out _ (ft.later (bC (bA bR _) b1))) fun w2 b2 => ?_
  clear oX0
  go_wp2_with fail
  refine vM (h2.out _ (ft.later (bC (bC (bA bR _) b1) b2))) fun w3 b3 => ?_
  go_wp2_with fail
  go_ret
  exact ⟨rfl, (bC (bC (bC (bA bR _) b1) b2) b3)⟩
theorem spec23_main (f ah al k xf yf zf vf nh nl ih il xh xl yh yl zh zl vh vl ch cl : Int) (ng na : Bool)
    (h0 : Hid (∀ w, FTab w → Ca 15 #[.int .u8 f] w (.bool true)))
    (h1 : Hid (∀ w, FTab w → Ca 14 #[.int .u8 f, U2 ah al] w (.tuple #[.int .u8 k, .bool na])))
    (h2 : Hid (∀ w, FTab w → Ca 24 #[.int .u8 f, .bool ng] w (U2 nh nl)))
    (h3 : Hid (∀ w, FTab w → Ca 12 #[.int .u8 f, U2 ah al, U2 nh nl] w (.agg #[.int .u64 xh, .int .u64 xl, .int .u8 xf])))
    (h4 : Hid (∀ w, FTab w → Ca 28 #[.int .u8 f, .bool ng] w (U2 ih il)))
    (h5 : Hid (∀ w, FTab w → Ca 12 #[.int .u8 f, U2 ih il, U2 ah al] w (.agg #[.int .u64 yh, .int .u64 yl, .int .u8 yf])))
    (h7 : Hid (∀ w, FTab w → Ca 12 #[.int .u8 f, U2 ah al, U2 ih il] w (.agg #[.int .u64 zh, .int .u64 zl, .int .u8 zf])))
    (h9 : Hid (∀ w, FTab w → Ca 12 #[.int .u8 f, U2 nh nl, U2 ah al] w (.agg #[.int .u64 vh, .int .u64 vl, .int .u8 vf])))
    (HH : ((decide (4 ≤ k) = true) ∧ ((zf == 1) = (k == 5)) ∧ (∀ w, (binOp .eql 30 (.agg #[.int .u64 zh, .int .u64 zl, .int .u8 zf]) (.agg #[.int .u64 vh, .int .u64 vl, .int .u8 vf])).run Tryz.prog w = .ok (.bool true) w) ∧ (∀ w, (binOp .eql 30 (.agg #[.int .u64 zh, .int .u64 zl, .int .u8 zf]) (.agg #[.int .u64 xh, .int .u64 xl, .int .u8 xf])).run Tryz.prog w = .ok (.bool true) w) ∧ (∀ w, (binOp .eql 30 (.agg #[.int .u64 zh, .int .u64 zl, .int .u8 zf]) (.agg #[.int .u64 yh, .int .u64 yl, .int .u8 yf])).run Tryz.prog w = .ok (.bool true) w) ∧ Hid (∀ w, FTab w → Ca 22 #[.int .u8 f, U2 zh zl] w (.bool true)) ∧ Hid (∀ w, FTab w → Ca 11 #[] w (.bool true))) ∨ ((decide (4 ≤ k) = false) ∧ (xf = 1) ∧ (yf = 1) ∧ ((k == 3) = true) ∧ (∀ w, (binOp .eql 30 (.agg #[.int .u64 vh, .int .u64 vl, .int .u8 vf]) (.agg #[.int .u64 nh, .int .u64 nl, .int .u8 0])).run Tryz.prog w = .ok (.bool true) w) ∧ Hid (∀ w, FTab w → Ca 22 #[.int .u8 f, U2 xh xl] w (.bool true)) ∧ Hid (∀ w, FTab w → Ca 22 #[.int .u8 f, U2 yh yl] w (.bool true)) ∧ Hid (∀ w, FTab w → Ca 22 #[.int .u8 f, U2 zh zl] w (.bool true)) ∧ Hid (∀ w, FTab w → Ca 11 #[] w (.bool true))) ∨ ((decide (4 ≤ k) = false) ∧ (xf = 1) ∧ (yf = 1) ∧ ((k == 3) = false) ∧ ((k == 0) = true) ∧ (vf = 1) ∧ (∀ w, (binOp .eql 30 (.agg #[.int .u64 zh, .int .u64 zl, .int .u8 zf]) (.agg #[.int .u64 ch, .int .u64 cl, .int .u8 0])).run Tryz.prog w = .ok (.bool true) w) ∧ Hid (∀ w, FTab w → Ca 22 #[.int .u8 f, U2 xh xl] w (.bool true)) ∧ Hid (∀ w, FTab w → Ca 22 #[.int .u8 f, U2 yh yl] w (.bool true)) ∧ Hid (∀ w, FTab w → Ca 20 #[.int .u8 f, U2 ah al] w (U2 ch cl)) ∧ Hid (∀ w, FTab w → Ca 11 #[] w (.bool true))) ∨ ((decide (4 ≤ k) = false) ∧ (xf = 1) ∧ (yf = 1) ∧ ((k == 3) = false) ∧ ((k == 0) = false) ∧ ((k != 0) = true) ∧ (∀ w, (binOp .eql 30 (.agg #[.int .u64 zh, .int .u64 zl, .int .u8 zf]) (.agg #[.int .u64 ch, .int .u64 cl, .int .u8 0])).run Tryz.prog w = .ok (.bool true) w) ∧ (∀ w, (binOp .eql 30 (.agg #[.int .u64 vh, .int .u64 vl, .int .u8 vf]) (.agg #[.int .u64 nh, .int .u64 nl, .int .u8 0])).run Tryz.prog w = .ok (.bool true) w) ∧ Hid (∀ w, FTab w → Ca 22 #[.int .u8 f, U2 xh xl] w (.bool true)) ∧ Hid (∀ w, FTab w → Ca 22 #[.int .u8 f, U2 yh yl] w (.bool true)) ∧ Hid (∀ w, FTab w → Ca 20 #[.int .u8 f, U2 ah al] w (U2 ch cl)) ∧ Hid (∀ w, FTab w → Ca 11 #[] w (.bool true)))) (w : World) (ft : FTab w) :
    Ca 8 #[.int .u8 f, U2 ah al, .bool ng] w (.bool true) := by
  simp only [Ca, U2] at *
  go_enter Tryz.func8, Tryz.ntmps8
  go_wp2_with fail
  refine vM (h0.out _ (ft.later (bA bR _))) fun w1 b1 => ?_
  have X0 := (HB.newAt (b := w.heap.size) (by simp) _ _).later b1
  have oX0 := X0.o
  go_wp2_with fail
  refine vM (h1.out _ (ft.later (bC (bA bR _) b1))) fun w2 b2 => ?_
  clear oX0
  go_wp2_with fail
  replace X0 := X0.later b2
  refine' (have s3_20 : Hid (_ : Prop) := ?ns3_20; ?ms3_20)
  case' ms3_20 => skip
  refine' (have s3_19 : Hid (_ : Prop) := ?ns3_19; ?ms3_19)
  case' ms3_19 => skip
  refine' (have s3_18 : Hid (_ : Prop) := ?ns3_18; ?ms3_18)
  case' ms3_18 => skip
  refine' (have s3_17 : Hid (_ : Prop) := ?ns3_17; ?ms3_17)
  case' ms3_17 => skip
  refine' (have s3_16 : Hid (_ : Prop) := ?ns3_16; ?ms3_16)
  case' ms3_16 => skip
  refine' (have s3_15 : Hid (_ : Prop) := ?ns3_15; ?ms3_15)
  case' ms3_15 => skip
  refine' (have s3_14 : Hid (_ : Prop) := ?ns3_14; ?ms3_14)
  case' ms3_14 => skip
  refine' (have s3_13 : Hid (_ : Prop) := ?ns3_13; ?ms3_13)
  case' ms3_13 => skip
  refine' (have s3_12 : Hid (_ : Prop) := ?ns3_12; ?ms3_12)
  case' ms3_12 => skip
  refine' (have s3_11 : Hid (_ : Prop) := ?ns3_11; ?ms3_11)
  case' ms3_11 => skip
  refine' (have s3_10 : Hid (_ : Prop) := ?ns3_10; ?ms3_10)
  case' ms3_10 => skip
  refine' (have s3_9 : Hid (_ : Prop) := ?ns3_9; ?ms3_9)
  case' ms3_9 => skip
  refine' (have s3_8 : Hid (_ : Prop) := ?ns3_8; ?ms3_8)
  case' ms3_8 => skip
  refine' (have s3_7 : Hid (_ : Prop) := ?ns3_7; ?ms3_7)
  case' ms3_7 => skip
  refine' (have s3_6 : Hid (_ : Prop) := ?ns3_6; ?ms3_6)
  case' ms3_6 => skip
  refine' (have s3_5 : Hid (_ : Prop) := ?ns3_5; ?ms3_5)
  case' ms3_5 => skip
  refine' (have s3_4 : Hid (_ : Prop) := ?ns3_4; ?ms3_4)
  case' ms3_4 => skip
  refine' (have s3_3 : Hid (_ : Prop) := ?ns3_3; ?ms3_3)
  case' ms3_3 => skip
  refine' (have s3_2 : Hid (_ : Prop) := ?ns3_2; ?ms3_2)
  case' ms3_2 => skip
  refine' (have s3_1 : Hid (_ : Prop) := ?ns3_1; ?ms3_1)
  case' ms3_1 => skip
  refine' (have s3_0 : Hid (_ : Prop) := ?ns3_0; ?ms3_0)
  case' ms3_0 => skip
  refine vR [] fun w3 kz3 S => ?_
  refine vT 0 S ?_
  refine vT 1 S ?_ (hy := by intro wq hb; have q := (hb.hb X0 (by simp)).o; go_simp; try (with_reducible rfl))
  refine vT 2 S ?_
  refine vT 3 S ?_
  refine vT 6 S ?_
  refine vT 7 S ?_
  refine vT 8 S ?_
  refine vT 10 S ?_ (hy := by intro wq hb; have q := (hb.hb X0 (by simp)).o; go_simp; try (with_reducible rfl))
  refine vY3 (cC 4 S (h2.out _ (ft.later (bC (bC (bC (bA bR _) b1) b2) kz3))) fun w4 b4 => ?_) (cA 12 S fun w5 pp2_0 h X1 b5 => ?_) (cA 13 S fun w6 pp2_1 h X2 b6 => ?_)
  replace kz3 := bC kz3 b4
  clear S b4 w3
  revert kz3; revert w4
  exact s3_0.out
  have jX1 := (lZ kz3.size h); replace kz3 := bC kz3 b5
  clear S b5 h w3
  revert kz3; revert jX1; revert X1; revert pp2_0; revert w5
  exact s3_1.out
  have jX2 := (lZ kz3.size h); replace kz3 := bC kz3 b6
  clear S b6 h w3
  revert kz3; revert jX2; revert X2; revert pp2_1; revert w6
  exact s3_2.out
  case' ns3_0 => refine lH ?_
  intro w7 kz3
  have S := Off.ofB kz3
  refine vY3 (cC 5 S (h3.out _ (ft.later (bC (bC (bC (bA bR _) b1) b2) kz3))) fun w8 b8 => ?_) (cA 12 S fun w9 pp2_0 h X1 b9 => ?_) (cA 13 S fun w10 pp2_1 h X2 b10 => ?_)
  replace kz3 := bC kz3 b8
  clear S b8 w7
  revert kz3; revert w8
  exact s3_3.out
  have jX1 := (lZ kz3.size h); replace kz3 := bC kz3 b9
  clear S b9 h w7
  revert kz3; revert jX1; revert X1; revert pp2_0; revert w9
  exact s3_4.out
  have jX2 := (lZ kz3.size h); replace kz3 := bC kz3 b10
  clear S b10 h w7
  revert kz3; revert jX2; revert X2; revert pp2_1; revert w10
  exact s3_5.out
  case' ns3_1 => refine lH ?_
  intro w11 pp2_0 X1 jX1 kz3
  have S := Off.ofB kz3
  refine vY2 (cC 4 S (h2.out _ (ft.later (bC (bC (bC (bA bR _) b1) b2) kz3))) fun w12 b12 => s3_4.out w12 pp2_0 (X1.later b12) jX1 (bC kz3 b12)) (cA 13 S fun w13 pp2_1 h X2 b13 => ?_)
  have ndX1_X2 : ¬ (pp2_0 = pp2_1) := (Nat.ne_of_lt (lY X1.lt h)); have jX2 := (lZ kz3.size h); replace X1 := (X1.later b13); replace kz3 := bC kz3 b13
  clear S b13 h w11
  revert kz3; revert ndX1_X2; revert jX2; revert jX1; revert X2; revert X1; revert pp2_1; revert pp2_0; revert w13
  exact s3_6.out
  case' ns3_2 => refine lH ?_
  intro w14 pp2_1 X2 jX2 kz3
  have S := Off.ofB kz3
  refine vY2 (cC 4 S (h2.out _ (ft.later (bC (bC (bC (bA bR _) b1) b2) kz3))) fun w15 b15 => s3_5.out w15 pp2_1 (X2.later b15) jX2 (bC kz3 b15)) (cA 12 S fun w16 pp2_0 h X1 b16 => s3_6.out w16 pp2_0 pp2_1 X1 (X2.later b16) (lZ kz3.size h) jX2 (Nat.ne_of_gt (lY X2.lt h)) (bC kz3 b16))
  case' ns3_3 => refine lH ?_
  intro w17 kz3
  have S := Off.ofB kz3
  refine vY3 (cC 9 S (h4.out _ (ft.later (bC (bC (bC (bA bR _) b1) b2) kz3))) fun w18 b18 => ?_) (cA 12 S fun w19 pp2_0 h X1 b19 => ?_) (cA 13 S fun w20 pp2_1 h X2 b20 => ?_)
  replace kz3 := bC kz3 b18
  clear S b18 w17
  revert kz3; revert w18
  exact s3_7.out
  have jX1 := (lZ kz3.size h); replace kz3 := bC kz3 b19
  clear S b19 h w17
  revert kz3; revert jX1; revert X1; revert pp2_0; revert w19
  exact s3_8.out
  have jX2 := (lZ kz3.size h); replace kz3 := bC kz3 b20
  clear S b20 h w17
  revert kz3; revert jX2; revert X2; revert pp2_1; revert w20
  exact s3_9.out
  case' ns3_4 => refine lH ?_
  intro w21 pp2_0 X1 jX1 kz3
  have S := Off.ofB kz3
  refine vY2 (cC 5 S (h3.out _ (ft.later (bC (bC (bC (bA bR _) b1) b2) kz3))) fun w22 b22 => s3_8.out w22 pp2_0 (X1.later b22) jX1 (bC kz3 b22)) (cA 13 S fun w23 pp2_1 h X2 b23 => ?_)
  have ndX1_X2 : ¬ (pp2_0 = pp2_1) := (Nat.ne_of_lt (lY X1.lt h)); have jX2 := (lZ kz3.size h); replace X1 := (X1.later b23); replace kz3 := bC kz3 b23
  clear S b23 h w21
  revert kz3; revert ndX1_X2; revert jX2; revert jX1; revert X2; revert X1; revert pp2_1; revert pp2_0; revert w23
  exact s3_10.out
  case' ns3_5 => refine lH ?_
  intro w24 pp2_1 X2 jX2 kz3
  have S := Off.ofB kz3
  refine vY2 (cC 5 S (h3.out _ (ft.later (bC (bC (bC (bA bR _) b1) b2) kz3))) fun w25 b25 => s3_9.out w25 pp2_1 (X2.later b25) jX2 (bC kz3 b25)) (cA 12 S fun w26 pp2_0 h X1 b26 => s3_10.out w26 pp2_0 pp2_1 X1 (X2.later b26) (lZ kz3.size h) jX2 (Nat.ne_of_gt (lY X2.lt h)) (bC kz3 b26))
  case' ns3_6 => refine lH ?_
  intro w27 pp2_0 pp2_1 X1 X2 jX1 jX2 ndX1_X2 kz3
  have S := Off.ofB kz3
  refine vY1 (cC 4 S (h2.out _ (ft.later (bC (bC (bC (bA bR _) b1) b2) kz3))) fun w28 b28 => s3_10.out w28 pp2_0 pp2_1 (X1.later b28) (X2.later b28) jX1 jX2 ndX1_X2 (bC kz3 b28))
  case' ns3_7 => refine lH ?_
  intro w29 kz3
  have S := Off.ofB kz3
  refine vY3 (cC 11 S (h5.out _ (ft.later (bC (bC (bC (bA bR _) b1) b2) kz3))) fun w30 b30 => ?_) (cA 12 S fun w31 pp2_0 h X1 b31 => ?_) (cA 13 S fun w32 pp2_1 h X2 b32 => ?_)
  replace kz3 := bC kz3 b30
  clear S b30 w29
  revert kz3; revert w30
  exact s3_11.out
  have jX1 := (lZ kz3.size h); replace kz3 := bC kz3 b31
  clear S b31 h w29
  revert kz3; revert jX1; revert X1; revert pp2_0; revert w31
  exact s3_12.out
  have jX2 := (lZ kz3.size h); replace kz3 := bC kz3 b32
  clear S b32 h w29
  revert kz3; revert jX2; revert X2; revert pp2_1; revert w32
  exact s3_13.out
  case' ns3_8 => refine lH ?_
  intro w33 pp2_0 X1 jX1 kz3
  have S := Off.ofB kz3
  refine vY2 (cC 9 S (h4.out _ (ft.later (bC (bC (bC (bA bR _) b1) b2) kz3))) fun w34 b34 => s3_12.out w34 pp2_0 (X1.later b34) jX1 (bC kz3 b34)) (cA 13 S fun w35 pp2_1 h X2 b35 => ?_)
  have ndX1_X2 : ¬ (pp2_0 = pp2_1) := (Nat.ne_of_lt (lY X1.lt h)); have jX2 := (lZ kz3.size h); replace X1 := (X1.later b35); replace kz3 := bC kz3 b35
  clear S b35 h w33
  revert kz3; revert ndX1_X2; revert jX2; revert jX1; revert X2; revert X1; revert pp2_1; revert pp2_0; revert w35
  exact s3_14.out
  case' ns3_9 => refine lH ?_
  intro w36 pp2_1 X2 jX2 kz3
  have S := Off.ofB kz3
  refine vY2 (cC 9 S (h4.out _ (ft.later (bC (bC (bC (bA bR _) b1) b2) kz3))) fun w37 b37 => s3_13.out w37 pp2_1 (X2.later b37) jX2 (bC kz3 b37)) (cA 12 S fun w38 pp2_0 h X1 b38 => s3_14.out w38 pp2_0 pp2_1 X1 (X2.later b38) (lZ kz3.size h) jX2 (Nat.ne_of_gt (lY X2.lt h)) (bC kz3 b38))
  case' ns3_10 => refine lH ?_
  intro w39 pp2_0 pp2_1 X1 X2 jX1 jX2 ndX1_X2 kz3
  have S := Off.ofB kz3
  refine vY1 (cC 5 S (h3.out _ (ft.later (bC (bC (bC (bA bR _) b1) b2) kz3))) fun w40 b40 => s3_14.out w40 pp2_0 pp2_1 (X1.later b40) (X2.later b40) jX1 jX2 ndX1_X2 (bC kz3 b40))
  case' ns3_11 => refine lH ?_
  intro w41 kz3
  have S := Off.ofB kz3
  refine vY2 (cA 12 S fun w42 pp2_0 h X1 b42 => ?_) (cA 13 S fun w43 pp2_1 h X2 b43 => ?_)
  have jX1 := (lZ kz3.size h); replace kz3 := bC kz3 b42
  clear S b42 h w41
  revert kz3; revert jX1; revert X1; revert pp2_0; revert w42
  exact s3_15.out
  have jX2 := (lZ kz3.size h); replace kz3 := bC kz3 b43
  clear S b43 h w41
  revert kz3; revert jX2; revert X2; revert pp2_1; revert w43
  exact s3_16.out
  case' ns3_12 => refine lH ?_
  intro w44 pp2_0 X1 jX1 kz3
  have S := Off.ofB kz3
  refine vY2 (cC 11 S (h5.out _ (ft.later (bC (bC (bC (bA bR _) b1) b2) kz3))) fun w45 b45 => s3_15.out w45 pp2_0 (X1.later b45) jX1 (bC kz3 b45)) (cA 13 S fun w46 pp2_1 h X2 b46 => ?_)
  have ndX1_X2 : ¬ (pp2_0 = pp2_1) := (Nat.ne_of_lt (lY X1.lt h)); have jX2 := (lZ kz3.size h); replace X1 := (X1.later b46); replace kz3 := bC kz3 b46
  clear S b46 h w44
  revert kz3; revert ndX1_X2; revert jX2; revert jX1; revert X2; revert X1; revert pp2_1; revert pp2_0; revert w46
  exact s3_17.out
  case' ns3_13 => refine lH ?_
  intro w47 pp2_1 X2 jX2 kz3
  have S := Off.ofB kz3
  refine vY2 (cC 11 S (h5.out _ (ft.later (bC (bC (bC (bA bR _) b1) b2) kz3))) fun w48 b48 => s3_16.out w48 pp2_1 (X2.later b48) jX2 (bC kz3 b48)) (cA 12 S fun w49 pp2_0 h X1 b49 => s3_17.out w49 pp2_0 pp2_1 X1 (X2.later b49) (lZ kz3.size h) jX2 (Nat.ne_of_gt (lY X2.lt h)) (bC kz3 b49))
  case' ns3_14 => refine lH ?_
  intro w50 pp2_0 pp2_1 X1 X2 jX1 jX2 ndX1_X2 kz3
  have S := Off.ofB kz3
  refine vY1 (cC 9 S (h4.out _ (ft.later (bC (bC (bC (bA bR _) b1) b2) kz3))) fun w51 b51 => s3_17.out w51 pp2_0 pp2_1 (X1.later b51) (X2.later b51) jX1 jX2 ndX1_X2 (bC kz3 b51))
  case' ns3_15 => refine lH ?_
  intro w52 pp2_0 X1 jX1 kz3
  have S := Off.ofB kz3
  refine vY1 (cA 13 S fun w53 pp2_1 h X2 b53 => ?_)
  have ndX1_X2 : ¬ (pp2_0 = pp2_1) := (Nat.ne_of_lt (lY X1.lt h)); have jX2 := (lZ kz3.size h); replace X1 := (X1.later b53); replace kz3 := bC kz3 b53
  clear S b53 h w52
  revert kz3; revert ndX1_X2; revert jX2; revert jX1; revert X2; revert X1; revert pp2_1; revert pp2_0; revert w53
  exact s3_18.out
  case' ns3_16 => refine lH ?_
  intro w54 pp2_1 X2 jX2 kz3
  have S := Off.ofB kz3
  refine vY1 (cA 12 S fun w55 pp2_0 h X1 b55 => s3_18.out w55 pp2_0 pp2_1 X1 (X2.later b55) (lZ kz3.size h) jX2 (Nat.ne_of_gt (lY X2.lt h)) (bC kz3 b55))
  case' ns3_17 => refine lH ?_
  intro w56 pp2_0 pp2_1 X1 X2 jX1 jX2 ndX1_X2 kz3
  have S := Off.ofB kz3
  refine vY1 (cC 11 S (h5.out _ (ft.later (bC (bC (bC (bA bR _) b1) b2) kz3))) fun w57 b57 => s3_18.out w57 pp2_0 pp2_1 (X1.later b57) (X2.later b57) jX1 jX2 ndX1_X2 (bC kz3 b57))
  case' ns3_18 => refine lH ?_
  intro w58 pp2_0 pp2_1 X1 X2 jX1 jX2 ndX1_X2 kz3
  have S := Off.ofB kz3
  refine vY1 (vO 14 fun K hK => ?_)
  have q := X1.o; have mX2 : ¬ (pp2_1 = pp2_0) := (by omega)
  go_simp
  refine vW (fun W => HB W pp2_0 30 #[.int .u64 xh, .int .u64 xl, .int .u8 xf] ∧ HB W pp2_1 30 #[.int .u64 0, .int .u64 0, .int .u8 0] ∧ Below w2.heap.size w2 W) ⟨(((X1.set 0 _).set 1 _).set 2 _), (((X2.other mX2 0 _).other mX2 1 _).other mX2 2 _), (((kz3.setCell (p := ⟨pp2_0, 0, none⟩) jX1 _).setCell (p := ⟨pp2_0, 1, none⟩) jX1 _).setCell (p := ⟨pp2_0, 2, none⟩) jX1 _)⟩ fun w60 hz => ?_
  clear q mX2 X1 X2 S kz3 w58; obtain ⟨X1, X2, kz3⟩ := hz
  refine hK.out _ _ (Off.ofB kz3) fun S => ?_; clear hK K S; refine vP ?_
  revert kz3; revert ndX1_X2; revert jX2; revert jX1; revert X2; revert X1; revert pp2_1; revert pp2_0; revert w60
  exact s3_19.out
  case' ns3_19 => refine lH ?_
  intro w61 pp2_0 pp2_1 X1 X2 jX1 jX2 ndX1_X2 kz3
  have S := Off.ofB kz3
  refine vY1 (vO 15 fun K hK => ?_)
  have q := X2.o; have mX1 : ¬ (pp2_0 = pp2_1) := (by omega)
  go_simp
  refine vW (fun W => HB W pp2_0 30 #[.int .u64 xh, .int .u64 xl, .int .u8 xf] ∧ HB W pp2_1 30 #[.int .u64 yh, .int .u64 yl, .int .u8 yf] ∧ Below w2.heap.size w2 W) ⟨(((X1.other mX1 0 _).other mX1 1 _).other mX1 2 _), (((X2.set 0 _).set 1 _).set 2 _), (((kz3.setCell (p := ⟨pp2_1, 0, none⟩) jX2 _).setCell (p := ⟨pp2_1, 1, none⟩) jX2 _).setCell (p := ⟨pp2_1, 2, none⟩) jX2 _)⟩ fun w63 hz => ?_
  clear q mX1 X1 X2 S kz3 w61; obtain ⟨X1, X2, kz3⟩ := hz
  refine hK.out _ _ (Off.ofB kz3) fun S => ?_; clear hK K S; refine vP ?_
  revert kz3; revert ndX1_X2; revert jX2; revert jX1; revert X2; revert X1; revert pp2_1; revert pp2_0; revert w63
  exact s3_20.out
  case' ns3_20 => refine lH ?_
  intro w64 pp2_0 pp2_1 X1 X2 jX1 jX2 ndX1_X2 kz3
  refine vD ?_
  have nX0_X1 : w.heap.size < pp2_0 := by have := X0.lt; omega
  have nX0_X2 : w.heap.size < pp2_1 := by have := X0.lt; omega
  have gX1 : w.heap.size ≤ pp2_0 := by have := (bC (bC (bA bR _) b1) b2).size; omega
  have gX2 : w.heap.size ≤ pp2_1 := by have := (bC (bC (bA bR _) b1) b2).size; omega
  go_wp2_with fail
  replace X0 := X0.later kz3
  refine' (have s65_20 : Hid (_ : Prop) := ?ns65_20; ?ms65_20)
  case' ms65_20 => skip
  refine' (have s65_19 : Hid (_ : Prop) := ?ns65_19; ?ms65_19)
  case' ms65_19 => skip
  refine' (have s65_18 : Hid (_ : Prop) := ?ns65_18; ?ms65_18)
  case' ms65_18 => skip
  refine' (have s65_17 : Hid (_ : Prop) := ?ns65_17; ?ms65_17)
  case' ms65_17 => skip
  refine' (have s65_16 : Hid (_ : Prop) := ?ns65_16; ?ms65_16)
  case' ms65_16 => skip
  refine' (have s65_15 : Hid (_ : Prop) := ?ns65_15; ?ms65_15)
  case' ms65_15 => skip
  refine' (have s65_14 : Hid (_ : Prop) := ?ns65_14; ?ms65_14)
  case' ms65_14 => skip
  refine' (have s65_13 : Hid (_ : Prop) := ?ns65_13; ?ms65_13)
  case' ms65_13 => skip
  refine' (have s65_12 : Hid (_ : Prop) := ?ns65_12; ?ms65_12)
  case' ms65_12 => skip
  refine' (have s65_11 : Hid (_ : Prop) := ?ns65_11; ?ms65_11)
  case' ms65_11 => skip
  refine' (have s65_10 : Hid (_ : Prop) := ?ns65_10; ?ms65_10)
  case' ms65_10 => skip
  refine' (have s65_9 : Hid (_ : Prop) := ?ns65_9; ?ms65_9)
  case' ms65_9 => skip
  refine' (have s65_8 : Hid (_ : Prop) := ?ns65_8; ?ms65_8)
  case' ms65_8 => skip
  refine' (have s65_7 : Hid (_ : Prop) := ?ns65_7; ?ms65_7)
  case' ms65_7 => skip
  refine' (have s65_6 : Hid (_ : Prop) := ?ns65_6; ?ms65_6)
  case' ms65_6 => skip
  refine' (have s65_5 : Hid (_ : Prop) := ?ns65_5; ?ms65_5)
  case' ms65_5 => skip
  refine' (have s65_4 : Hid (_ : Prop) := ?ns65_4; ?ms65_4)
  case' ms65_4 => skip
  refine' (have s65_3 : Hid (_ : Prop) := ?ns65_3; ?ms65_3)
  case' ms65_3 => skip
  refine' (have s65_2 : Hid (_ : Prop) := ?ns65_2; ?ms65_2)
  case' ms65_2 => skip
  refine' (have s65_1 : Hid (_ : Prop) := ?ns65_1; ?ms65_1)
  case' ms65_1 => skip
  refine' (have s65_0 : Hid (_ : Prop) := ?ns65_0; ?ms65_0)
  case' ms65_0 => skip
  refine vR [] fun w65 kz65 S => ?_
  refine vT 0 S ?_
  refine vT 1 S ?_ (hy := by intro wq hb; have q := (hb.hb X0 (by simp)).o; go_simp; try (with_reducible rfl))
  refine vT 2 S ?_
  refine vT 3 S ?_
  refine vT 6 S ?_
  refine vT 7 S ?_
  refine vT 8 S ?_
  refine vT 10 S ?_ (hy := by intro wq hb; have q := (hb.hb X0 (by simp)).o; go_simp; try (with_reducible rfl))
  refine vY3 (cC 4 S (h4.out _ (ft.later (bC (bC (bC (bC (bA bR _) b1) b2) kz3) kz65))) fun w66 b66 => ?_) (cA 12 S fun w67 pp64_0 h X3 b67 => ?_) (cA 13 S fun w68 pp64_1 h X4 b68 => ?_)
  replace kz65 := bC kz65 b66
  clear S b66 w65
  revert kz65; revert w66
  exact s65_0.out
  have jX3 := (lZ kz65.size h); replace kz65 := bC kz65 b67
  clear S b67 h w65
  revert kz65; revert jX3; revert X3; revert pp64_0; revert w67
  exact s65_1.out
  have jX4 := (lZ kz65.size h); replace kz65 := bC kz65 b68
  clear S b68 h w65
  revert kz65; revert jX4; revert X4; revert pp64_1; revert w68
  exact s65_2.out
  case' ns65_0 => refine lH ?_
  intro w69 kz65
  have S := Off.ofB kz65
  refine vY3 (cC 5 S (h7.out _ (ft.later (bC (bC (bC (bC (bA bR _) b1) b2) kz3) kz65))) fun w70 b70 => ?_) (cA 12 S fun w71 pp64_0 h X3 b71 => ?_) (cA 13 S fun w72 pp64_1 h X4 b72 => ?_)
  replace kz65 := bC kz65 b70
  clear S b70 w69
  revert kz65; revert w70
  exact s65_3.out
  have jX3 := (lZ kz65.size h); replace kz65 := bC kz65 b71
  clear S b71 h w69
  revert kz65; revert jX3; revert X3; revert pp64_0; revert w71
  exact s65_4.out
  have jX4 := (lZ kz65.size h); replace kz65 := bC kz65 b72
  clear S b72 h w69
  revert kz65; revert jX4; revert X4; revert pp64_1; revert w72
  exact s65_5.out
  case' ns65_1 => refine lH ?_
  intro w73 pp64_0 X3 jX3 kz65
  have S := Off.ofB kz65
  refine vY2 (cC 4 S (h4.out _ (ft.later (bC (bC (bC (bC (bA bR _) b1) b2) kz3) kz65))) fun w74 b74 => s65_4.out w74 pp64_0 (X3.later b74) jX3 (bC kz65 b74)) (cA 13 S fun w75 pp64_1 h X4 b75 => ?_)
  have ndX3_X4 : ¬ (pp64_0 = pp64_1) := (Nat.ne_of_lt (lY X3.lt h)); have jX4 := (lZ kz65.size h); replace X3 := (X3.later b75); replace kz65 := bC kz65 b75
  clear S b75 h w73
  revert kz65; revert ndX3_X4; revert jX4; revert jX3; revert X4; revert X3; revert pp64_1; revert pp64_0; revert w75
  exact s65_6.out
  case' ns65_2 => refine lH ?_
  intro w76 pp64_1 X4 jX4 kz65
  have S := Off.ofB kz65
  refine vY2 (cC 4 S (h4.out _ (ft.later (bC (bC (bC (bC (bA bR _) b1) b2) kz3) kz65))) fun w77 b77 => s65_5.out w77 pp64_1 (X4.later b77) jX4 (bC kz65 b77)) (cA 12 S fun w78 pp64_0 h X3 b78 => s65_6.out w78 pp64_0 pp64_1 X3 (X4.later b78) (lZ kz65.size h) jX4 (Nat.ne_of_gt (lY X4.lt h)) (bC kz65 b78))
  case' ns65_3 => refine lH ?_
  intro w79 kz65
  have S := Off.ofB kz65
  refine vY3 (cC 9 S (h2.out _ (ft.later (bC (bC (bC (bC (bA bR _) b1) b2) kz3) kz65))) fun w80 b80 => ?_) (cA 12 S fun w81 pp64_0 h X3 b81 => ?_) (cA 13 S fun w82 pp64_1 h X4 b82 => ?_)
  replace kz65 := bC kz65 b80
  clear S b80 w79
  revert kz65; revert w80
  exact s65_7.out
  have jX3 := (lZ kz65.size h); replace kz65 := bC kz65 b81
  clear S b81 h w79
  revert kz65; revert jX3; revert X3; revert pp64_0; revert w81
  exact s65_8.out
  have jX4 := (lZ kz65.size h); replace kz65 := bC kz65 b82
  clear S b82 h w79
  revert kz65; revert jX4; revert X4; revert pp64_1; revert w82
  exact s65_9.out
  case' ns65_4 => refine lH ?_
  intro w83 pp64_0 X3 jX3 kz65
  have S := Off.ofB kz65
  refine vY2 (cC 5 S (h7.out _ (ft.later (bC (bC (bC (bC (bA bR _) b1) b2) kz3) kz65))) fun w84 b84 => s65_8.out w84 pp64_0 (X3.later b84) jX3 (bC kz65 b84)) (cA 13 S fun w85 pp64_1 h X4 b85 => ?_)
  have ndX3_X4 : ¬ (pp64_0 = pp64_1) := (Nat.ne_of_lt (lY X3.lt h)); have jX4 := (lZ kz65.size h); replace X3 := (X3.later b85); replace kz65 := bC kz65 b85
  clear S b85 h w83
  revert kz65; revert ndX3_X4; revert jX4; revert jX3; revert X4; revert X3; revert pp64_1; revert pp64_0; revert w85
  exact s65_10.out
  case' ns65_5 => refine lH ?_
  intro w86 pp64_1 X4 jX4 kz65
  have S := Off.ofB kz65
  refine vY2 (cC 5 S (h7.out _ (ft.later (bC (bC (bC (bC (bA bR _) b1) b2) kz3) kz65))) fun w87 b87 => s65_9.out w87 pp64_1 (X4.later b87) jX4 (bC kz65 b87)) (cA 12 S fun w88 pp64_0 h X3 b88 => s65_10.out w88 pp64_0 pp64_1 X3 (X4.later b88) (lZ kz65.size h) jX4 (Nat.ne_of_gt (lY X4.lt h)) (bC kz65 b88))
  case' ns65_6 => refine lH ?_
  intro w89 pp64_0 pp64_1 X3 X4 jX3 jX4 ndX3_X4 kz65
  have S := Off.ofB kz65
  refine vY1 (cC 4 S (h4.out _ (ft.later (bC (bC (bC (bC (bA bR _) b1) b2) kz3) kz65))) fun w90 b90 => s65_10.out w90 pp64_0 pp64_1 (X3.later b90) (X4.later b90) jX3 jX4 ndX3_X4 (bC kz65 b90))
  case' ns65_7 => refine lH ?_
  intro w91 kz65
  have S := Off.ofB kz65
  refine vY3 (cC 11 S (h9.out _ (ft.later (bC (bC (bC (bC (bA bR _) b1) b2) kz3) kz65))) fun w92 b92 => ?_) (cA 12 S fun w93 pp64_0 h X3 b93 => ?_) (cA 13 S fun w94 pp64_1 h X4 b94 => ?_)
  replace kz65 := bC kz65 b92
  clear S b92 w91
  revert kz65; revert w92
  exact s65_11.out
  have jX3 := (lZ kz65.size h); replace kz65 := bC kz65 b93
  clear S b93 h w91
  revert kz65; revert jX3; revert X3; revert pp64_0; revert w93
  exact s65_12.out
  have jX4 := (lZ kz65.size h); replace kz65 := bC kz65 b94
  clear S b94 h w91
  revert kz65; revert jX4; revert X4; revert pp64_1; revert w94
  exact s65_13.out
  case' ns65_8 => refine lH ?_
  intro w95 pp64_0 X3 jX3 kz65
  have S := Off.ofB kz65
  refine vY2 (cC 9 S (h2.out _ (ft.later (bC (bC (bC (bC (bA bR _) b1) b2) kz3) kz65))) fun w96 b96 => s65_12.out w96 pp64_0 (X3.later b96) jX3 (bC kz65 b96)) (cA 13 S fun w97 pp64_1 h X4 b97 => ?_)
  have ndX3_X4 : ¬ (pp64_0 = pp64_1) := (Nat.ne_of_lt (lY X3.lt h)); have jX4 := (lZ kz65.size h); replace X3 := (X3.later b97); replace kz65 := bC kz65 b97
  clear S b97 h w95
  revert kz65; revert ndX3_X4; revert jX4; revert jX3; revert X4; revert X3; revert pp64_1; revert pp64_0; revert w97
  exact s65_14.out
  case' ns65_9 => refine lH ?_
  intro w98 pp64_1 X4 jX4 kz65
  have S := Off.ofB kz65
  refine vY2 (cC 9 S (h2.out _ (ft.later (bC (bC (bC (bC (bA bR _) b1) b2) kz3) kz65))) fun w99 b99 => s65_13.out w99 pp64_1 (X4.later b99) jX4 (bC kz65 b99)) (cA 12 S fun w100 pp64_0 h X3 b100 => s65_14.out w100 pp64_0 pp64_1 X3 (X4.later b100) (lZ kz65.size h) jX4 (Nat.ne_of_gt (lY X4.lt h)) (bC kz65 b100))
  case' ns65_10 => refine lH ?_
  intro w101 pp64_0 pp64_1 X3 X4 jX3 jX4 ndX3_X4 kz65
  have S := Off.ofB kz65
  refine vY1 (cC 5 S (h7.out _ (ft.later (bC (bC (bC (bC (bA bR _) b1) b2) kz3) kz65))) fun w102 b102 => s65_14.out w102 pp64_0 pp64_1 (X3.later b102) (X4.later b102) jX3 jX4 ndX3_X4 (bC kz65 b102))
  case' ns65_11 => refine lH ?_
  intro w103 kz65
  have S := Off.ofB kz65
  refine vY2 (cA 12 S fun w104 pp64_0 h X3 b104 => ?_) (cA 13 S fun w105 pp64_1 h X4 b105 => ?_)
  have jX3 := (lZ kz65.size h); replace kz65 := bC kz65 b104
  clear S b104 h w103
  revert kz65; revert jX3; revert X3; revert pp64_0; revert w104
  exact s65_15.out
  have jX4 := (lZ kz65.size h); replace kz65 := bC kz65 b105
  clear S b105 h w103
  revert kz65; revert jX4; revert X4; revert pp64_1; revert w105
  exact s65_16.out
  case' ns65_12 => refine lH ?_
  intro w106 pp64_0 X3 jX3 kz65
  have S := Off.ofB kz65
  refine vY2 (cC 11 S (h9.out _ (ft.later (bC (bC (bC (bC (bA bR _) b1) b2) kz3) kz65))) fun w107 b107 => s65_15.out w107 pp64_0 (X3.later b107) jX3 (bC kz65 b107)) (cA 13 S fun w108 pp64_1 h X4 b108 => ?_)
  have ndX3_X4 : ¬ (pp64_0 = pp64_1) := (Nat.ne_of_lt (lY X3.lt h)); have jX4 := (lZ kz65.size h); replace X3 := (X3.later b108); replace kz65 := bC kz65 b108
  clear S b108 h w106
  revert kz65; revert ndX3_X4; revert jX4; revert jX3; revert X4; revert X3; revert pp64_1; revert pp64_0; revert w108
  exact s65_17.out
  case' ns65_13 => refine lH ?_
  intro w109 pp64_1 X4 jX4 kz65
  have S := Off.ofB kz65
  refine vY2 (cC 11 S (h9.out _ (ft.later (bC (bC (bC (bC (bA bR _) b1) b2) kz3) kz65))) fun w110 b110 => s65_16.out w110 pp64_1 (X4.later b110) jX4 (bC kz65 b110)) (cA 12 S fun w111 pp64_0 h X3 b111 => s65_17.out w111 pp64_0 pp64_1 X3 (X4.later b111) (lZ kz65.size h) jX4 (Nat.ne_of_gt (lY X4.lt h)) (bC kz65 b111))
  case' ns65_14 => refine lH ?_
  intro w112 pp64_0 pp64_1 X3 X4 jX3 jX4 ndX3_X4 kz65
  have S := Off.ofB kz65
  refine vY1 (cC 9 S (h2.out _ (ft.later (bC (bC (bC (bC (bA bR _) b1) b2) kz3) kz65))) fun w113 b113 => s65_17.out w113 pp64_0 pp64_1 (X3.later b113) (X4.later b113) jX3 jX4 ndX3_X4 (bC kz65 b113))
  case' ns65_15 => refine lH ?_
  intro w114 pp64_0 X3 jX3 kz65
  have S := Off.ofB kz65
  refine vY1 (cA 13 S fun w115 pp64_1 h X4 b115 => ?_)
  have ndX3_X4 : ¬ (pp64_0 = pp64_1) := (Nat.ne_of_lt (lY X3.lt h)); have jX4 := (lZ kz65.size h); replace X3 := (X3.later b115); replace kz65 := bC kz65 b115
  clear S b115 h w114
  revert kz65; revert ndX3_X4; revert jX4; revert jX3; revert X4; revert X3; revert pp64_1; revert pp64_0; revert w115
  exact s65_18.out
  case' ns65_16 => refine lH ?_
  intro w116 pp64_1 X4 jX4 kz65
  have S := Off.ofB kz65
  refine vY1 (cA 12 S fun w117 pp64_0 h X3 b117 => s65_18.out w117 pp64_0 pp64_1 X3 (X4.later b117) (lZ kz65.size h) jX4 (Nat.ne_of_gt (lY X4.lt h)) (bC kz65 b117))
  case' ns65_17 => refine lH ?_
  intro w118 pp64_0 pp64_1 X3 X4 jX3 jX4 ndX3_X4 kz65
  have S := Off.ofB kz65
  refine vY1 (cC 11 S (h9.out _ (ft.later (bC (bC (bC (bC (bA bR _) b1) b2) kz3) kz65))) fun w119 b119 => s65_18.out w119 pp64_0 pp64_1 (X3.later b119) (X4.later b119) jX3 jX4 ndX3_X4 (bC kz65 b119))
  case' ns65_18 => refine lH ?_
  intro w120 pp64_0 pp64_1 X3 X4 jX3 jX4 ndX3_X4 kz65
  have S := Off.ofB kz65
  refine vY1 (vO 14 fun K hK => ?_)
  have q := X3.o; have mX4 : ¬ (pp64_1 = pp64_0) := (by omega)
  go_simp
  refine vW (fun W => HB W pp64_0 30 #[.int .u64 zh, .int .u64 zl, .int .u8 zf] ∧ HB W pp64_1 30 #[.int .u64 0, .int .u64 0, .int .u8 0] ∧ Below w64.heap.size w64 W) ⟨(((X3.set 0 _).set 1 _).set 2 _), (((X4.other mX4 0 _).other mX4 1 _).other mX4 2 _), (((kz65.setCell (p := ⟨pp64_0, 0, none⟩) jX3 _).setCell (p := ⟨pp64_0, 1, none⟩) jX3 _).setCell (p := ⟨pp64_0, 2, none⟩) jX3 _)⟩ fun w122 hz => ?_
  clear q mX4 X3 X4 S kz65 w120; obtain ⟨X3, X4, kz65⟩ := hz
  refine hK.out _ _ (Off.ofB kz65) fun S => ?_; clear hK K S; refine vP ?_
  revert kz65; revert ndX3_X4; revert jX4; revert jX3; revert X4; revert X3; revert pp64_1; revert pp64_0; revert w122
  exact s65_19.out
  case' ns65_19 => refine lH ?_
  intro w123 pp64_0 pp64_1 X3 X4 jX3 jX4 ndX3_X4 kz65
  have S := Off.ofB kz65
  refine vY1 (vO 15 fun K hK => ?_)
  have q := X4.o; have mX3 : ¬ (pp64_0 = pp64_1) := (by omega)
  go_simp
  refine vW (fun W => HB W pp64_0 30 #[.int .u64 zh, .int .u64 zl, .int .u8 zf] ∧ HB W pp64_1 30 #[.int .u64 vh, .int .u64 vl, .int .u8 vf] ∧ Below w64.heap.size w64 W) ⟨(((X3.other mX3 0 _).other mX3 1 _).other mX3 2 _), (((X4.set 0 _).set 1 _).set 2 _), (((kz65.setCell (p := ⟨pp64_1, 0, none⟩) jX4 _).setCell (p := ⟨pp64_1, 1, none⟩) jX4 _).setCell (p := ⟨pp64_1, 2, none⟩) jX4 _)⟩ fun w125 hz => ?_
  clear q mX3 X3 X4 S kz65 w123; obtain ⟨X3, X4, kz65⟩ := hz
  refine hK.out _ _ (Off.ofB kz65) fun S => ?_; clear hK K S; refine vP ?_
  revert kz65; revert ndX3_X4; revert jX4; revert jX3; revert X4; revert X3; revert pp64_1; revert pp64_0; revert w125
  exact s65_20.out
  case' ns65_20 => refine lH ?_
  intro w126 pp64_0 pp64_1 X3 X4 jX3 jX4 ndX3_X4 kz65
  refine vD ?_
  have nX0_X3 : w.heap.size < pp64_0 := by have := X0.lt; omega
  have nX0_X4 : w.heap.size < pp64_1 := by have := X0.lt; omega
  have nX1_X3 : pp2_0 < pp64_0 := by have := X1.lt; omega
  have nX1_X4 : pp2_0 < pp64_1 := by have := X1.lt; omega
  have nX2_X3 : pp2_1 < pp64_0 := by have := X2.lt; omega
  have nX2_X4 : pp2_1 < pp64_1 := by have := X2.lt; omega
  have gX3 : w.heap.size ≤ pp64_0 := by have := (bC (bC (bC (bA bR _) b1) b2) kz3).size; omega
  have gX4 : w.heap.size ≤ pp64_1 := by have := (bC (bC (bC (bA bR _) b1) b2) kz3).size; omega
  rcases HH with ⟨g1, g2, E1, E2, E3, h10, h11⟩ | ⟨g1, rfl, rfl, g2, E1, h10, h11, h12, h14⟩ | ⟨g1, rfl, rfl, g2, g3, rfl, E1, h10, h11, h12, h14⟩ | ⟨g1, rfl, rfl, g2, g3, g4, E1, E2, h10, h11, h12, h14⟩
  · have oX3 := X3.o
    go_wp2_with fail
    refine vM (h10.out _ (ft.later (bC (bC (bC (bC (bA bR _) b1) b2) kz3) kz65))) fun w127 b127 => ?_
    clear oX3
    replace X3 := X3.later b127
    have oX3 := X3.o
    replace X4 := X4.later b127
    have oX4 := X4.o
    replace X1 := X1.later (bC kz65 b127)
    have oX1 := X1.o
    replace X2 := X2.later (bC kz65 b127)
    have oX2 := X2.o
    go_wp2_with fail
    refine vM (h11.out _ (ft.later (bC (bC (bC (bC (bC (bA bR _) b1) b2) kz3) kz65) b127))) fun w128 b128 => ?_
    clear oX3 oX4 oX1 oX2
    go_wp2_with fail
    go_ret
    exact ⟨rfl, (bC (bC (bC (bC (bC (bC (bA bR _) b1) b2) kz3) kz65) b127) b128)⟩
  · replace X1 := X1.later kz65
    have oX1 := X1.o
    go_wp2_with fail
    refine vM (h10.out _ (ft.later (bC (bC (bC (bC (bA bR _) b1) b2) kz3) kz65))) fun w127 b127 => ?_
    clear oX1
    replace X2 := X2.later (bC kz65 b127)
    have oX2 := X2.o
    go_wp2_with fail
    refine vM (h11.out _ (ft.later (bC (bC (bC (bC (bC (bA bR _) b1) b2) kz3) kz65) b127))) fun w128 b128 => ?_
    clear oX2
    replace X1 := X1.later (bC b127 b128)
    have oX1 := X1.o
    replace X2 := X2.later b128
    have oX2 := X2.o
    go_wp2_with fail
    clear oX1 oX2
    replace X3 := X3.later (bC b127 b128)
    replace X4 := X4.later (bC b127 b128)
    refine vR [] fun w129 b129 S129 => ?_
    refine vT 0 S129 ?_
    refine vT 1 S129 ?_
    refine vT 2 S129 ?_ (hy := by intro wq hb; have q := (hb.hb X3 (by simp)).o; go_simp; try (with_reducible rfl))
    refine vY1 (vC 3 S129 (h12.out _ (ft.later (bC (bC (bC (bC (bC (bC (bC (bA bR _) b1) b2) kz3) kz65) b127) b128) b129))) (fun _ _ => Off.later) fun w130 b130 S130 => ?_)
    refine vT 4 S130 ?_
    refine vT 5 S130 ?_ (hy := by intro wq hb; have q := (hb.hb X4 (by simp)).o; go_simp; try (with_reducible rfl))
    refine vT 6 S130 ?_
    refine vT 7 S130 ?_
    refine vY1 (vC 8 S130 (h2.out _ (ft.later (bC (bC (bC (bC (bC (bC (bC (bC (bA bR _) b1) b2) kz3) kz65) b127) b128) b129) b130))) (fun _ _ => Off.later) fun w131 b131 S131 => ?_)
    refine vT 9 S131 ?_
    refine vT 10 S131 ?_
    refine vT 11 S131 ?_
    refine vT 12 S131 ?_
    refine vY1 (vC 13 S131 (h14.out _ (ft.later (bC (bC (bC (bC (bC (bC (bC (bC (bC (bA bR _) b1) b2) kz3) kz65) b127) b128) b129) b130) b131))) (fun _ _ => Off.later) fun w132 b132 S132 => ?_)
    refine vT 14 S132 ?_
    refine vT 15 S132 ?_
    refine vD ?_
    go_wp2_with fail
    go_ret
    exact ⟨rfl, (bC (bC (bC (bC (bC (bC (bC (bC (bC (bC (bA bR _) b1) b2) kz3) kz65) b127) b128) b129) b130) b131) b132)⟩
  · replace X1 := X1.later kz65
    have oX1 := X1.o
    go_wp2_with fail
    refine vM (h10.out _ (ft.later (bC (bC (bC (bC (bA bR _) b1) b2) kz3) kz65))) fun w127 b127 => ?_
    clear oX1
    replace X2 := X2.later (bC kz65 b127)
    have oX2 := X2.o
    go_wp2_with fail
    refine vM (h11.out _ (ft.later (bC (bC (bC (bC (bC (bA bR _) b1) b2) kz3) kz65) b127))) fun w128 b128 => ?_
    clear oX2
    replace X1 := X1.later (bC b127 b128)
    have oX1 := X1.o
    replace X2 := X2.later b128
    have oX2 := X2.o
    go_wp2_with fail
    clear oX1 oX2
    replace X0 := X0.later (bC (bC kz65 b127) b128)
    replace X3 := X3.later (bC b127 b128)
    replace X4 := X4.later (bC b127 b128)
    refine vR [] fun w129 b129 S129 => ?_
    refine vT 0 S129 ?_ (hy := by intro wq hb; have q := (hb.hb X3 (by simp)).o; go_simp; try (with_reducible rfl))
    refine vT 1 S129 ?_
    refine vT 2 S129 ?_ (hy := by intro wq hb; have q := (hb.hb X0 (by simp)).o; go_simp; try (with_reducible rfl))
    refine vY1 (vC 3 S129 (h12.out _ (ft.later (bC (bC (bC (bC (bC (bC (bC (bA bR _) b1) b2) kz3) kz65) b127) b128) b129))) (fun _ _ => Off.later) fun w130 b130 S130 => ?_)
    refine vT 4 S130 ?_
    refine vT 5 S130 ?_
    refine vT 6 S130 ?_
    refine vT 7 S130 ?_
    refine vT 8 S130 ?_
    refine vT 9 S130 ?_
    refine vT 10 S130 ?_
    refine vT 11 S130 ?_ (hy := by intro wq hb; have q := (hb.hb X4 (by simp)).o; go_simp; try (with_reducible rfl))
    refine vT 12 S130 ?_
    refine vT 13 S130 ?_
    refine vT 14 S130 ?_
    refine vN 15 S130 ?_
    refine vN 16 S130 ?_
    refine vN 17 S130 ?_
    refine vN 18 S130 ?_
    refine vN 19 S130 ?_
    refine vN 20 S130 ?_
    refine vN 21 S130 ?_
    refine vN 22 S130 ?_
    refine vN 23 S130 ?_
    refine vN 24 S130 ?_
    refine vT 25 S130 ?_
    refine vT 26 S130 ?_
    refine vT 27 S130 ?_
    refine vY1 (vC 28 S130 (h14.out _ (ft.later (bC (bC (bC (bC (bC (bC (bC (bC (bA bR _) b1) b2) kz3) kz65) b127) b128) b129) b130))) (fun _ _ => Off.later) fun w131 b131 S131 => ?_)
    refine vT 29 S131 ?_
    refine vT 30 S131 ?_
    refine vD ?_
    go_wp2_with fail
    go_ret
    exact ⟨rfl, (bC (bC (bC (bC (bC (bC (bC (bC (bC (bA bR _) b1) b2) kz3) kz65) b127) b128) b129) b130) b131)⟩
  · replace X1 := X1.later kz65
    have oX1 := X1.o
    go_wp2_with fail
    refine vM (h10.out _ (ft.later (bC (bC (bC (bC (bA bR _) b1) b2) kz3) kz65))) fun w127 b127 => ?_
    clear oX1
    replace X2 := X2.later (bC kz65 b127)
    have oX2 := X2.o
    go_wp2_with fail
    refine vM (h11.out _ (ft.later (bC (bC (bC (bC (bC (bA bR _) b1) b2) kz3) kz65) b127))) fun w128 b128 => ?_
    clear oX2
    replace X1 := X1.later (bC b127 b128)
    have oX1 := X1.o
    replace X2 := X2.later b128
    have oX2 := X2.o
    go_wp2_with fail
    clear oX1 oX2
    replace X0 := X0.later (bC (bC kz65 b127) b128)
    replace X3 := X3.later (bC b127 b128)
    replace X4 := X4.later (bC b127 b128)
    refine vR [] fun w129 b129 S129 => ?_
    refine vT 0 S129 ?_ (hy := by intro wq hb; have q := (hb.hb X3 (by simp)).o; go_simp; try (with_reducible rfl))
    refine vT 1 S129 ?_
    refine vT 2 S129 ?_ (hy := by intro wq hb; have q := (hb.hb X0 (by simp)).o; go_simp; try (with_reducible rfl))
    refine vY1 (vC 3 S129 (h12.out _ (ft.later (bC (bC (bC (bC (bC (bC (bC (bA bR _) b1) b2) kz3) kz65) b127) b128) b129))) (fun _ _ => Off.later) fun w130 b130 S130 => ?_)
    refine vT 4 S130 ?_
    refine vT 5 S130 ?_
    refine vT 6 S130 ?_
    refine vT 7 S130 ?_
    refine vT 8 S130 ?_
    refine vT 9 S130 ?_
    refine vN 10 S130 ?_
    refine vN 11 S130 ?_
    refine vN 12 S130 ?_
    refine vT 13 S130 ?_
    refine vT 14 S130 ?_
    refine vT 15 S130 ?_
    refine vT 16 S130 ?_
    refine vT 17 S130 ?_
    refine vT 18 S130 ?_ (hy := by intro wq hb; have q := (hb.hb X4 (by simp)).o; go_simp; try (with_reducible rfl))
    refine vT 19 S130 ?_
    refine vT 20 S130 ?_
    refine vY1 (vC 21 S130 (h2.out _ (ft.later (bC (bC (bC (bC (bC (bC (bC (bC (bA bR _) b1) b2) kz3) kz65) b127) b128) b129) b130))) (fun _ _ => Off.later) fun w131 b131 S131 => ?_)
    refine vT 22 S131 ?_
    refine vT 23 S131 ?_
    refine vT 24 S131 ?_
    refine vT 25 S131 ?_
    refine vT 26 S131 ?_
    refine vT 27 S131 ?_
    refine vY1 (vC 28 S131 (h14.out _ (ft.later (bC (bC (bC (bC (bC (bC (bC (bC (bC (bA bR _) b1) b2) kz3) kz65) b127) b128) b129) b130) b131))) (fun _ _ => Off.later) fun w132 b132 S132 => ?_)
    refine vT 29 S132 ?_
    refine vT 30 S132 ?_
    refine vD ?_
    go_wp2_with fail
    go_ret
    exact ⟨rfl, (bC (bC (bC (bC (bC (bC (bC (bC (bC (bC (bA bR _) b1) b2) kz3) kz65) b127) b128) b129) b130) b131) b132)⟩
end Go.Proofs.YtjdjonekoodalaaGreatDoor
