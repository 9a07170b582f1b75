import Derived.Test.YtjdjonekoodalaaGreatDoorGzC
set_option maxHeartbeats 4000000
set_option linter.unusedVariables false
set_option linter.unusedSimpArgs false
set_option maxRecDepth 100000
namespace Go.Proofs.YtjdjonekoodalaaGreatDoor
open Go.RowKit
attribute [local go_sem ↓] Go.wp_at_zero Go.wp_at_succ
theorem turn23_no1 (f ah al bh bl : Int)
    (h0 : Hid (∀ w, FTab w → Ca 15 #[.int .u8 f] w (.bool false)))
    (h2 : Hid (∀ w, FTab w → Ca 11 #[] w (.bool true))) (w : World) (ft : FTab w) :
    Ca 5 #[.int .u8 f, U2 ah al, U2 bh bl] w (.bool true) := by
  simp only [Ca, U2] at *
  go_enter Tryz.func5, Tryz.ntmps5
  go_wp2_with fail
  refine vM (h0.out _ (ft.later (bA (bA bR _) _))) fun w1 b1 => ?_
  go_wp2_with fail
  refine vM (h2.out _ (ft.later (bC (bA (bA bR _) _) b1))) fun w2 b2 => ?_
  go_wp2_with fail
  go_ret
  exact ⟨rfl, (bC (bC (bA (bA bR _) _) b1) b2)⟩
theorem turn23_no2 (f ah al bh bl : Int)
    (h0 : Hid (∀ w, FTab w → Ca 15 #[.int .u8 f] w (.bool true)))
    (h2 : Hid (∀ w, FTab w → Ca 11 #[] w (.bool true))) (AN : Hid (∀ w, FTab w → ∀ p T, HB w p T #[.int .u64 ah, .int .u64 al, .int .u64 bh, .int .u64 bl] → Ca 21 #[.int .u8 f, .func (.func 22) #[] #[], .slice (some ⟨p, 0, none⟩) 2 2] w (.bool true))) (w : World) (ft : FTab w) :
    Ca 5 #[.int .u8 f, U2 ah al, U2 bh bl] w (.bool true) := by
  simp only [Ca, U2] at *
  go_enter Tryz.func5, Tryz.ntmps5
  go_wp2_with fail
  refine vM (h0.out _ (ft.later (bA (bA bR _) _))) fun w1 b1 => ?_
  have X0 := ((HB.newAt (b := w.heap.size) (by simp) _ _).alloc _).later b1
  have X1 := (HB.newAt (b := w.heap.size + 1) (by simp) _ _).later b1
  have oX0 := X0.o
  have oX1 := X1.o
  go_wp2_with fail
  refine vM (AN.out _ (ft.later (bA (bC (bA (bA bR _) _) b1) _)) _ _ (HB.newAt (b := w1.heap.size) (by simp) _ _)) fun w2 b2 => ?_
  clear oX0 oX1
  go_wp2_with fail
  refine vM (h2.out _ (ft.later (bC (bC (bA (bA bR _) _) b1) (bC (bA bR _) b2)))) fun w3 b3 => ?_
  go_wp2_with fail
  go_ret
  exact ⟨rfl, (bC (bC (bC (bA (bA bR _) _) b1) (bC (bA bR _) b2)) b3)⟩
theorem turn23_nan (f ah al bh bl rh rl fl ph pl qh ql : Int)
    (h0 : Hid (∀ w, FTab w → Ca 15 #[.int .u8 f] w (.bool true)))
    (h2 : Hid (∀ w, FTab w → Ca 12 #[.int .u8 f, U2 ah al, U2 bh bl] w (.agg #[.int .u64 rh, .int .u64 rl, .int .u8 fl])))
    (h3 : Hid (∀ w, FTab w → Ca 23 #[.int .u8 f, U2 bh bl] w (U2 qh ql)))
    (h4 : Hid (∀ w, FTab w → Ca 12 #[.int .u8 f, U2 ah al, U2 qh ql] w (.agg #[.int .u64 rh, .int .u64 rl, .int .u8 fl])))
    (h5 : Hid (∀ w, FTab w → Ca 23 #[.int .u8 f, U2 ah al] w (U2 ph pl)))
    (h6 : Hid (∀ w, FTab w → Ca 12 #[.int .u8 f, U2 ph pl, U2 bh bl] w (.agg #[.int .u64 rh, .int .u64 rl, .int .u8 fl])))
    (h7 : Hid (∀ w, FTab w → Ca 22 #[.int .u8 f, U2 rh rl] w (.bool true)))
    (h8 : Hid (∀ w, FTab w → Ca 11 #[] w (.bool true))) (AN : Hid (∀ w, FTab w → ∀ p T, HB w p T #[.int .u64 ah, .int .u64 al, .int .u64 bh, .int .u64 bl] → Ca 21 #[.int .u8 f, .func (.func 22) #[] #[], .slice (some ⟨p, 0, none⟩) 2 2] w (.bool false))) (w : World) (ft : FTab w) :
    Ca 5 #[.int .u8 f, U2 ah al, U2 bh bl] w (.bool true) := by
  simp only [Ca, U2] at *
  have EQ := eqr23 rh rl fl
  go_enter Tryz.func5, Tryz.ntmps5
  go_wp2_with fail
  refine vM (h0.out _ (ft.later (bA (bA bR _) _))) fun w1 b1 => ?_
  have X0 := ((HB.newAt (b := w.heap.size) (by simp) _ _).alloc _).later b1
  have X1 := (HB.newAt (b := w.heap.size + 1) (by simp) _ _).later b1
  have oX0 := X0.o
  have oX1 := X1.o
  go_wp2_with fail
  refine vM (AN.out _ (ft.later (bA (bC (bA (bA bR _) _) b1) _)) _ _ (HB.newAt (b := w1.heap.size) (by simp) _ _)) fun w2 b2 => ?_
  clear oX0 oX1
  go_wp2_with fail
  replace X0 := X0.later (bC (bA bR _) b2)
  replace X1 := X1.later (bC (bA bR _) b2)
  refine' (have s3_49 : Hid (_ : Prop) := ?ns3_49; ?ms3_49)
  case' ms3_49 => skip
  refine' (have s3_48 : Hid (_ : Prop) := ?ns3_48; ?ms3_48)
  case' ms3_48 => skip
  refine' (have s3_47 : Hid (_ : Prop) := ?ns3_47; ?ms3_47)
  case' ms3_47 => skip
  refine' (have s3_46 : Hid (_ : Prop) := ?ns3_46; ?ms3_46)
  case' ms3_46 => skip
  refine' (have s3_45 : Hid (_ : Prop) := ?ns3_45; ?ms3_45)
  case' ms3_45 => skip
  refine' (have s3_44 : Hid (_ : Prop) := ?ns3_44; ?ms3_44)
  case' ms3_44 => skip
  refine' (have s3_43 : Hid (_ : Prop) := ?ns3_43; ?ms3_43)
  case' ms3_43 => skip
  refine' (have s3_42 : Hid (_ : Prop) := ?ns3_42; ?ms3_42)
  case' ms3_42 => skip
  refine' (have s3_41 : Hid (_ : Prop) := ?ns3_41; ?ms3_41)
  case' ms3_41 => skip
  refine' (have s3_40 : Hid (_ : Prop) := ?ns3_40; ?ms3_40)
  case' ms3_40 => skip
  refine' (have s3_39 : Hid (_ : Prop) := ?ns3_39; ?ms3_39)
  case' ms3_39 => skip
  refine' (have s3_38 : Hid (_ : Prop) := ?ns3_38; ?ms3_38)
  case' ms3_38 => skip
  refine' (have s3_37 : Hid (_ : Prop) := ?ns3_37; ?ms3_37)
  case' ms3_37 => skip
  refine' (have s3_36 : Hid (_ : Prop) := ?ns3_36; ?ms3_36)
  case' ms3_36 => skip
  refine' (have s3_35 : Hid (_ : Prop) := ?ns3_35; ?ms3_35)
  case' ms3_35 => skip
  refine' (have s3_34 : Hid (_ : Prop) := ?ns3_34; ?ms3_34)
  case' ms3_34 => skip
  refine' (have s3_33 : Hid (_ : Prop) := ?ns3_33; ?ms3_33)
  case' ms3_33 => skip
  refine' (have s3_32 : Hid (_ : Prop) := ?ns3_32; ?ms3_32)
  case' ms3_32 => skip
  refine' (have s3_31 : Hid (_ : Prop) := ?ns3_31; ?ms3_31)
  case' ms3_31 => skip
  refine' (have s3_30 : Hid (_ : Prop) := ?ns3_30; ?ms3_30)
  case' ms3_30 => skip
  refine' (have s3_29 : Hid (_ : Prop) := ?ns3_29; ?ms3_29)
  case' ms3_29 => skip
  refine' (have s3_28 : Hid (_ : Prop) := ?ns3_28; ?ms3_28)
  case' ms3_28 => skip
  refine' (have s3_27 : Hid (_ : Prop) := ?ns3_27; ?ms3_27)
  case' ms3_27 => skip
  refine' (have s3_26 : Hid (_ : Prop) := ?ns3_26; ?ms3_26)
  case' ms3_26 => skip
  refine' (have s3_25 : Hid (_ : Prop) := ?ns3_25; ?ms3_25)
  case' ms3_25 => skip
  refine' (have s3_24 : Hid (_ : Prop) := ?ns3_24; ?ms3_24)
  case' ms3_24 => skip
  refine' (have s3_23 : Hid (_ : Prop) := ?ns3_23; ?ms3_23)
  case' ms3_23 => skip
  refine' (have s3_22 : Hid (_ : Prop) := ?ns3_22; ?ms3_22)
  case' ms3_22 => skip
  refine' (have s3_21 : Hid (_ : Prop) := ?ns3_21; ?ms3_21)
  case' ms3_21 => skip
  refine' (have s3_20 : Hid (_ : Prop) := ?ns3_20; ?ms3_20)
  case' ms3_20 => skip
  refine' (have s3_19 : Hid (_ : Prop) := ?ns3_19; ?ms3_19)
  case' ms3_19 => skip
  refine' (have s3_18 : Hid (_ : Prop) := ?ns3_18; ?ms3_18)
  case' ms3_18 => skip
  refine' (have s3_17 : Hid (_ : Prop) := ?ns3_17; ?ms3_17)
  case' ms3_17 => skip
  refine' (have s3_16 : Hid (_ : Prop) := ?ns3_16; ?ms3_16)
  case' ms3_16 => skip
  refine' (have s3_15 : Hid (_ : Prop) := ?ns3_15; ?ms3_15)
  case' ms3_15 => skip
  refine' (have s3_14 : Hid (_ : Prop) := ?ns3_14; ?ms3_14)
  case' ms3_14 => skip
  refine' (have s3_13 : Hid (_ : Prop) := ?ns3_13; ?ms3_13)
  case' ms3_13 => skip
  refine' (have s3_12 : Hid (_ : Prop) := ?ns3_12; ?ms3_12)
  case' ms3_12 => skip
  refine' (have s3_11 : Hid (_ : Prop) := ?ns3_11; ?ms3_11)
  case' ms3_11 => skip
  refine' (have s3_10 : Hid (_ : Prop) := ?ns3_10; ?ms3_10)
  case' ms3_10 => skip
  refine' (have s3_9 : Hid (_ : Prop) := ?ns3_9; ?ms3_9)
  case' ms3_9 => skip
  refine' (have s3_8 : Hid (_ : Prop) := ?ns3_8; ?ms3_8)
  case' ms3_8 => skip
  refine' (have s3_7 : Hid (_ : Prop) := ?ns3_7; ?ms3_7)
  case' ms3_7 => skip
  refine' (have s3_6 : Hid (_ : Prop) := ?ns3_6; ?ms3_6)
  case' ms3_6 => skip
  refine' (have s3_5 : Hid (_ : Prop) := ?ns3_5; ?ms3_5)
  case' ms3_5 => skip
  refine' (have s3_4 : Hid (_ : Prop) := ?ns3_4; ?ms3_4)
  case' ms3_4 => skip
  refine' (have s3_3 : Hid (_ : Prop) := ?ns3_3; ?ms3_3)
  case' ms3_3 => skip
  refine' (have s3_2 : Hid (_ : Prop) := ?ns3_2; ?ms3_2)
  case' ms3_2 => skip
  refine' (have s3_1 : Hid (_ : Prop) := ?ns3_1; ?ms3_1)
  case' ms3_1 => skip
  refine' (have s3_0 : Hid (_ : Prop) := ?ns3_0; ?ms3_0)
  case' ms3_0 => skip
  refine vR [] fun w3 kz3 S => ?_
  refine vT 0 S ?_
  refine vT 1 S ?_ (hy := by intro wq hb; have q := (hb.hb X0 (by simp)).o; go_simp; try (with_reducible rfl))
  refine vT 2 S ?_ (hy := by intro wq hb; have q := (hb.hb X1 (by simp)).o; go_simp; try (with_reducible rfl))
  refine vT 4 S ?_
  refine vT 5 S ?_ (hy := by intro wq hb; have q := (hb.hb X0 (by simp)).o; go_simp; try (with_reducible rfl))
  refine vT 6 S ?_
  refine vT 7 S ?_ (hy := by intro wq hb; have q := (hb.hb X1 (by simp)).o; go_simp; try (with_reducible rfl))
  refine vT 10 S ?_
  refine vT 11 S ?_
  refine vT 12 S ?_ (hy := by intro wq hb; have q := (hb.hb X0 (by simp)).o; go_simp; try (with_reducible rfl))
  refine vT 14 S ?_ (hy := by intro wq hb; have q := (hb.hb X1 (by simp)).o; go_simp; try (with_reducible rfl))
  refine vY4 (cC 3 S (h2.out _ (ft.later (bC (bC (bC (bA (bA bR _) _) b1) (bC (bA bR _) b2)) kz3))) fun w4 b4 => ?_) (cA 16 S fun w5 pp2_0 h X3 b5 => ?_) (cA 17 S fun w6 pp2_1 h X4 b6 => ?_) (cA 18 S fun w7 pp2_2 h X5 b7 => ?_)
  replace kz3 := bC kz3 b4
  clear S b4 w3
  revert kz3; revert w4
  exact s3_0.out
  have jX3 := (lZ kz3.size h); replace kz3 := bC kz3 b5
  clear S b5 h w3
  revert kz3; revert jX3; revert X3; revert pp2_0; revert w5
  exact s3_1.out
  have jX4 := (lZ kz3.size h); replace kz3 := bC kz3 b6
  clear S b6 h w3
  revert kz3; revert jX4; revert X4; revert pp2_1; revert w6
  exact s3_2.out
  have jX5 := (lZ kz3.size h); replace kz3 := bC kz3 b7
  clear S b7 h w3
  revert kz3; revert jX5; revert X5; revert pp2_2; revert w7
  exact s3_3.out
  case' ns3_0 => refine lH ?_
  intro w8 kz3
  have S := Off.ofB kz3
  refine vY4 (cC 8 S (h3.out _ (ft.later (bC (bC (bC (bA (bA bR _) _) b1) (bC (bA bR _) b2)) kz3))) fun w9 b9 => ?_) (cA 16 S fun w10 pp2_0 h X3 b10 => ?_) (cA 17 S fun w11 pp2_1 h X4 b11 => ?_) (cA 18 S fun w12 pp2_2 h X5 b12 => ?_)
  replace kz3 := bC kz3 b9
  clear S b9 w8
  revert kz3; revert w9
  exact s3_4.out
  have jX3 := (lZ kz3.size h); replace kz3 := bC kz3 b10
  clear S b10 h w8
  revert kz3; revert jX3; revert X3; revert pp2_0; revert w10
  exact s3_5.out
  have jX4 := (lZ kz3.size h); replace kz3 := bC kz3 b11
  clear S b11 h w8
  revert kz3; revert jX4; revert X4; revert pp2_1; revert w11
  exact s3_6.out
  have jX5 := (lZ kz3.size h); replace kz3 := bC kz3 b12
  clear S b12 h w8
  revert kz3; revert jX5; revert X5; revert pp2_2; revert w12
  exact s3_7.out
  case' ns3_1 => refine lH ?_
  intro w13 pp2_0 X3 jX3 kz3
  have S := Off.ofB kz3
  refine vY3 (cC 3 S (h2.out _ (ft.later (bC (bC (bC (bA (bA bR _) _) b1) (bC (bA bR _) b2)) kz3))) fun w14 b14 => s3_5.out w14 pp2_0 (X3.later b14) jX3 (bC kz3 b14)) (cA 17 S fun w15 pp2_1 h X4 b15 => ?_) (cA 18 S fun w16 pp2_2 h X5 b16 => ?_)
  have ndX3_X4 : ¬ (pp2_0 = pp2_1) := (Nat.ne_of_lt (lY X3.lt h)); have jX4 := (lZ kz3.size h); replace X3 := (X3.later b15); replace kz3 := bC kz3 b15
  clear S b15 h w13
  revert kz3; revert ndX3_X4; revert jX4; revert jX3; revert X4; revert X3; revert pp2_1; revert pp2_0; revert w15
  exact s3_8.out
  have ndX3_X5 : ¬ (pp2_0 = pp2_2) := (Nat.ne_of_lt (lY X3.lt h)); have jX5 := (lZ kz3.size h); replace X3 := (X3.later b16); replace kz3 := bC kz3 b16
  clear S b16 h w13
  revert kz3; revert ndX3_X5; revert jX5; revert jX3; revert X5; revert X3; revert pp2_2; revert pp2_0; revert w16
  exact s3_9.out
  case' ns3_2 => refine lH ?_
  intro w17 pp2_1 X4 jX4 kz3
  have S := Off.ofB kz3
  refine vY3 (cC 3 S (h2.out _ (ft.later (bC (bC (bC (bA (bA bR _) _) b1) (bC (bA bR _) b2)) kz3))) fun w18 b18 => s3_6.out w18 pp2_1 (X4.later b18) jX4 (bC kz3 b18)) (cA 16 S fun w19 pp2_0 h X3 b19 => s3_8.out w19 pp2_0 pp2_1 X3 (X4.later b19) (lZ kz3.size h) jX4 (Nat.ne_of_gt (lY X4.lt h)) (bC kz3 b19)) (cA 18 S fun w20 pp2_2 h X5 b20 => ?_)
  have ndX4_X5 : ¬ (pp2_1 = pp2_2) := (Nat.ne_of_lt (lY X4.lt h)); have jX5 := (lZ kz3.size h); replace X4 := (X4.later b20); replace kz3 := bC kz3 b20
  clear S b20 h w17
  revert kz3; revert ndX4_X5; revert jX5; revert jX4; revert X5; revert X4; revert pp2_2; revert pp2_1; revert w20
  exact s3_10.out
  case' ns3_3 => refine lH ?_
  intro w21 pp2_2 X5 jX5 kz3
  have S := Off.ofB kz3
  refine vY3 (cC 3 S (h2.out _ (ft.later (bC (bC (bC (bA (bA bR _) _) b1) (bC (bA bR _) b2)) kz3))) fun w22 b22 => s3_7.out w22 pp2_2 (X5.later b22) jX5 (bC kz3 b22)) (cA 16 S fun w23 pp2_0 h X3 b23 => s3_9.out w23 pp2_0 pp2_2 X3 (X5.later b23) (lZ kz3.size h) jX5 (Nat.ne_of_gt (lY X5.lt h)) (bC kz3 b23)) (cA 17 S fun w24 pp2_1 h X4 b24 => s3_10.out w24 pp2_1 pp2_2 X4 (X5.later b24) (lZ kz3.size h) jX5 (Nat.ne_of_gt (lY X5.lt h)) (bC kz3 b24))
  case' ns3_4 => refine lH ?_
  intro w25 kz3
  have S := Off.ofB kz3
  refine vY4 (cC 9 S (h4.out _ (ft.later (bC (bC (bC (bA (bA bR _) _) b1) (bC (bA bR _) b2)) kz3))) fun w26 b26 => ?_) (cA 16 S fun w27 pp2_0 h X3 b27 => ?_) (cA 17 S fun w28 pp2_1 h X4 b28 => ?_) (cA 18 S fun w29 pp2_2 h X5 b29 => ?_)
  replace kz3 := bC kz3 b26
  clear S b26 w25
  revert kz3; revert w26
  exact s3_11.out
  have jX3 := (lZ kz3.size h); replace kz3 := bC kz3 b27
  clear S b27 h w25
  revert kz3; revert jX3; revert X3; revert pp2_0; revert w27
  exact s3_12.out
  have jX4 := (lZ kz3.size h); replace kz3 := bC kz3 b28
  clear S b28 h w25
  revert kz3; revert jX4; revert X4; revert pp2_1; revert w28
  exact s3_13.out
  have jX5 := (lZ kz3.size h); replace kz3 := bC kz3 b29
  clear S b29 h w25
  revert kz3; revert jX5; revert X5; revert pp2_2; revert w29
  exact s3_14.out
  case' ns3_5 => refine lH ?_
  intro w30 pp2_0 X3 jX3 kz3
  have S := Off.ofB kz3
  refine vY3 (cC 8 S (h3.out _ (ft.later (bC (bC (bC (bA (bA bR _) _) b1) (bC (bA bR _) b2)) kz3))) fun w31 b31 => s3_12.out w31 pp2_0 (X3.later b31) jX3 (bC kz3 b31)) (cA 17 S fun w32 pp2_1 h X4 b32 => ?_) (cA 18 S fun w33 pp2_2 h X5 b33 => ?_)
  have ndX3_X4 : ¬ (pp2_0 = pp2_1) := (Nat.ne_of_lt (lY X3.lt h)); have jX4 := (lZ kz3.size h); replace X3 := (X3.later b32); replace kz3 := bC kz3 b32
  clear S b32 h w30
  revert kz3; revert ndX3_X4; revert jX4; revert jX3; revert X4; revert X3; revert pp2_1; revert pp2_0; revert w32
  exact s3_15.out
  have ndX3_X5 : ¬ (pp2_0 = pp2_2) := (Nat.ne_of_lt (lY X3.lt h)); have jX5 := (lZ kz3.size h); replace X3 := (X3.later b33); replace kz3 := bC kz3 b33
  clear S b33 h w30
  revert kz3; revert ndX3_X5; revert jX5; revert jX3; revert X5; revert X3; revert pp2_2; revert pp2_0; revert w33
  exact s3_16.out
  case' ns3_6 => refine lH ?_
  intro w34 pp2_1 X4 jX4 kz3
  have S := Off.ofB kz3
  refine vY3 (cC 8 S (h3.out _ (ft.later (bC (bC (bC (bA (bA bR _) _) b1) (bC (bA bR _) b2)) kz3))) fun w35 b35 => s3_13.out w35 pp2_1 (X4.later b35) jX4 (bC kz3 b35)) (cA 16 S fun w36 pp2_0 h X3 b36 => s3_15.out w36 pp2_0 pp2_1 X3 (X4.later b36) (lZ kz3.size h) jX4 (Nat.ne_of_gt (lY X4.lt h)) (bC kz3 b36)) (cA 18 S fun w37 pp2_2 h X5 b37 => ?_)
  have ndX4_X5 : ¬ (pp2_1 = pp2_2) := (Nat.ne_of_lt (lY X4.lt h)); have jX5 := (lZ kz3.size h); replace X4 := (X4.later b37); replace kz3 := bC kz3 b37
  clear S b37 h w34
  revert kz3; revert ndX4_X5; revert jX5; revert jX4; revert X5; revert X4; revert pp2_2; revert pp2_1; revert w37
  exact s3_17.out
  case' ns3_7 => refine lH ?_
  intro w38 pp2_2 X5 jX5 kz3
  have S := Off.ofB kz3
  refine vY3 (cC 8 S (h3.out _ (ft.later (bC (bC (bC (bA (bA bR _) _) b1) (bC (bA bR _) b2)) kz3))) fun w39 b39 => s3_14.out w39 pp2_2 (X5.later b39) jX5 (bC kz3 b39)) (cA 16 S fun w40 pp2_0 h X3 b40 => s3_16.out w40 pp2_0 pp2_2 X3 (X5.later b40) (lZ kz3.size h) jX5 (Nat.ne_of_gt (lY X5.lt h)) (bC kz3 b40)) (cA 17 S fun w41 pp2_1 h X4 b41 => s3_17.out w41 pp2_1 pp2_2 X4 (X5.later b41) (lZ kz3.size h) jX5 (Nat.ne_of_gt (lY X5.lt h)) (bC kz3 b41))
  case' ns3_8 => refine lH ?_
  intro w42 pp2_0 pp2_1 X3 X4 jX3 jX4 ndX3_X4 kz3
  have S := Off.ofB kz3
  refine vY2 (cC 3 S (h2.out _ (ft.later (bC (bC (bC (bA (bA bR _) _) b1) (bC (bA bR _) b2)) kz3))) fun w43 b43 => s3_15.out w43 pp2_0 pp2_1 (X3.later b43) (X4.later b43) jX3 jX4 ndX3_X4 (bC kz3 b43)) (cA 18 S fun w44 pp2_2 h X5 b44 => ?_)
  have ndX3_X5 : ¬ (pp2_0 = pp2_2) := (Nat.ne_of_lt (lY X3.lt h)); have ndX4_X5 : ¬ (pp2_1 = pp2_2) := (Nat.ne_of_lt (lY X4.lt h)); have jX5 := (lZ kz3.size h); replace X3 := (X3.later b44); replace X4 := (X4.later b44); replace kz3 := bC kz3 b44
  clear S b44 h w42
  revert kz3; revert ndX4_X5; revert ndX3_X5; revert ndX3_X4; revert jX5; revert jX4; revert jX3; revert X5; revert X4; revert X3; revert pp2_2; revert pp2_1; revert pp2_0; revert w44
  exact s3_18.out
  case' ns3_9 => refine lH ?_
  intro w45 pp2_0 pp2_2 X3 X5 jX3 jX5 ndX3_X5 kz3
  have S := Off.ofB kz3
  refine vY2 (cC 3 S (h2.out _ (ft.later (bC (bC (bC (bA (bA bR _) _) b1) (bC (bA bR _) b2)) kz3))) fun w46 b46 => s3_16.out w46 pp2_0 pp2_2 (X3.later b46) (X5.later b46) jX3 jX5 ndX3_X5 (bC kz3 b46)) (cA 17 S fun w47 pp2_1 h X4 b47 => s3_18.out w47 pp2_0 pp2_1 pp2_2 (X3.later b47) X4 (X5.later b47) jX3 (lZ kz3.size h) jX5 (Nat.ne_of_lt (lY X3.lt h)) ndX3_X5 (Nat.ne_of_gt (lY X5.lt h)) (bC kz3 b47))
  case' ns3_10 => refine lH ?_
  intro w48 pp2_1 pp2_2 X4 X5 jX4 jX5 ndX4_X5 kz3
  have S := Off.ofB kz3
  refine vY2 (cC 3 S (h2.out _ (ft.later (bC (bC (bC (bA (bA bR _) _) b1) (bC (bA bR _) b2)) kz3))) fun w49 b49 => s3_17.out w49 pp2_1 pp2_2 (X4.later b49) (X5.later b49) jX4 jX5 ndX4_X5 (bC kz3 b49)) (cA 16 S fun w50 pp2_0 h X3 b50 => s3_18.out w50 pp2_0 pp2_1 pp2_2 X3 (X4.later b50) (X5.later b50) (lZ kz3.size h) jX4 jX5 (Nat.ne_of_gt (lY X4.lt h)) (Nat.ne_of_gt (lY X5.lt h)) ndX4_X5 (bC kz3 b50))
  case' ns3_11 => refine lH ?_
  intro w51 kz3
  have S := Off.ofB kz3
  refine vY4 (cC 13 S (h5.out _ (ft.later (bC (bC (bC (bA (bA bR _) _) b1) (bC (bA bR _) b2)) kz3))) fun w52 b52 => ?_) (cA 16 S fun w53 pp2_0 h X3 b53 => ?_) (cA 17 S fun w54 pp2_1 h X4 b54 => ?_) (cA 18 S fun w55 pp2_2 h X5 b55 => ?_)
  replace kz3 := bC kz3 b52
  clear S b52 w51
  revert kz3; revert w52
  exact s3_19.out
  have jX3 := (lZ kz3.size h); replace kz3 := bC kz3 b53
  clear S b53 h w51
  revert kz3; revert jX3; revert X3; revert pp2_0; revert w53
  exact s3_20.out
  have jX4 := (lZ kz3.size h); replace kz3 := bC kz3 b54
  clear S b54 h w51
  revert kz3; revert jX4; revert X4; revert pp2_1; revert w54
  exact s3_21.out
  have jX5 := (lZ kz3.size h); replace kz3 := bC kz3 b55
  clear S b55 h w51
  revert kz3; revert jX5; revert X5; revert pp2_2; revert w55
  exact s3_22.out
  case' ns3_12 => refine lH ?_
  intro w56 pp2_0 X3 jX3 kz3
  have S := Off.ofB kz3
  refine vY3 (cC 9 S (h4.out _ (ft.later (bC (bC (bC (bA (bA bR _) _) b1) (bC (bA bR _) b2)) kz3))) fun w57 b57 => s3_20.out w57 pp2_0 (X3.later b57) jX3 (bC kz3 b57)) (cA 17 S fun w58 pp2_1 h X4 b58 => ?_) (cA 18 S fun w59 pp2_2 h X5 b59 => ?_)
  have ndX3_X4 : ¬ (pp2_0 = pp2_1) := (Nat.ne_of_lt (lY X3.lt h)); have jX4 := (lZ kz3.size h); replace X3 := (X3.later b58); replace kz3 := bC kz3 b58
  clear S b58 h w56
  revert kz3; revert ndX3_X4; revert jX4; revert jX3; revert X4; revert X3; revert pp2_1; revert pp2_0; revert w58
  exact s3_23.out
  have ndX3_X5 : ¬ (pp2_0 = pp2_2) := (Nat.ne_of_lt (lY X3.lt h)); have jX5 := (lZ kz3.size h); replace X3 := (X3.later b59); replace kz3 := bC kz3 b59
  clear S b59 h w56
  revert kz3; revert ndX3_X5; revert jX5; revert jX3; revert X5; revert X3; revert pp2_2; revert pp2_0; revert w59
  exact s3_24.out
  case' ns3_13 => refine lH ?_
  intro w60 pp2_1 X4 jX4 kz3
  have S := Off.ofB kz3
  refine vY3 (cC 9 S (h4.out _ (ft.later (bC (bC (bC (bA (bA bR _) _) b1) (bC (bA bR _) b2)) kz3))) fun w61 b61 => s3_21.out w61 pp2_1 (X4.later b61) jX4 (bC kz3 b61)) (cA 16 S fun w62 pp2_0 h X3 b62 => s3_23.out w62 pp2_0 pp2_1 X3 (X4.later b62) (lZ kz3.size h) jX4 (Nat.ne_of_gt (lY X4.lt h)) (bC kz3 b62)) (cA 18 S fun w63 pp2_2 h X5 b63 => ?_)
  have ndX4_X5 : ¬ (pp2_1 = pp2_2) := (Nat.ne_of_lt (lY X4.lt h)); have jX5 := (lZ kz3.size h); replace X4 := (X4.later b63); replace kz3 := bC kz3 b63
  clear S b63 h w60
  revert kz3; revert ndX4_X5; revert jX5; revert jX4; revert X5; revert X4; revert pp2_2; revert pp2_1; revert w63
  exact s3_25.out
  case' ns3_14 => refine lH ?_
  intro w64 pp2_2 X5 jX5 kz3
  have S := Off.ofB kz3
  refine vY3 (cC 9 S (h4.out _ (ft.later (bC (bC (bC (bA (bA bR _) _) b1) (bC (bA bR _) b2)) kz3))) fun w65 b65 => s3_22.out w65 pp2_2 (X5.later b65) jX5 (bC kz3 b65)) (cA 16 S fun w66 pp2_0 h X3 b66 => s3_24.out w66 pp2_0 pp2_2 X3 (X5.later b66) (lZ kz3.size h) jX5 (Nat.ne_of_gt (lY X5.lt h)) (bC kz3 b66)) (cA 17 S fun w67 pp2_1 h X4 b67 => s3_25.out w67 pp2_1 pp2_2 X4 (X5.later b67) (lZ kz3.size h) jX5 (Nat.ne_of_gt (lY X5.lt h)) (bC kz3 b67))
  case' ns3_15 => refine lH ?_
  intro w68 pp2_0 pp2_1 X3 X4 jX3 jX4 ndX3_X4 kz3
  have S := Off.ofB kz3
  refine vY2 (cC 8 S (h3.out _ (ft.later (bC (bC (bC (bA (bA bR _) _) b1) (bC (bA bR _) b2)) kz3))) fun w69 b69 => s3_23.out w69 pp2_0 pp2_1 (X3.later b69) (X4.later b69) jX3 jX4 ndX3_X4 (bC kz3 b69)) (cA 18 S fun w70 pp2_2 h X5 b70 => ?_)
  have ndX3_X5 : ¬ (pp2_0 = pp2_2) := (Nat.ne_of_lt (lY X3.lt h)); have ndX4_X5 : ¬ (pp2_1 = pp2_2) := (Nat.ne_of_lt (lY X4.lt h)); have jX5 := (lZ kz3.size h); replace X3 := (X3.later b70); replace X4 := (X4.later b70); replace kz3 := bC kz3 b70
  clear S b70 h w68
  revert kz3; revert ndX4_X5; revert ndX3_X5; revert ndX3_X4; revert jX5; revert jX4; revert jX3; revert X5; revert X4; revert X3; revert pp2_2; revert pp2_1; revert pp2_0; revert w70
  exact s3_26.out
  case' ns3_16 => refine lH ?_
  intro w71 pp2_0 pp2_2 X3 X5 jX3 jX5 ndX3_X5 kz3
  have S := Off.ofB kz3
  refine vY2 (cC 8 S (h3.out _ (ft.later (bC (bC (bC (bA (bA bR _) _) b1) (bC (bA bR _) b2)) kz3))) fun w72 b72 => s3_24.out w72 pp2_0 pp2_2 (X3.later b72) (X5.later b72) jX3 jX5 ndX3_X5 (bC kz3 b72)) (cA 17 S fun w73 pp2_1 h X4 b73 => s3_26.out w73 pp2_0 pp2_1 pp2_2 (X3.later b73) X4 (X5.later b73) jX3 (lZ kz3.size h) jX5 (Nat.ne_of_lt (lY X3.lt h)) ndX3_X5 (Nat.ne_of_gt (lY X5.lt h)) (bC kz3 b73))
  case' ns3_17 => refine lH ?_
  intro w74 pp2_1 pp2_2 X4 X5 jX4 jX5 ndX4_X5 kz3
  have S := Off.ofB kz3
  refine vY2 (cC 8 S (h3.out _ (ft.later (bC (bC (bC (bA (bA bR _) _) b1) (bC (bA bR _) b2)) kz3))) fun w75 b75 => s3_25.out w75 pp2_1 pp2_2 (X4.later b75) (X5.later b75) jX4 jX5 ndX4_X5 (bC kz3 b75)) (cA 16 S fun w76 pp2_0 h X3 b76 => s3_26.out w76 pp2_0 pp2_1 pp2_2 X3 (X4.later b76) (X5.later b76) (lZ kz3.size h) jX4 jX5 (Nat.ne_of_gt (lY X4.lt h)) (Nat.ne_of_gt (lY X5.lt h)) ndX4_X5 (bC kz3 b76))
  case' ns3_18 => refine lH ?_
  intro w77 pp2_0 pp2_1 pp2_2 X3 X4 X5 jX3 jX4 jX5 ndX3_X4 ndX3_X5 ndX4_X5 kz3
  have S := Off.ofB kz3
  refine vY1 (cC 3 S (h2.out _ (ft.later (bC (bC (bC (bA (bA bR _) _) b1) (bC (bA bR _) b2)) kz3))) fun w78 b78 => s3_26.out w78 pp2_0 pp2_1 pp2_2 (X3.later b78) (X4.later b78) (X5.later b78) jX3 jX4 jX5 ndX3_X4 ndX3_X5 ndX4_X5 (bC kz3 b78))
  case' ns3_19 => refine lH ?_
  intro w79 kz3
  have S := Off.ofB kz3
  refine vY4 (cC 15 S (h6.out _ (ft.later (bC (bC (bC (bA (bA bR _) _) b1) (bC (bA bR _) b2)) kz3))) fun w80 b80 => ?_) (cA 16 S fun w81 pp2_0 h X3 b81 => ?_) (cA 17 S fun w82 pp2_1 h X4 b82 => ?_) (cA 18 S fun w83 pp2_2 h X5 b83 => ?_)
  replace kz3 := bC kz3 b80
  clear S b80 w79
  revert kz3; revert w80
  exact s3_27.out
  have jX3 := (lZ kz3.size h); replace kz3 := bC kz3 b81
  clear S b81 h w79
  revert kz3; revert jX3; revert X3; revert pp2_0; revert w81
  exact s3_28.out
  have jX4 := (lZ kz3.size h); replace kz3 := bC kz3 b82
  clear S b82 h w79
  revert kz3; revert jX4; revert X4; revert pp2_1; revert w82
  exact s3_29.out
  have jX5 := (lZ kz3.size h); replace kz3 := bC kz3 b83
  clear S b83 h w79
  revert kz3; revert jX5; revert X5; revert pp2_2; revert w83
  exact s3_30.out
  case' ns3_20 => refine lH ?_
  intro w84 pp2_0 X3 jX3 kz3
  have S := Off.ofB kz3
  refine vY3 (cC 13 S (h5.out _ (ft.later (bC (bC (bC (bA (bA bR _) _) b1) (bC (bA bR _) b2)) kz3))) fun w85 b85 => s3_28.out w85 pp2_0 (X3.later b85) jX3 (bC kz3 b85)) (cA 17 S fun w86 pp2_1 h X4 b86 => ?_) (cA 18 S fun w87 pp2_2 h X5 b87 => ?_)
  have ndX3_X4 : ¬ (pp2_0 = pp2_1) := (Nat.ne_of_lt (lY X3.lt h)); have jX4 := (lZ kz3.size h); replace X3 := (X3.later b86); replace kz3 := bC kz3 b86
  clear S b86 h w84
  revert kz3; revert ndX3_X4; revert jX4; revert jX3; revert X4; revert X3; revert pp2_1; revert pp2_0; revert w86
  exact s3_31.out
  have ndX3_X5 : ¬ (pp2_0 = pp2_2) := (Nat.ne_of_lt (lY X3.lt h)); have jX5 := (lZ kz3.size h); replace X3 := (X3.later b87); replace kz3 := bC kz3 b87
  clear S b87 h w84
  revert kz3; revert ndX3_X5; revert jX5; revert jX3; revert X5; revert X3; revert pp2_2; revert pp2_0; revert w87
  exact s3_32.out
  case' ns3_21 => refine lH ?_
  intro w88 pp2_1 X4 jX4 kz3
  have S := Off.ofB kz3
  refine vY3 (cC 13 S (h5.out _ (ft.later (bC (bC (bC (bA (bA bR _) _) b1) (bC (bA bR _) b2)) kz3))) fun w89 b89 => s3_29.out w89 pp2_1 (X4.later b89) jX4 (bC kz3 b89)) (cA 16 S fun w90 pp2_0 h X3 b90 => s3_31.out w90 pp2_0 pp2_1 X3 (X4.later b90) (lZ kz3.size h) jX4 (Nat.ne_of_gt (lY X4.lt h)) (bC kz3 b90)) (cA 18 S fun w91 pp2_2 h X5 b91 => ?_)
  have ndX4_X5 : ¬ (pp2_1 = pp2_2) := (Nat.ne_of_lt (lY X4.lt h)); have jX5 := (lZ kz3.size h); replace X4 := (X4.later b91); replace kz3 := bC kz3 b91
  clear S b91 h w88
  revert kz3; revert ndX4_X5; revert jX5; revert jX4; revert X5; revert X4; revert pp2_2; revert pp2_1; revert w91
  exact s3_33.out
  case' ns3_22 => refine lH ?_
  intro w92 pp2_2 X5 jX5 kz3
  have S := Off.ofB kz3
  refine vY3 (cC 13 S (h5.out _ (ft.later (bC (bC (bC (bA (bA bR _) _) b1) (bC (bA bR _) b2)) kz3))) fun w93 b93 => s3_30.out w93 pp2_2 (X5.later b93) jX5 (bC kz3 b93)) (cA 16 S fun w94 pp2_0 h X3 b94 => s3_32.out w94 pp2_0 pp2_2 X3 (X5.later b94) (lZ kz3.size h) jX5 (Nat.ne_of_gt (lY X5.lt h)) (bC kz3 b94)) (cA 17 S fun w95 pp2_1 h X4 b95 => s3_33.out w95 pp2_1 pp2_2 X4 (X5.later b95) (lZ kz3.size h) jX5 (Nat.ne_of_gt (lY X5.lt h)) (bC kz3 b95))
  case' ns3_23 => refine lH ?_
  intro w96 pp2_0 pp2_1 X3 X4 jX3 jX4 ndX3_X4 kz3
  have S := Off.ofB kz3
  refine vY2 (cC 9 S (h4.out _ (ft.later (bC (bC (bC (bA (bA bR _) _) b1) (bC (bA bR _) b2)) kz3))) fun w97 b97 => s3_31.out w97 pp2_0 pp2_1 (X3.later b97) (X4.later b97) jX3 jX4 ndX3_X4 (bC kz3 b97)) (cA 18 S fun w98 pp2_2 h X5 b98 => ?_)
  have ndX3_X5 : ¬ (pp2_0 = pp2_2) := (Nat.ne_of_lt (lY X3.lt h)); have ndX4_X5 : ¬ (pp2_1 = pp2_2) := (Nat.ne_of_lt (lY X4.lt h)); have jX5 := (lZ kz3.size h); replace X3 := (X3.later b98); replace X4 := (X4.later b98); replace kz3 := bC kz3 b98
  clear S b98 h w96
  revert kz3; revert ndX4_X5; revert ndX3_X5; revert ndX3_X4; revert jX5; revert jX4; revert jX3; revert X5; revert X4; revert X3; revert pp2_2; revert pp2_1; revert pp2_0; revert w98
  exact s3_34.out
  case' ns3_24 => refine lH ?_
  intro w99 pp2_0 pp2_2 X3 X5 jX3 jX5 ndX3_X5 kz3
  have S := Off.ofB kz3
  refine vY2 (cC 9 S (h4.out _ (ft.later (bC (bC (bC (bA (bA bR _) _) b1) (bC (bA bR _) b2)) kz3))) fun w100 b100 => s3_32.out w100 pp2_0 pp2_2 (X3.later b100) (X5.later b100) jX3 jX5 ndX3_X5 (bC kz3 b100)) (cA 17 S fun w101 pp2_1 h X4 b101 => s3_34.out w101 pp2_0 pp2_1 pp2_2 (X3.later b101) X4 (X5.later b101) jX3 (lZ kz3.size h) jX5 (Nat.ne_of_lt (lY X3.lt h)) ndX3_X5 (Nat.ne_of_gt (lY X5.lt h)) (bC kz3 b101))
  case' ns3_25 => refine lH ?_
  intro w102 pp2_1 pp2_2 X4 X5 jX4 jX5 ndX4_X5 kz3
  have S := Off.ofB kz3
  refine vY2 (cC 9 S (h4.out _ (ft.later (bC (bC (bC (bA (bA bR _) _) b1) (bC (bA bR _) b2)) kz3))) fun w103 b103 => s3_33.out w103 pp2_1 pp2_2 (X4.later b103) (X5.later b103) jX4 jX5 ndX4_X5 (bC kz3 b103)) (cA 16 S fun w104 pp2_0 h X3 b104 => s3_34.out w104 pp2_0 pp2_1 pp2_2 X3 (X4.later b104) (X5.later b104) (lZ kz3.size h) jX4 jX5 (Nat.ne_of_gt (lY X4.lt h)) (Nat.ne_of_gt (lY X5.lt h)) ndX4_X5 (bC kz3 b104))
  case' ns3_26 => refine lH ?_
  intro w105 pp2_0 pp2_1 pp2_2 X3 X4 X5 jX3 jX4 jX5 ndX3_X4 ndX3_X5 ndX4_X5 kz3
  have S := Off.ofB kz3
  refine vY1 (cC 8 S (h3.out _ (ft.later (bC (bC (bC (bA (bA bR _) _) b1) (bC (bA bR _) b2)) kz3))) fun w106 b106 => s3_34.out w106 pp2_0 pp2_1 pp2_2 (X3.later b106) (X4.later b106) (X5.later b106) jX3 jX4 jX5 ndX3_X4 ndX3_X5 ndX4_X5 (bC kz3 b106))
  case' ns3_27 => refine lH ?_
  intro w107 kz3
  have S := Off.ofB kz3
  refine vY3 (cA 16 S fun w108 pp2_0 h X3 b108 => ?_) (cA 17 S fun w109 pp2_1 h X4 b109 => ?_) (cA 18 S fun w110 pp2_2 h X5 b110 => ?_)
  have jX3 := (lZ kz3.size h); replace kz3 := bC kz3 b108
  clear S b108 h w107
  revert kz3; revert jX3; revert X3; revert pp2_0; revert w108
  exact s3_35.out
  have jX4 := (lZ kz3.size h); replace kz3 := bC kz3 b109
  clear S b109 h w107
  revert kz3; revert jX4; revert X4; revert pp2_1; revert w109
  exact s3_36.out
  have jX5 := (lZ kz3.size h); replace kz3 := bC kz3 b110
  clear S b110 h w107
  revert kz3; revert jX5; revert X5; revert pp2_2; revert w110
  exact s3_37.out
  case' ns3_28 => refine lH ?_
  intro w111 pp2_0 X3 jX3 kz3
  have S := Off.ofB kz3
  refine vY3 (cC 15 S (h6.out _ (ft.later (bC (bC (bC (bA (bA bR _) _) b1) (bC (bA bR _) b2)) kz3))) fun w112 b112 => s3_35.out w112 pp2_0 (X3.later b112) jX3 (bC kz3 b112)) (cA 17 S fun w113 pp2_1 h X4 b113 => ?_) (cA 18 S fun w114 pp2_2 h X5 b114 => ?_)
  have ndX3_X4 : ¬ (pp2_0 = pp2_1) := (Nat.ne_of_lt (lY X3.lt h)); have jX4 := (lZ kz3.size h); replace X3 := (X3.later b113); replace kz3 := bC kz3 b113
  clear S b113 h w111
  revert kz3; revert ndX3_X4; revert jX4; revert jX3; revert X4; revert X3; revert pp2_1; revert pp2_0; revert w113
  exact s3_38.out
  have ndX3_X5 : ¬ (pp2_0 = pp2_2) := (Nat.ne_of_lt (lY X3.lt h)); have jX5 := (lZ kz3.size h); replace X3 := (X3.later b114); replace kz3 := bC kz3 b114
  clear S b114 h w111
  revert kz3; revert ndX3_X5; revert jX5; revert jX3; revert X5; revert X3; revert pp2_2; revert pp2_0; revert w114
  exact s3_39.out
  case' ns3_29 => refine lH ?_
  intro w115 pp2_1 X4 jX4 kz3
  have S := Off.ofB kz3
  refine vY3 (cC 15 S (h6.out _ (ft.later (bC (bC (bC (bA (bA bR _) _) b1) (bC (bA bR _) b2)) kz3))) fun w116 b116 => s3_36.out w116 pp2_1 (X4.later b116) jX4 (bC kz3 b116)) (cA 16 S fun w117 pp2_0 h X3 b117 => s3_38.out w117 pp2_0 pp2_1 X3 (X4.later b117) (lZ kz3.size h) jX4 (Nat.ne_of_gt (lY X4.lt h)) (bC kz3 b117)) (cA 18 S fun w118 pp2_2 h X5 b118 => ?_)
  have ndX4_X5 : ¬ (pp2_1 = pp2_2) := (Nat.ne_of_lt (lY X4.lt h)); have jX5 := (lZ kz3.size h); replace X4 := (X4.later b118); replace kz3 := bC kz3 b118
  clear S b118 h w115
  revert kz3; revert ndX4_X5; revert jX5; revert jX4; revert X5; revert X4; revert pp2_2; revert pp2_1; revert w118
  exact s3_40.out
  case' ns3_30 => refine lH ?_
  intro w119 pp2_2 X5 jX5 kz3
  have S := Off.ofB kz3
  refine vY3 (cC 15 S (h6.out _ (ft.later (bC (bC (bC (bA (bA bR _) _) b1) (bC (bA bR _) b2)) kz3))) fun w120 b120 => s3_37.out w120 pp2_2 (X5.later b120) jX5 (bC kz3 b120)) (cA 16 S fun w121 pp2_0 h X3 b121 => s3_39.out w121 pp2_0 pp2_2 X3 (X5.later b121) (lZ kz3.size h) jX5 (Nat.ne_of_gt (lY X5.lt h)) (bC kz3 b121)) (cA 17 S fun w122 pp2_1 h X4 b122 => s3_40.out w122 pp2_1 pp2_2 X4 (X5.later b122) (lZ kz3.size h) jX5 (Nat.ne_of_gt (lY X5.lt h)) (bC kz3 b122))
  case' ns3_31 => refine lH ?_
  intro w123 pp2_0 pp2_1 X3 X4 jX3 jX4 ndX3_X4 kz3
  have S := Off.ofB kz3
  refine vY2 (cC 13 S (h5.out _ (ft.later (bC (bC (bC (bA (bA bR _) _) b1) (bC (bA bR _) b2)) kz3))) fun w124 b124 => s3_38.out w124 pp2_0 pp2_1 (X3.later b124) (X4.later b124) jX3 jX4 ndX3_X4 (bC kz3 b124)) (cA 18 S fun w125 pp2_2 h X5 b125 => ?_)
  have ndX3_X5 : ¬ (pp2_0 = pp2_2) := (Nat.ne_of_lt (lY X3.lt h)); have ndX4_X5 : ¬ (pp2_1 = pp2_2) := (Nat.ne_of_lt (lY X4.lt h)); have jX5 := (lZ kz3.size h); replace X3 := (X3.later b125); replace X4 := (X4.later b125); replace kz3 := bC kz3 b125
  clear S b125 h w123
  revert kz3; revert ndX4_X5; revert ndX3_X5; revert ndX3_X4; revert jX5; revert jX4; revert jX3; revert X5; revert X4; revert X3; revert pp2_2; revert pp2_1; revert pp2_0; revert w125
  exact s3_41.out
  case' ns3_32 => refine lH ?_
  intro w126 pp2_0 pp2_2 X3 X5 jX3 jX5 ndX3_X5 kz3
  have S := Off.ofB kz3
  refine vY2 (cC 13 S (h5.out _ (ft.later (bC (bC (bC (bA (bA bR _) _) b1) (bC (bA bR _) b2)) kz3))) fun w127 b127 => s3_39.out w127 pp2_0 pp2_2 (X3.later b127) (X5.later b127) jX3 jX5 ndX3_X5 (bC kz3 b127)) (cA 17 S fun w128 pp2_1 h X4 b128 => s3_41.out w128 pp2_0 pp2_1 pp2_2 (X3.later b128) X4 (X5.later b128) jX3 (lZ kz3.size h) jX5 (Nat.ne_of_lt (lY X3.lt h)) ndX3_X5 (Nat.ne_of_gt (lY X5.lt h)) (bC kz3 b128))
  case' ns3_33 => refine lH ?_
  intro w129 pp2_1 pp2_2 X4 X5 jX4 jX5 ndX4_X5 kz3
  have S := Off.ofB kz3
  refine vY2 (cC 13 S (h5.out _ (ft.later (bC (bC (bC (bA (bA bR _) _) b1) (bC (bA bR _) b2)) kz3))) fun w130 b130 => s3_40.out w130 pp2_1 pp2_2 (X4.later b130) (X5.later b130) jX4 jX5 ndX4_X5 (bC kz3 b130)) (cA 16 S fun w131 pp2_0 h X3 b131 => s3_41.out w131 pp2_0 pp2_1 pp2_2 X3 (X4.later b131) (X5.later b131) (lZ kz3.size h) jX4 jX5 (Nat.ne_of_gt (lY X4.lt h)) (Nat.ne_of_gt (lY X5.lt h)) ndX4_X5 (bC kz3 b131))
  case' ns3_34 => refine lH ?_
  intro w132 pp2_0 pp2_1 pp2_2 X3 X4 X5 jX3 jX4 jX5 ndX3_X4 ndX3_X5 ndX4_X5 kz3
  have S := Off.ofB kz3
  refine vY1 (cC 9 S (h4.out _ (ft.later (bC (bC (bC (bA (bA bR _) _) b1) (bC (bA bR _) b2)) kz3))) fun w133 b133 => s3_41.out w133 pp2_0 pp2_1 pp2_2 (X3.later b133) (X4.later b133) (X5.later b133) jX3 jX4 jX5 ndX3_X4 ndX3_X5 ndX4_X5 (bC kz3 b133))
  case' ns3_35 => refine lH ?_
  intro w134 pp2_0 X3 jX3 kz3
  have S := Off.ofB kz3
  refine vY2 (cA 17 S fun w135 pp2_1 h X4 b135 => ?_) (cA 18 S fun w136 pp2_2 h X5 b136 => ?_)
  have ndX3_X4 : ¬ (pp2_0 = pp2_1) := (Nat.ne_of_lt (lY X3.lt h)); have jX4 := (lZ kz3.size h); replace X3 := (X3.later b135); replace kz3 := bC kz3 b135
  clear S b135 h w134
  revert kz3; revert ndX3_X4; revert jX4; revert jX3; revert X4; revert X3; revert pp2_1; revert pp2_0; revert w135
  exact s3_42.out
  have ndX3_X5 : ¬ (pp2_0 = pp2_2) := (Nat.ne_of_lt (lY X3.lt h)); have jX5 := (lZ kz3.size h); replace X3 := (X3.later b136); replace kz3 := bC kz3 b136
  clear S b136 h w134
  revert kz3; revert ndX3_X5; revert jX5; revert jX3; revert X5; revert X3; revert pp2_2; revert pp2_0; revert w136
  exact s3_43.out
  case' ns3_36 => refine lH ?_
  intro w137 pp2_1 X4 jX4 kz3
  have S := Off.ofB kz3
  refine vY2 (cA 16 S fun w138 pp2_0 h X3 b138 => s3_42.out w138 pp2_0 pp2_1 X3 (X4.later b138) (lZ kz3.size h) jX4 (Nat.ne_of_gt (lY X4.lt h)) (bC kz3 b138)) (cA 18 S fun w139 pp2_2 h X5 b139 => ?_)
  have ndX4_X5 : ¬ (pp2_1 = pp2_2) := (Nat.ne_of_lt (lY X4.lt h)); have jX5 := (lZ kz3.size h); replace X4 := (X4.later b139); replace kz3 := bC kz3 b139
  clear S b139 h w137
  revert kz3; revert ndX4_X5; revert jX5; revert jX4; revert X5; revert X4; revert pp2_2; revert pp2_1; revert w139
  exact s3_44.out
  case' ns3_37 => refine lH ?_
  intro w140 pp2_2 X5 jX5 kz3
  have S := Off.ofB kz3
  refine vY2 (cA 16 S fun w141 pp2_0 h X3 b141 => s3_43.out w141 pp2_0 pp2_2 X3 (X5.later b141) (lZ kz3.size h) jX5 (Nat.ne_of_gt (lY X5.lt h)) (bC kz3 b141)) (cA 17 S fun w142 pp2_1 h X4 b142 => s3_44.out w142 pp2_1 pp2_2 X4 (X5.later b142) (lZ kz3.size h) jX5 (Nat.ne_of_gt (lY X5.lt h)) (bC kz3 b142))
  case' ns3_38 => refine lH ?_
  intro w143 pp2_0 pp2_1 X3 X4 jX3 jX4 ndX3_X4 kz3
  have S := Off.ofB kz3
  refine vY2 (cC 15 S (h6.out _ (ft.later (bC (bC (bC (bA (bA bR _) _) b1) (bC (bA bR _) b2)) kz3))) fun w144 b144 => s3_42.out w144 pp2_0 pp2_1 (X3.later b144) (X4.later b144) jX3 jX4 ndX3_X4 (bC kz3 b144)) (cA 18 S fun w145 pp2_2 h X5 b145 => ?_)
  have ndX3_X5 : ¬ (pp2_0 = pp2_2) := (Nat.ne_of_lt (lY X3.lt h)); have ndX4_X5 : ¬ (pp2_1 = pp2_2) := (Nat.ne_of_lt (lY X4.lt h)); have jX5 := (lZ kz3.size h); replace X3 := (X3.later b145); replace X4 := (X4.later b145); replace kz3 := bC kz3 b145
  clear S b145 h w143
  revert kz3; revert ndX4_X5; revert ndX3_X5; revert ndX3_X4; revert jX5; revert jX4; revert jX3; revert X5; revert X4; revert X3; revert pp2_2; revert pp2_1; revert pp2_0; revert w145
  exact s3_45.out
  case' ns3_39 => refine lH ?_
  intro w146 pp2_0 pp2_2 X3 X5 jX3 jX5 ndX3_X5 kz3
  have S := Off.ofB kz3
  refine vY2 (cC 15 S (h6.out _ (ft.later (bC (bC (bC (bA (bA bR _) _) b1) (bC (bA bR _) b2)) kz3))) fun w147 b147 => s3_43.out w147 pp2_0 pp2_2 (X3.later b147) (X5.later b147) jX3 jX5 ndX3_X5 (bC kz3 b147)) (cA 17 S fun w148 pp2_1 h X4 b148 => s3_45.out w148 pp2_0 pp2_1 pp2_2 (X3.later b148) X4 (X5.later b148) jX3 (lZ kz3.size h) jX5 (Nat.ne_of_lt (lY X3.lt h)) ndX3_X5 (Nat.ne_of_gt (lY X5.lt h)) (bC kz3 b148))
  case' ns3_40 => refine lH ?_
  intro w149 pp2_1 pp2_2 X4 X5 jX4 jX5 ndX4_X5 kz3
  have S := Off.ofB kz3
  refine vY2 (cC 15 S (h6.out _ (ft.later (bC (bC (bC (bA (bA bR _) _) b1) (bC (bA bR _) b2)) kz3))) fun w150 b150 => s3_44.out w150 pp2_1 pp2_2 (X4.later b150) (X5.later b150) jX4 jX5 ndX4_X5 (bC kz3 b150)) (cA 16 S fun w151 pp2_0 h X3 b151 => s3_45.out w151 pp2_0 pp2_1 pp2_2 X3 (X4.later b151) (X5.later b151) (lZ kz3.size h) jX4 jX5 (Nat.ne_of_gt (lY X4.lt h)) (Nat.ne_of_gt (lY X5.lt h)) ndX4_X5 (bC kz3 b151))
  case' ns3_41 => refine lH ?_
  intro w152 pp2_0 pp2_1 pp2_2 X3 X4 X5 jX3 jX4 jX5 ndX3_X4 ndX3_X5 ndX4_X5 kz3
  have S := Off.ofB kz3
  refine vY1 (cC 13 S (h5.out _ (ft.later (bC (bC (bC (bA (bA bR _) _) b1) (bC (bA bR _) b2)) kz3))) fun w153 b153 => s3_45.out w153 pp2_0 pp2_1 pp2_2 (X3.later b153) (X4.later b153) (X5.later b153) jX3 jX4 jX5 ndX3_X4 ndX3_X5 ndX4_X5 (bC kz3 b153))
  case' ns3_42 => refine lH ?_
  intro w154 pp2_0 pp2_1 X3 X4 jX3 jX4 ndX3_X4 kz3
  have S := Off.ofB kz3
  refine vY1 (cA 18 S fun w155 pp2_2 h X5 b155 => ?_)
  have ndX3_X5 : ¬ (pp2_0 = pp2_2) := (Nat.ne_of_lt (lY X3.lt h)); have ndX4_X5 : ¬ (pp2_1 = pp2_2) := (Nat.ne_of_lt (lY X4.lt h)); have jX5 := (lZ kz3.size h); replace X3 := (X3.later b155); replace X4 := (X4.later b155); replace kz3 := bC kz3 b155
  clear S b155 h w154
  revert kz3; revert ndX4_X5; revert ndX3_X5; revert ndX3_X4; revert jX5; revert jX4; revert jX3; revert X5; revert X4; revert X3; revert pp2_2; revert pp2_1; revert pp2_0; revert w155
  exact s3_46.out
  case' ns3_43 => refine lH ?_
  intro w156 pp2_0 pp2_2 X3 X5 jX3 jX5 ndX3_X5 kz3
  have S := Off.ofB kz3
  refine vY1 (cA 17 S fun w157 pp2_1 h X4 b157 => s3_46.out w157 pp2_0 pp2_1 pp2_2 (X3.later b157) X4 (X5.later b157) jX3 (lZ kz3.size h) jX5 (Nat.ne_of_lt (lY X3.lt h)) ndX3_X5 (Nat.ne_of_gt (lY X5.lt h)) (bC kz3 b157))
  case' ns3_44 => refine lH ?_
  intro w158 pp2_1 pp2_2 X4 X5 jX4 jX5 ndX4_X5 kz3
  have S := Off.ofB kz3
  refine vY1 (cA 16 S fun w159 pp2_0 h X3 b159 => s3_46.out w159 pp2_0 pp2_1 pp2_2 X3 (X4.later b159) (X5.later b159) (lZ kz3.size h) jX4 jX5 (Nat.ne_of_gt (lY X4.lt h)) (Nat.ne_of_gt (lY X5.lt h)) ndX4_X5 (bC kz3 b159))
  case' ns3_45 => refine lH ?_
  intro w160 pp2_0 pp2_1 pp2_2 X3 X4 X5 jX3 jX4 jX5 ndX3_X4 ndX3_X5 ndX4_X5 kz3
  have S := Off.ofB kz3
  refine vY1 (cC 15 S (h6.out _ (ft.later (bC (bC (bC (bA (bA bR _) _) b1) (bC (bA bR _) b2)) kz3))) fun w161 b161 => s3_46.out w161 pp2_0 pp2_1 pp2_2 (X3.later b161) (X4.later b161) (X5.later b161) jX3 jX4 jX5 ndX3_X4 ndX3_X5 ndX4_X5 (bC kz3 b161))
  case' ns3_46 => refine lH ?_
  intro w162 pp2_0 pp2_1 pp2_2 X3 X4 X5 jX3 jX4 jX5 ndX3_X4 ndX3_X5 ndX4_X5 kz3
  have S := Off.ofB kz3
  refine vY1 (vO 19 fun K hK => ?_)
  have q := X3.o; have mX4 : ¬ (pp2_1 = pp2_0) := (by omega); have mX5 : ¬ (pp2_2 = pp2_0) := (by omega)
  go_simp
  refine vW (fun W => HB W pp2_0 30 #[.int .u64 rh, .int .u64 rl, .int .u8 fl] ∧ HB W pp2_1 30 #[.int .u64 0, .int .u64 0, .int .u8 0] ∧ HB W pp2_2 30 #[.int .u64 0, .int .u64 0, .int .u8 0] ∧ Below w2.heap.size w2 W) ⟨(((X3.set 0 _).set 1 _).set 2 _), (((X4.other mX4 0 _).other mX4 1 _).other mX4 2 _), (((X5.other mX5 0 _).other mX5 1 _).other mX5 2 _), (((kz3.setCell (p := ⟨pp2_0, 0, none⟩) jX3 _).setCell (p := ⟨pp2_0, 1, none⟩) jX3 _).setCell (p := ⟨pp2_0, 2, none⟩) jX3 _)⟩ fun w164 hz => ?_
  clear q mX4 mX5 X3 X4 X5 S kz3 w162; obtain ⟨X3, X4, X5, kz3⟩ := hz
  refine hK.out _ _ (Off.ofB kz3) fun S => ?_; clear hK K S; refine vP ?_
  revert kz3; revert ndX4_X5; revert ndX3_X5; revert ndX3_X4; revert jX5; revert jX4; revert jX3; revert X5; revert X4; revert X3; revert pp2_2; revert pp2_1; revert pp2_0; revert w164
  exact s3_47.out
  case' ns3_47 => refine lH ?_
  intro w165 pp2_0 pp2_1 pp2_2 X3 X4 X5 jX3 jX4 jX5 ndX3_X4 ndX3_X5 ndX4_X5 kz3
  have S := Off.ofB kz3
  refine vY1 (vO 20 fun K hK => ?_)
  have q := X4.o; have mX3 : ¬ (pp2_0 = pp2_1) := (by omega); have mX5 : ¬ (pp2_2 = pp2_1) := (by omega)
  go_simp
  refine vW (fun W => HB W pp2_0 30 #[.int .u64 rh, .int .u64 rl, .int .u8 fl] ∧ HB W pp2_1 30 #[.int .u64 rh, .int .u64 rl, .int .u8 fl] ∧ HB W pp2_2 30 #[.int .u64 0, .int .u64 0, .int .u8 0] ∧ Below w2.heap.size w2 W) ⟨(((X3.other mX3 0 _).other mX3 1 _).other mX3 2 _), (((X4.set 0 _).set 1 _).set 2 _), (((X5.other mX5 0 _).other mX5 1 _).other mX5 2 _), (((kz3.setCell (p := ⟨pp2_1, 0, none⟩) jX4 _).setCell (p := ⟨pp2_1, 1, none⟩) jX4 _).setCell (p := ⟨pp2_1, 2, none⟩) jX4 _)⟩ fun w167 hz => ?_
  clear q mX3 mX5 X3 X4 X5 S kz3 w165; obtain ⟨X3, X4, X5, kz3⟩ := hz
  refine hK.out _ _ (Off.ofB kz3) fun S => ?_; clear hK K S; refine vP ?_
  revert kz3; revert ndX4_X5; revert ndX3_X5; revert ndX3_X4; revert jX5; revert jX4; revert jX3; revert X5; revert X4; revert X3; revert pp2_2; revert pp2_1; revert pp2_0; revert w167
  exact s3_48.out
  case' ns3_48 => refine lH ?_
  intro w168 pp2_0 pp2_1 pp2_2 X3 X4 X5 jX3 jX4 jX5 ndX3_X4 ndX3_X5 ndX4_X5 kz3
  have S := Off.ofB kz3
  refine vY1 (vO 21 fun K hK => ?_)
  have q := X5.o; have mX3 : ¬ (pp2_0 = pp2_2) := (by omega); have mX4 : ¬ (pp2_1 = pp2_2) := (by omega)
  go_simp
  refine vW (fun W => HB W pp2_0 30 #[.int .u64 rh, .int .u64 rl, .int .u8 fl] ∧ HB W pp2_1 30 #[.int .u64 rh, .int .u64 rl, .int .u8 fl] ∧ HB W pp2_2 30 #[.int .u64 rh, .int .u64 rl, .int .u8 fl] ∧ Below w2.heap.size w2 W) ⟨(((X3.other mX3 0 _).other mX3 1 _).other mX3 2 _), (((X4.other mX4 0 _).other mX4 1 _).other mX4 2 _), (((X5.set 0 _).set 1 _).set 2 _), (((kz3.setCell (p := ⟨pp2_2, 0, none⟩) jX5 _).setCell (p := ⟨pp2_2, 1, none⟩) jX5 _).setCell (p := ⟨pp2_2, 2, none⟩) jX5 _)⟩ fun w170 hz => ?_
  clear q mX3 mX4 X3 X4 X5 S kz3 w168; obtain ⟨X3, X4, X5, kz3⟩ := hz
  refine hK.out _ _ (Off.ofB kz3) fun S => ?_; clear hK K S; refine vP ?_
  revert kz3; revert ndX4_X5; revert ndX3_X5; revert ndX3_X4; revert jX5; revert jX4; revert jX3; revert X5; revert X4; revert X3; revert pp2_2; revert pp2_1; revert pp2_0; revert w170
  exact s3_49.out
  case' ns3_49 => refine lH ?_
  intro w171 pp2_0 pp2_1 pp2_2 X3 X4 X5 jX3 jX4 jX5 ndX3_X4 ndX3_X5 ndX4_X5 kz3
  refine vD ?_
  have gX3 : w.heap.size ≤ pp2_0 := by have := (bC (bC (bA (bA bR _) _) b1) (bC (bA bR _) b2)).size; omega
  have gX4 : w.heap.size ≤ pp2_1 := by have := (bC (bC (bA (bA bR _) _) b1) (bC (bA bR _) b2)).size; omega
  have gX5 : w.heap.size ≤ pp2_2 := by have := (bC (bC (bA (bA bR _) _) b1) (bC (bA bR _) b2)).size; omega
  have oX3 := X3.o
  go_wp2_with fail
  refine vM (h7.out _ (ft.later (bC (bC (bC (bA (bA bR _) _) b1) (bC (bA bR _) b2)) kz3))) fun w172 b172 => ?_
  clear oX3
  replace X3 := X3.later b172
  have oX3 := X3.o
  replace X4 := X4.later b172
  have oX4 := X4.o
  replace X5 := X5.later b172
  have oX5 := X5.o
  go_wp2_with fail
  refine vM (h8.out _ (ft.later (bC (bC (bC (bC (bA (bA bR _) _) b1) (bC (bA bR _) b2)) kz3) b172))) fun w173 b173 => ?_
  clear oX3 oX4 oX5
  go_wp2_with fail
  go_ret
  exact ⟨rfl, (bC (bC (bC (bC (bC (bA (bA bR _) _) b1) (bC (bA bR _) b2)) kz3) b172) b173)⟩
theorem turn23_num (f ah al bh bl rh rl ph pl qh ql vh vl : Int)
    (h0 : Hid (∀ w, FTab w → Ca 15 #[.int .u8 f] w (.bool true)))
    (h2 : Hid (∀ w, FTab w → Ca 12 #[.int .u8 f, U2 ah al, U2 bh bl] w (.agg #[.int .u64 rh, .int .u64 rl, .int .u8 0])))
    (h3 : Hid (∀ w, FTab w → Ca 23 #[.int .u8 f, U2 bh bl] w (U2 qh ql)))
    (h4 : Hid (∀ w, FTab w → Ca 12 #[.int .u8 f, U2 ah al, U2 qh ql] w (.agg #[.int .u64 rh, .int .u64 rl, .int .u8 0])))
    (h5 : Hid (∀ w, FTab w → Ca 23 #[.int .u8 f, U2 ah al] w (U2 ph pl)))
    (h6 : Hid (∀ w, FTab w → Ca 12 #[.int .u8 f, U2 ph pl, U2 bh bl] w (.agg #[.int .u64 vh, .int .u64 vl, .int .u8 0])))
    (h7 : Hid (∀ w, FTab w → Ca 22 #[.int .u8 f, U2 rh rl] w (.bool false)))
    (h8 : Hid (∀ w, FTab w → Ca 23 #[.int .u8 f, U2 rh rl] w (U2 vh vl)))
    (h9 : Hid (∀ w, FTab w → Ca 11 #[] w (.bool true))) (AN : Hid (∀ w, FTab w → ∀ p T, HB w p T #[.int .u64 ah, .int .u64 al, .int .u64 bh, .int .u64 bl] → Ca 21 #[.int .u8 f, .func (.func 22) #[] #[], .slice (some ⟨p, 0, none⟩) 2 2] w (.bool false))) (w : World) (ft : FTab w) :
    Ca 5 #[.int .u8 f, U2 ah al, U2 bh bl] w (.bool true) := by
  simp only [Ca, U2] at *
  have EQ := eqr23 rh rl 0
  have EZ := eqr23 vh vl 0
  go_enter Tryz.func5, Tryz.ntmps5
  go_wp2_with fail
  refine vM (h0.out _ (ft.later (bA (bA bR _) _))) fun w1 b1 => ?_
  have X0 := ((HB.newAt (b := w.heap.size) (by simp) _ _).alloc _).later b1
  have X1 := (HB.newAt (b := w.heap.size + 1) (by simp) _ _).later b1
  have oX0 := X0.o
  have oX1 := X1.o
  go_wp2_with fail
  refine vM (AN.out _ (ft.later (bA (bC (bA (bA bR _) _) b1) _)) _ _ (HB.newAt (b := w1.heap.size) (by simp) _ _)) fun w2 b2 => ?_
  clear oX0 oX1
  go_wp2_with fail
  replace X0 := X0.later (bC (bA bR _) b2)
  replace X1 := X1.later (bC (bA bR _) b2)
  refine' (have s3_49 : Hid (_ : Prop) := ?ns3_49; ?ms3_49)
  case' ms3_49 => skip
  refine' (have s3_48 : Hid (_ : Prop) := ?ns3_48; ?ms3_48)
  case' ms3_48 => skip
  refine' (have s3_47 : Hid (_ : Prop) := ?ns3_47; ?ms3_47)
  case' ms3_47 => skip
  refine' (have s3_46 : Hid (_ : Prop) := ?ns3_46; ?ms3_46)
  case' ms3_46 => skip
  refine' (have s3_45 : Hid (_ : Prop) := ?ns3_45; ?ms3_45)
  case' ms3_45 => skip
  refine' (have s3_44 : Hid (_ : Prop) := ?ns3_44; ?ms3_44)
  case' ms3_44 => skip
  refine' (have s3_43 : Hid (_ : Prop) := ?ns3_43; ?ms3_43)
  case' ms3_43 => skip
  refine' (have s3_42 : Hid (_ : Prop) := ?ns3_42; ?ms3_42)
  case' ms3_42 => skip
  refine' (have s3_41 : Hid (_ : Prop) := ?ns3_41; ?ms3_41)
  case' ms3_41 => skip
  refine' (have s3_40 : Hid (_ : Prop) := ?ns3_40; ?ms3_40)
  case' ms3_40 => skip
  refine' (have s3_39 : Hid (_ : Prop) := ?ns3_39; ?ms3_39)
  case' ms3_39 => skip
  refine' (have s3_38 : Hid (_ : Prop) := ?ns3_38; ?ms3_38)
  case' ms3_38 => skip
  refine' (have s3_37 : Hid (_ : Prop) := ?ns3_37; ?ms3_37)
  case' ms3_37 => skip
  refine' (have s3_36 : Hid (_ : Prop) := ?ns3_36; ?ms3_36)
  case' ms3_36 => skip
  refine' (have s3_35 : Hid (_ : Prop) := ?ns3_35; ?ms3_35)
  case' ms3_35 => skip
  refine' (have s3_34 : Hid (_ : Prop) := ?ns3_34; ?ms3_34)
  case' ms3_34 => skip
  refine' (have s3_33 : Hid (_ : Prop) := ?ns3_33; ?ms3_33)
  case' ms3_33 => skip
  refine' (have s3_32 : Hid (_ : Prop) := ?ns3_32; ?ms3_32)
  case' ms3_32 => skip
  refine' (have s3_31 : Hid (_ : Prop) := ?ns3_31; ?ms3_31)
  case' ms3_31 => skip
  refine' (have s3_30 : Hid (_ : Prop) := ?ns3_30; ?ms3_30)
  case' ms3_30 => skip
  refine' (have s3_29 : Hid (_ : Prop) := ?ns3_29; ?ms3_29)
  case' ms3_29 => skip
  refine' (have s3_28 : Hid (_ : Prop) := ?ns3_28; ?ms3_28)
  case' ms3_28 => skip
  refine' (have s3_27 : Hid (_ : Prop) := ?ns3_27; ?ms3_27)
  case' ms3_27 => skip
  refine' (have s3_26 : Hid (_ : Prop) := ?ns3_26; ?ms3_26)
  case' ms3_26 => skip
  refine' (have s3_25 : Hid (_ : Prop) := ?ns3_25; ?ms3_25)
  case' ms3_25 => skip
  refine' (have s3_24 : Hid (_ : Prop) := ?ns3_24; ?ms3_24)
  case' ms3_24 => skip
  refine' (have s3_23 : Hid (_ : Prop) := ?ns3_23; ?ms3_23)
  case' ms3_23 => skip
  refine' (have s3_22 : Hid (_ : Prop) := ?ns3_22; ?ms3_22)
  case' ms3_22 => skip
  refine' (have s3_21 : Hid (_ : Prop) := ?ns3_21; ?ms3_21)
  case' ms3_21 => skip
  refine' (have s3_20 : Hid (_ : Prop) := ?ns3_20; ?ms3_20)
  case' ms3_20 => skip
  refine' (have s3_19 : Hid (_ : Prop) := ?ns3_19; ?ms3_19)
  case' ms3_19 => skip
  refine' (have s3_18 : Hid (_ : Prop) := ?ns3_18; ?ms3_18)
  case' ms3_18 => skip
  refine' (have s3_17 : Hid (_ : Prop) := ?ns3_17; ?ms3_17)
  case' ms3_17 => skip
  refine' (have s3_16 : Hid (_ : Prop) := ?ns3_16; ?ms3_16)
  case' ms3_16 => skip
  refine' (have s3_15 : Hid (_ : Prop) := ?ns3_15; ?ms3_15)
  case' ms3_15 => skip
  refine' (have s3_14 : Hid (_ : Prop) := ?ns3_14; ?ms3_14)
  case' ms3_14 => skip
  refine' (have s3_13 : Hid (_ : Prop) := ?ns3_13; ?ms3_13)
  case' ms3_13 => skip
  refine' (have s3_12 : Hid (_ : Prop) := ?ns3_12; ?ms3_12)
  case' ms3_12 => skip
  refine' (have s3_11 : Hid (_ : Prop) := ?ns3_11; ?ms3_11)
  case' ms3_11 => skip
  refine' (have s3_10 : Hid (_ : Prop) := ?ns3_10; ?ms3_10)
  case' ms3_10 => skip
  refine' (have s3_9 : Hid (_ : Prop) := ?ns3_9; ?ms3_9)
  case' ms3_9 => skip
  refine' (have s3_8 : Hid (_ : Prop) := ?ns3_8; ?ms3_8)
  case' ms3_8 => skip
  refine' (have s3_7 : Hid (_ : Prop) := ?ns3_7; ?ms3_7)
  case' ms3_7 => skip
  refine' (have s3_6 : Hid (_ : Prop) := ?ns3_6; ?ms3_6)
  case' ms3_6 => skip
  refine' (have s3_5 : Hid (_ : Prop) := ?ns3_5; ?ms3_5)
  case' ms3_5 => skip
  refine' (have s3_4 : Hid (_ : Prop) := ?ns3_4; ?ms3_4)
  case' ms3_4 => skip
  refine' (have s3_3 : Hid (_ : Prop) := ?ns3_3; ?ms3_3)
  case' ms3_3 => skip
  refine' (have s3_2 : Hid (_ : Prop) := ?ns3_2; ?ms3_2)
  case' ms3_2 => skip
  refine' (have s3_1 : Hid (_ : Prop) := ?ns3_1; ?ms3_1)
  case' ms3_1 => skip
  refine' (have s3_0 : Hid (_ : Prop) := ?ns3_0; ?ms3_0)
  case' ms3_0 => skip
  refine vR [] fun w3 kz3 S => ?_
  refine vT 0 S ?_
  refine vT 1 S ?_ (hy := by intro wq hb; have q := (hb.hb X0 (by simp)).o; go_simp; try (with_reducible rfl))
  refine vT 2 S ?_ (hy := by intro wq hb; have q := (hb.hb X1 (by simp)).o; go_simp; try (with_reducible rfl))
  refine vT 4 S ?_
  refine vT 5 S ?_ (hy := by intro wq hb; have q := (hb.hb X0 (by simp)).o; go_simp; try (with_reducible rfl))
  refine vT 6 S ?_
  refine vT 7 S ?_ (hy := by intro wq hb; have q := (hb.hb X1 (by simp)).o; go_simp; try (with_reducible rfl))
  refine vT 10 S ?_
  refine vT 11 S ?_
  refine vT 12 S ?_ (hy := by intro wq hb; have q := (hb.hb X0 (by simp)).o; go_simp; try (with_reducible rfl))
  refine vT 14 S ?_ (hy := by intro wq hb; have q := (hb.hb X1 (by simp)).o; go_simp; try (with_reducible rfl))
  refine vY4 (cC 3 S (h2.out _ (ft.later (bC (bC (bC (bA (bA bR _) _) b1) (bC (bA bR _) b2)) kz3))) fun w4 b4 => ?_) (cA 16 S fun w5 pp2_0 h X3 b5 => ?_) (cA 17 S fun w6 pp2_1 h X4 b6 => ?_) (cA 18 S fun w7 pp2_2 h X5 b7 => ?_)
  replace kz3 := bC kz3 b4
  clear S b4 w3
  revert kz3; revert w4
  exact s3_0.out
  have jX3 := (lZ kz3.size h); replace kz3 := bC kz3 b5
  clear S b5 h w3
  revert kz3; revert jX3; revert X3; revert pp2_0; revert w5
  exact s3_1.out
  have jX4 := (lZ kz3.size h); replace kz3 := bC kz3 b6
  clear S b6 h w3
  revert kz3; revert jX4; revert X4; revert pp2_1; revert w6
  exact s3_2.out
  have jX5 := (lZ kz3.size h); replace kz3 := bC kz3 b7
  clear S b7 h w3
  revert kz3; revert jX5; revert X5; revert pp2_2; revert w7
  exact s3_3.out
  case' ns3_0 => refine lH ?_
  intro w8 kz3
  have S := Off.ofB kz3
  refine vY4 (cC 8 S (h3.out _ (ft.later (bC (bC (bC (bA (bA bR _) _) b1) (bC (bA bR _) b2)) kz3))) fun w9 b9 => ?_) (cA 16 S fun w10 pp2_0 h X3 b10 => ?_) (cA 17 S fun w11 pp2_1 h X4 b11 => ?_) (cA 18 S fun w12 pp2_2 h X5 b12 => ?_)
  replace kz3 := bC kz3 b9
  clear S b9 w8
  revert kz3; revert w9
  exact s3_4.out
  have jX3 := (lZ kz3.size h); replace kz3 := bC kz3 b10
  clear S b10 h w8
  revert kz3; revert jX3; revert X3; revert pp2_0; revert w10
  exact s3_5.out
  have jX4 := (lZ kz3.size h); replace kz3 := bC kz3 b11
  clear S b11 h w8
  revert kz3; revert jX4; revert X4; revert pp2_1; revert w11
  exact s3_6.out
  have jX5 := (lZ kz3.size h); replace kz3 := bC kz3 b12
  clear S b12 h w8
  revert kz3; revert jX5; revert X5; revert pp2_2; revert w12
  exact s3_7.out
  case' ns3_1 => refine lH ?_
  intro w13 pp2_0 X3 jX3 kz3
  have S := Off.ofB kz3
  refine vY3 (cC 3 S (h2.out _ (ft.later (bC (bC (bC (bA (bA bR _) _) b1) (bC (bA bR _) b2)) kz3))) fun w14 b14 => s3_5.out w14 pp2_0 (X3.later b14) jX3 (bC kz3 b14)) (cA 17 S fun w15 pp2_1 h X4 b15 => ?_) (cA 18 S fun w16 pp2_2 h X5 b16 => ?_)
  have ndX3_X4 : ¬ (pp2_0 = pp2_1) := (Nat.ne_of_lt (lY X3.lt h)); have jX4 := (lZ kz3.size h); replace X3 := (X3.later b15); replace kz3 := bC kz3 b15
  clear S b15 h w13
  revert kz3; revert ndX3_X4; revert jX4; revert jX3; revert X4; revert X3; revert pp2_1; revert pp2_0; revert w15
  exact s3_8.out
  have ndX3_X5 : ¬ (pp2_0 = pp2_2) := (Nat.ne_of_lt (lY X3.lt h)); have jX5 := (lZ kz3.size h); replace X3 := (X3.later b16); replace kz3 := bC kz3 b16
  clear S b16 h w13
  revert kz3; revert ndX3_X5; revert jX5; revert jX3; revert X5; revert X3; revert pp2_2; revert pp2_0; revert w16
  exact s3_9.out
  case' ns3_2 => refine lH ?_
  intro w17 pp2_1 X4 jX4 kz3
  have S := Off.ofB kz3
  refine vY3 (cC 3 S (h2.out _ (ft.later (bC (bC (bC (bA (bA bR _) _) b1) (bC (bA bR _) b2)) kz3))) fun w18 b18 => s3_6.out w18 pp2_1 (X4.later b18) jX4 (bC kz3 b18)) (cA 16 S fun w19 pp2_0 h X3 b19 => s3_8.out w19 pp2_0 pp2_1 X3 (X4.later b19) (lZ kz3.size h) jX4 (Nat.ne_of_gt (lY X4.lt h)) (bC kz3 b19)) (cA 18 S fun w20 pp2_2 h X5 b20 => ?_)
  have ndX4_X5 : ¬ (pp2_1 = pp2_2) := (Nat.ne_of_lt (lY X4.lt h)); have jX5 := (lZ kz3.size h); replace X4 := (X4.later b20); replace kz3 := bC kz3 b20
  clear S b20 h w17
  revert kz3; revert ndX4_X5; revert jX5; revert jX4; revert X5; revert X4; revert pp2_2; revert pp2_1; revert w20
  exact s3_10.out
  case' ns3_3 => refine lH ?_
  intro w21 pp2_2 X5 jX5 kz3
  have S := Off.ofB kz3
  refine vY3 (cC 3 S (h2.out _ (ft.later (bC (bC (bC (bA (bA bR _) _) b1) (bC (bA bR _) b2)) kz3))) fun w22 b22 => s3_7.out w22 pp2_2 (X5.later b22) jX5 (bC kz3 b22)) (cA 16 S fun w23 pp2_0 h X3 b23 => s3_9.out w23 pp2_0 pp2_2 X3 (X5.later b23) (lZ kz3.size h) jX5 (Nat.ne_of_gt (lY X5.lt h)) (bC kz3 b23)) (cA 17 S fun w24 pp2_1 h X4 b24 => s3_10.out w24 pp2_1 pp2_2 X4 (X5.later b24) (lZ kz3.size h) jX5 (Nat.ne_of_gt (lY X5.lt h)) (bC kz3 b24))
  case' ns3_4 => refine lH ?_
  intro w25 kz3
  have S := Off.ofB kz3
  refine vY4 (cC 9 S (h4.out _ (ft.later (bC (bC (bC (bA (bA bR _) _) b1) (bC (bA bR _) b2)) kz3))) fun w26 b26 => ?_) (cA 16 S fun w27 pp2_0 h X3 b27 => ?_) (cA 17 S fun w28 pp2_1 h X4 b28 => ?_) (cA 18 S fun w29 pp2_2 h X5 b29 => ?_)
  replace kz3 := bC kz3 b26
  clear S b26 w25
  revert kz3; revert w26
  exact s3_11.out
  have jX3 := (lZ kz3.size h); replace kz3 := bC kz3 b27
  clear S b27 h w25
  revert kz3; revert jX3; revert X3; revert pp2_0; revert w27
  exact s3_12.out
  have jX4 := (lZ kz3.size h); replace kz3 := bC kz3 b28
  clear S b28 h w25
  revert kz3; revert jX4; revert X4; revert pp2_1; revert w28
  exact s3_13.out
  have jX5 := (lZ kz3.size h); replace kz3 := bC kz3 b29
  clear S b29 h w25
  revert kz3; revert jX5; revert X5; revert pp2_2; revert w29
  exact s3_14.out
  case' ns3_5 => refine lH ?_
  intro w30 pp2_0 X3 jX3 kz3
  have S := Off.ofB kz3
  refine vY3 (cC 8 S (h3.out _ (ft.later (bC (bC (bC (bA (bA bR _) _) b1) (bC (bA bR _) b2)) kz3))) fun w31 b31 => s3_12.out w31 pp2_0 (X3.later b31) jX3 (bC kz3 b31)) (cA 17 S fun w32 pp2_1 h X4 b32 => ?_) (cA 18 S fun w33 pp2_2 h X5 b33 => ?_)
  have ndX3_X4 : ¬ (pp2_0 = pp2_1) := (Nat.ne_of_lt (lY X3.lt h)); have jX4 := (lZ kz3.size h); replace X3 := (X3.later b32); replace kz3 := bC kz3 b32
  clear S b32 h w30
  revert kz3; revert ndX3_X4; revert jX4; revert jX3; revert X4; revert X3; revert pp2_1; revert pp2_0; revert w32
  exact s3_15.out
  have ndX3_X5 : ¬ (pp2_0 = pp2_2) := (Nat.ne_of_lt (lY X3.lt h)); have jX5 := (lZ kz3.size h); replace X3 := (X3.later b33); replace kz3 := bC kz3 b33
  clear S b33 h w30
  revert kz3; revert ndX3_X5; revert jX5; revert jX3; revert X5; revert X3; revert pp2_2; revert pp2_0; revert w33
  exact s3_16.out
  case' ns3_6 => refine lH ?_
  intro w34 pp2_1 X4 jX4 kz3
  have S := Off.ofB kz3
  refine vY3 (cC 8 S (h3.out _ (ft.later (bC (bC (bC (bA (bA bR _) _) b1) (bC (bA bR _) b2)) kz3))) fun w35 b35 => s3_13.out w35 pp2_1 (X4.later b35) jX4 (bC kz3 b35)) (cA 16 S fun w36 pp2_0 h X3 b36 => s3_15.out w36 pp2_0 pp2_1 X3 (X4.later b36) (lZ kz3.size h) jX4 (Nat.ne_of_gt (lY X4.lt h)) (bC kz3 b36)) (cA 18 S fun w37 pp2_2 h X5 b37 => ?_)
  have ndX4_X5 : ¬ (pp2_1 = pp2_2) := (Nat.ne_of_lt (lY X4.lt h)); have jX5 := (lZ kz3.size h); replace X4 := (X4.later b37); replace kz3 := bC kz3 b37
  clear S b37 h w34
  revert kz3; revert ndX4_X5; revert jX5; revert jX4; revert X5; revert X4; revert pp2_2; revert pp2_1; revert w37
  exact s3_17.out
  case' ns3_7 => refine lH ?_
  intro w38 pp2_2 X5 jX5 kz3
  have S := Off.ofB kz3
  refine vY3 (cC 8 S (h3.out _ (ft.later (bC (bC (bC (bA (bA bR _) _) b1) (bC (bA bR _) b2)) kz3))) fun w39 b39 => s3_14.out w39 pp2_2 (X5.later b39) jX5 (bC kz3 b39)) (cA 16 S fun w40 pp2_0 h X3 b40 => s3_16.out w40 pp2_0 pp2_2 X3 (X5.later b40) (lZ kz3.size h) jX5 (Nat.ne_of_gt (lY X5.lt h)) (bC kz3 b40)) (cA 17 S fun w41 pp2_1 h X4 b41 => s3_17.out w41 pp2_1 pp2_2 X4 (X5.later b41) (lZ kz3.size h) jX5 (Nat.ne_of_gt (lY X5.lt h)) (bC kz3 b41))
  case' ns3_8 => refine lH ?_
  intro w42 pp2_0 pp2_1 X3 X4 jX3 jX4 ndX3_X4 kz3
  have S := Off.ofB kz3
  refine vY2 (cC 3 S (h2.out _ (ft.later (bC (bC (bC (bA (bA bR _) _) b1) (bC (bA bR _) b2)) kz3))) fun w43 b43 => s3_15.out w43 pp2_0 pp2_1 (X3.later b43) (X4.later b43) jX3 jX4 ndX3_X4 (bC kz3 b43)) (cA 18 S fun w44 pp2_2 h X5 b44 => ?_)
  have ndX3_X5 : ¬ (pp2_0 = pp2_2) := (Nat.ne_of_lt (lY X3.lt h)); have ndX4_X5 : ¬ (pp2_1 = pp2_2) := (Nat.ne_of_lt (lY X4.lt h)); have jX5 := (lZ kz3.size h); replace X3 := (X3.later b44); replace X4 := (X4.later b44); replace kz3 := bC kz3 b44
  clear S b44 h w42
  revert kz3; revert ndX4_X5; revert ndX3_X5; revert ndX3_X4; revert jX5; revert jX4; revert jX3; revert X5; revert X4; revert X3; revert pp2_2; revert pp2_1; revert pp2_0; revert w44
  exact s3_18.out
  case' ns3_9 => refine lH ?_
  intro w45 pp2_0 pp2_2 X3 X5 jX3 jX5 ndX3_X5 kz3
  have S := Off.ofB kz3
  refine vY2 (cC 3 S (h2.out _ (ft.later (bC (bC (bC (bA (bA bR _) _) b1) (bC (bA bR _) b2)) kz3))) fun w46 b46 => s3_16.out w46 pp2_0 pp2_2 (X3.later b46) (X5.later b46) jX3 jX5 ndX3_X5 (bC kz3 b46)) (cA 17 S fun w47 pp2_1 h X4 b47 => s3_18.out w47 pp2_0 pp2_1 pp2_2 (X3.later b47) X4 (X5.later b47) jX3 (lZ kz3.size h) jX5 (Nat.ne_of_lt (lY X3.lt h)) ndX3_X5 (Nat.ne_of_gt (lY X5.lt h)) (bC kz3 b47))
  case' ns3_10 => refine lH ?_
  intro w48 pp2_1 pp2_2 X4 X5 jX4 jX5 ndX4_X5 kz3
  have S := Off.ofB kz3
  refine vY2 (cC 3 S (h2.out _ (ft.later (bC (bC (bC (bA (bA bR _) _) b1) (bC (bA bR _) b2)) kz3))) fun w49 b49 => s3_17.out w49 pp2_1 pp2_2 (X4.later b49) (X5.later b49) jX4 jX5 ndX4_X5 (bC kz3 b49)) (cA 16 S fun w50 pp2_0 h X3 b50 => s3_18.out w50 pp2_0 pp2_1 pp2_2 X3 (X4.later b50) (X5.later b50) (lZ kz3.size h) jX4 jX5 (Nat.ne_of_gt (lY X4.lt h)) (Nat.ne_of_gt (lY X5.lt h)) ndX4_X5 (bC kz3 b50))
  case' ns3_11 => refine lH ?_
  intro w51 kz3
  have S := Off.ofB kz3
  refine vY4 (cC 13 S (h5.out _ (ft.later (bC (bC (bC (bA (bA bR _) _) b1) (bC (bA bR _) b2)) kz3))) fun w52 b52 => ?_) (cA 16 S fun w53 pp2_0 h X3 b53 => ?_) (cA 17 S fun w54 pp2_1 h X4 b54 => ?_) (cA 18 S fun w55 pp2_2 h X5 b55 => ?_)
  replace kz3 := bC kz3 b52
  clear S b52 w51
  revert kz3; revert w52
  exact s3_19.out
  have jX3 := (lZ kz3.size h); replace kz3 := bC kz3 b53
  clear S b53 h w51
  revert kz3; revert jX3; revert X3; revert pp2_0; revert w53
  exact s3_20.out
  have jX4 := (lZ kz3.size h); replace kz3 := bC kz3 b54
  clear S b54 h w51
  revert kz3; revert jX4; revert X4; revert pp2_1; revert w54
  exact s3_21.out
  have jX5 := (lZ kz3.size h); replace kz3 := bC kz3 b55
  clear S b55 h w51
  revert kz3; revert jX5; revert X5; revert pp2_2; revert w55
  exact s3_22.out
  case' ns3_12 => refine lH ?_
  intro w56 pp2_0 X3 jX3 kz3
  have S := Off.ofB kz3
  refine vY3 (cC 9 S (h4.out _ (ft.later (bC (bC (bC (bA (bA bR _) _) b1) (bC (bA bR _) b2)) kz3))) fun w57 b57 => s3_20.out w57 pp2_0 (X3.later b57) jX3 (bC kz3 b57)) (cA 17 S fun w58 pp2_1 h X4 b58 => ?_) (cA 18 S fun w59 pp2_2 h X5 b59 => ?_)
  have ndX3_X4 : ¬ (pp2_0 = pp2_1) := (Nat.ne_of_lt (lY X3.lt h)); have jX4 := (lZ kz3.size h); replace X3 := (X3.later b58); replace kz3 := bC kz3 b58
  clear S b58 h w56
  revert kz3; revert ndX3_X4; revert jX4; revert jX3; revert X4; revert X3; revert pp2_1; revert pp2_0; revert w58
  exact s3_23.out
  have ndX3_X5 : ¬ (pp2_0 = pp2_2) := (Nat.ne_of_lt (lY X3.lt h)); have jX5 := (lZ kz3.size h); replace X3 := (X3.later b59); replace kz3 := bC kz3 b59
  clear S b59 h w56
  revert kz3; revert ndX3_X5; revert jX5; revert jX3; revert X5; revert X3; revert pp2_2; revert pp2_0; revert w59
  exact s3_24.out
  case' ns3_13 => refine lH ?_
  intro w60 pp2_1 X4 jX4 kz3
  have S := Off.ofB kz3
  refine vY3 (cC 9 S (h4.out _ (ft.later (bC (bC (bC (bA (bA bR _) _) b1) (bC (bA bR _) b2)) kz3))) fun w61 b61 => s3_21.out w61 pp2_1 (X4.later b61) jX4 (bC kz3 b61)) (cA 16 S fun w62 pp2_0 h X3 b62 => s3_23.out w62 pp2_0 pp2_1 X3 (X4.later b62) (lZ kz3.size h) jX4 (Nat.ne_of_gt (lY X4.lt h)) (bC kz3 b62)) (cA 18 S fun w63 pp2_2 h X5 b63 => ?_)
  have ndX4_X5 : ¬ (pp2_1 = pp2_2) := (Nat.ne_of_lt (lY X4.lt h)); have jX5 := (lZ kz3.size h); replace X4 := (X4.later b63); replace kz3 := bC kz3 b63
  clear S b63 h w60
  revert kz3; revert ndX4_X5; revert jX5; revert jX4; revert X5; revert X4; revert pp2_2; revert pp2_1; revert w63
  exact s3_25.out
  case' ns3_14 => refine lH ?_
  intro w64 pp2_2 X5 jX5 kz3
  have S := Off.ofB kz3
  refine vY3 (cC 9 S (h4.out _ (ft.later (bC (bC (bC (bA (bA bR _) _) b1) (bC (bA bR _) b2)) kz3))) fun w65 b65 => s3_22.out w65 pp2_2 (X5.later b65) jX5 (bC kz3 b65)) (cA 16 S fun w66 pp2_0 h X3 b66 => s3_24.out w66 pp2_0 pp2_2 X3 (X5.later b66) (lZ kz3.size h) jX5 (Nat.ne_of_gt (lY X5.lt h)) (bC kz3 b66)) (cA 17 S fun w67 pp2_1 h X4 b67 => s3_25.out w67 pp2_1 pp2_2 X4 (X5.later b67) (lZ kz3.size h) jX5 (Nat.ne_of_gt (lY X5.lt h)) (bC kz3 b67))
  case' ns3_15 => refine lH ?_
  intro w68 pp2_0 pp2_1 X3 X4 jX3 jX4 ndX3_X4 kz3
  have S := Off.ofB kz3
  refine vY2 (cC 8 S (h3.out _ (ft.later (bC (bC (bC (bA (bA bR _) _) b1) (bC (bA bR _) b2)) kz3))) fun w69 b69 => s3_23.out w69 pp2_0 pp2_1 (X3.later b69) (X4.later b69) jX3 jX4 ndX3_X4 (bC kz3 b69)) (cA 18 S fun w70 pp2_2 h X5 b70 => ?_)
  have ndX3_X5 : ¬ (pp2_0 = pp2_2) := (Nat.ne_of_lt (lY X3.lt h)); have ndX4_X5 : ¬ (pp2_1 = pp2_2) := (Nat.ne_of_lt (lY X4.lt h)); have jX5 := (lZ kz3.size h); replace X3 := (X3.later b70); replace X4 := (X4.later b70); replace kz3 := bC kz3 b70
  clear S b70 h w68
  revert kz3; revert ndX4_X5; revert ndX3_X5; revert ndX3_X4; revert jX5; revert jX4; revert jX3; revert X5; revert X4; revert X3; revert pp2_2; revert pp2_1; revert pp2_0; revert w70
  exact s3_26.out
  case' ns3_16 => refine lH ?_
  intro w71 pp2_0 pp2_2 X3 X5 jX3 jX5 ndX3_X5 kz3
  have S := Off.ofB kz3
  refine vY2 (cC 8 S (h3.out _ (ft.later (bC (bC (bC (bA (bA bR _) _) b1) (bC (bA bR _) b2)) kz3))) fun w72 b72 => s3_24.out w72 pp2_0 pp2_2 (X3.later b72) (X5.later b72) jX3 jX5 ndX3_X5 (bC kz3 b72)) (cA 17 S fun w73 pp2_1 h X4 b73 => s3_26.out w73 pp2_0 pp2_1 pp2_2 (X3.later b73) X4 (X5.later b73) jX3 (lZ kz3.size h) jX5 (Nat.ne_of_lt (lY X3.lt h)) ndX3_X5 (Nat.ne_of_gt (lY X5.lt h)) (bC kz3 b73))
  case' ns3_17 => refine lH ?_
  intro w74 pp2_1 pp2_2 X4 X5 jX4 jX5 ndX4_X5 kz3
  have S := Off.ofB kz3
  refine vY2 (cC 8 S (h3.out _ (ft.later (bC (bC (bC (bA (bA bR _) _) b1) (bC (bA bR _) b2)) kz3))) fun w75 b75 => s3_25.out w75 pp2_1 pp2_2 (X4.later b75) (X5.later b75) jX4 jX5 ndX4_X5 (bC kz3 b75)) (cA 16 S fun w76 pp2_0 h X3 b76 => s3_26.out w76 pp2_0 pp2_1 pp2_2 X3 (X4.later b76) (X5.later b76) (lZ kz3.size h) jX4 jX5 (Nat.ne_of_gt (lY X4.lt h)) (Nat.ne_of_gt (lY X5.lt h)) ndX4_X5 (bC kz3 b76))
  case' ns3_18 => refine lH ?_
  intro w77 pp2_0 pp2_1 pp2_2 X3 X4 X5 jX3 jX4 jX5 ndX3_X4 ndX3_X5 ndX4_X5 kz3
  have S := Off.ofB kz3
  refine vY1 (cC 3 S (h2.out _ (ft.later (bC (bC (bC (bA (bA bR _) _) b1) (bC (bA bR _) b2)) kz3))) fun w78 b78 => s3_26.out w78 pp2_0 pp2_1 pp2_2 (X3.later b78) (X4.later b78) (X5.later b78) jX3 jX4 jX5 ndX3_X4 ndX3_X5 ndX4_X5 (bC kz3 b78))
  case' ns3_19 => refine lH ?_
  intro w79 kz3
  have S := Off.ofB kz3
  refine vY4 (cC 15 S (h6.out _ (ft.later (bC (bC (bC (bA (bA bR _) _) b1) (bC (bA bR _) b2)) kz3))) fun w80 b80 => ?_) (cA 16 S fun w81 pp2_0 h X3 b81 => ?_) (cA 17 S fun w82 pp2_1 h X4 b82 => ?_) (cA 18 S fun w83 pp2_2 h X5 b83 => ?_)
  replace kz3 := bC kz3 b80
  clear S b80 w79
  revert kz3; revert w80
  exact s3_27.out
  have jX3 := (lZ kz3.size h); replace kz3 := bC kz3 b81
  clear S b81 h w79
  revert kz3; revert jX3; revert X3; revert pp2_0; revert w81
  exact s3_28.out
  have jX4 := (lZ kz3.size h); replace kz3 := bC kz3 b82
  clear S b82 h w79
  revert kz3; revert jX4; revert X4; revert pp2_1; revert w82
  exact s3_29.out
  have jX5 := (lZ kz3.size h); replace kz3 := bC kz3 b83
  clear S b83 h w79
  revert kz3; revert jX5; revert X5; revert pp2_2; revert w83
  exact s3_30.out
  case' ns3_20 => refine lH ?_
  intro w84 pp2_0 X3 jX3 kz3
  have S := Off.ofB kz3
  refine vY3 (cC 13 S (h5.out _ (ft.later (bC (bC (bC (bA (bA bR _) _) b1) (bC (bA bR _) b2)) kz3))) fun w85 b85 => s3_28.out w85 pp2_0 (X3.later b85) jX3 (bC kz3 b85)) (cA 17 S fun w86 pp2_1 h X4 b86 => ?_) (cA 18 S fun w87 pp2_2 h X5 b87 => ?_)
  have ndX3_X4 : ¬ (pp2_0 = pp2_1) := (Nat.ne_of_lt (lY X3.lt h)); have jX4 := (lZ kz3.size h); replace X3 := (X3.later b86); replace kz3 := bC kz3 b86
  clear S b86 h w84
  revert kz3; revert ndX3_X4; revert jX4; revert jX3; revert X4; revert X3; revert pp2_1; revert pp2_0; revert w86
  exact s3_31.out
  have ndX3_X5 : ¬ (pp2_0 = pp2_2) := (Nat.ne_of_lt (lY X3.lt h)); have jX5 := (lZ kz3.size h); replace X3 := (X3.later b87); replace kz3 := bC kz3 b87
  clear S b87 h w84
  revert kz3; revert ndX3_X5; revert jX5; revert jX3; revert X5; revert X3; revert pp2_2; revert pp2_0; revert w87
  exact s3_32.out
  case' ns3_21 => refine lH ?_
  intro w88 pp2_1 X4 jX4 kz3
  have S := Off.ofB kz3
  refine vY3 (cC 13 S (h5.out _ (ft.later (bC (bC (bC (bA (bA bR _) _) b1) (bC (bA bR _) b2)) kz3))) fun w89 b89 => s3_29.out w89 pp2_1 (X4.later b89) jX4 (bC kz3 b89)) (cA 16 S fun w90 pp2_0 h X3 b90 => s3_31.out w90 pp2_0 pp2_1 X3 (X4.later b90) (lZ kz3.size h) jX4 (Nat.ne_of_gt (lY X4.lt h)) (bC kz3 b90)) (cA 18 S fun w91 pp2_2 h X5 b91 => ?_)
  have ndX4_X5 : ¬ (pp2_1 = pp2_2) := (Nat.ne_of_lt (lY X4.lt h)); have jX5 := (lZ kz3.size h); replace X4 := (X4.later b91); replace kz3 := bC kz3 b91
  clear S b91 h w88
  revert kz3; revert ndX4_X5; revert jX5; revert jX4; revert X5; revert X4; revert pp2_2; revert pp2_1; revert w91
  exact s3_33.out
  case' ns3_22 => refine lH ?_
  intro w92 pp2_2 X5 jX5 kz3
  have S := Off.ofB kz3
  refine vY3 (cC 13 S (h5.out _ (ft.later (bC (bC (bC (bA (bA bR _) _) b1) (bC (bA bR _) b2)) kz3))) fun w93 b93 => s3_30.out w93 pp2_2 (X5.later b93) jX5 (bC kz3 b93)) (cA 16 S fun w94 pp2_0 h X3 b94 => s3_32.out w94 pp2_0 pp2_2 X3 (X5.later b94) (lZ kz3.size h) jX5 (Nat.ne_of_gt (lY X5.lt h)) (bC kz3 b94)) (cA 17 S fun w95 pp2_1 h X4 b95 => s3_33.out w95 pp2_1 pp2_2 X4 (X5.later b95) (lZ kz3.size h) jX5 (Nat.ne_of_gt (lY X5.lt h)) (bC kz3 b95))
  case' ns3_23 => refine lH ?_
  intro w96 pp2_0 pp2_1 X3 X4 jX3 jX4 ndX3_X4 kz3
  have S := Off.ofB kz3
  refine vY2 (cC 9 S (h4.out _ (ft.later (bC (bC (bC (bA (bA bR _) _) b1) (bC (bA bR _) b2)) kz3))) fun w97 b97 => s3_31.out w97 pp2_0 pp2_1 (X3.later b97) (X4.later b97) jX3 jX4 ndX3_X4 (bC kz3 b97)) (cA 18 S fun w98 pp2_2 h X5 b98 => ?_)
  have ndX3_X5 : ¬ (pp2_0 = pp2_2) := (Nat.ne_of_lt (lY X3.lt h)); have ndX4_X5 : ¬ (pp2_1 = pp2_2) := (Nat.ne_of_lt (lY X4.lt h)); have jX5 := (lZ kz3.size h); replace X3 := (X3.later b98); replace X4 := (X4.later b98); replace kz3 := bC kz3 b98
  clear S b98 h w96
  revert kz3; revert ndX4_X5; revert ndX3_X5; revert ndX3_X4; revert jX5; revert jX4; revert jX3; revert X5; revert X4; revert X3; revert pp2_2; revert pp2_1; revert pp2_0; revert w98
  exact s3_34.out
  case' ns3_24 => refine lH ?_
  intro w99 pp2_0 pp2_2 X3 X5 jX3 jX5 ndX3_X5 kz3
  have S := Off.ofB kz3
  refine vY2 (cC 9 S (h4.out _ (ft.later (bC (bC (bC (bA (bA bR _) _) b1) (bC (bA bR _) b2)) kz3))) fun w100 b100 => s3_32.out w100 pp2_0 pp2_2 (X3.later b100) (X5.later b100) jX3 jX5 ndX3_X5 (bC kz3 b100)) (cA 17 S fun w101 pp2_1 h X4 b101 => s3_34.out w101 pp2_0 pp2_1 pp2_2 (X3.later b101) X4 (X5.later b101) jX3 (lZ kz3.size h) jX5 (Nat.ne_of_lt (lY X3.lt h)) ndX3_X5 (Nat.ne_of_gt (lY X5.lt h)) (bC kz3 b101))
  case' ns3_25 => refine lH ?_
  intro w102 pp2_1 pp2_2 X4 X5 jX4 jX5 ndX4_X5 kz3
  have S := Off.ofB kz3
  refine vY2 (cC 9 S (h4.out _ (ft.later (bC (bC (bC (bA (bA bR _) _) b1) (bC (bA bR _) b2)) kz3))) fun w103 b103 => s3_33.out w103 pp2_1 pp2_2 (X4.later b103) (X5.later b103) jX4 jX5 ndX4_X5 (bC kz3 b103)) (cA 16 S fun w104 pp2_0 h X3 b104 => s3_34.out w104 pp2_0 pp2_1 pp2_2 X3 (X4.later b104) (X5.later b104) (lZ kz3.size h) jX4 jX5 (Nat.ne_of_gt (lY X4.lt h)) (Nat.ne_of_gt (lY X5.lt h)) ndX4_X5 (bC kz3 b104))
  case' ns3_26 => refine lH ?_
  intro w105 pp2_0 pp2_1 pp2_2 X3 X4 X5 jX3 jX4 jX5 ndX3_X4 ndX3_X5 ndX4_X5 kz3
  have S := Off.ofB kz3
  refine vY1 (cC 8 S (h3.out _ (ft.later (bC (bC (bC (bA (bA bR _) _) b1) (bC (bA bR _) b2)) kz3))) fun w106 b106 => s3_34.out w106 pp2_0 pp2_1 pp2_2 (X3.later b106) (X4.later b106) (X5.later b106) jX3 jX4 jX5 ndX3_X4 ndX3_X5 ndX4_X5 (bC kz3 b106))
  case' ns3_27 => refine lH ?_
  intro w107 kz3
  have S := Off.ofB kz3
  refine vY3 (cA 16 S fun w108 pp2_0 h X3 b108 => ?_) (cA 17 S fun w109 pp2_1 h X4 b109 => ?_) (cA 18 S fun w110 pp2_2 h X5 b110 => ?_)
  have jX3 := (lZ kz3.size h); replace kz3 := bC kz3 b108
  clear S b108 h w107
  revert kz3; revert jX3; revert X3; revert pp2_0; revert w108
  exact s3_35.out
  have jX4 := (lZ kz3.size h); replace kz3 := bC kz3 b109
  clear S b109 h w107
  revert kz3; revert jX4; revert X4; revert pp2_1; revert w109
  exact s3_36.out
  have jX5 := (lZ kz3.size h); replace kz3 := bC kz3 b110
  clear S b110 h w107
  revert kz3; revert jX5; revert X5; revert pp2_2; revert w110
  exact s3_37.out
  case' ns3_28 => refine lH ?_
  intro w111 pp2_0 X3 jX3 kz3
  have S := Off.ofB kz3
  refine vY3 (cC 15 S (h6.out _ (ft.later (bC (bC (bC (bA (bA bR _) _) b1) (bC (bA bR _) b2)) kz3))) fun w112 b112 => s3_35.out w112 pp2_0 (X3.later b112) jX3 (bC kz3 b112)) (cA 17 S fun w113 pp2_1 h X4 b113 => ?_) (cA 18 S fun w114 pp2_2 h X5 b114 => ?_)
  have ndX3_X4 : ¬ (pp2_0 = pp2_1) := (Nat.ne_of_lt (lY X3.lt h)); have jX4 := (lZ kz3.size h); replace X3 := (X3.later b113); replace kz3 := bC kz3 b113
  clear S b113 h w111
  revert kz3; revert ndX3_X4; revert jX4; revert jX3; revert X4; revert X3; revert pp2_1; revert pp2_0; revert w113
  exact s3_38.out
  have ndX3_X5 : ¬ (pp2_0 = pp2_2) := (Nat.ne_of_lt (lY X3.lt h)); have jX5 := (lZ kz3.size h); replace X3 := (X3.later b114); replace kz3 := bC kz3 b114
  clear S b114 h w111
  revert kz3; revert ndX3_X5; revert jX5; revert jX3; revert X5; revert X3; revert pp2_2; revert pp2_0; revert w114
  exact s3_39.out
  case' ns3_29 => refine lH ?_
  intro w115 pp2_1 X4 jX4 kz3
  have S := Off.ofB kz3
  refine vY3 (cC 15 S (h6.out _ (ft.later (bC (bC (bC (bA (bA bR _) _) b1) (bC (bA bR _) b2)) kz3))) fun w116 b116 => s3_36.out w116 pp2_1 (X4.later b116) jX4 (bC kz3 b116)) (cA 16 S fun w117 pp2_0 h X3 b117 => s3_38.out w117 pp2_0 pp2_1 X3 (X4.later b117) (lZ kz3.size h) jX4 (Nat.ne_of_gt (lY X4.lt h)) (bC kz3 b117)) (cA 18 S fun w118 pp2_2 h X5 b118 => ?_)
  have ndX4_X5 : ¬ (pp2_1 = pp2_2) := (Nat.ne_of_lt (lY X4.lt h)); have jX5 := (lZ kz3.size h); replace X4 := (X4.later b118); replace kz3 := bC kz3 b118
  clear S b118 h w115
  revert kz3; revert ndX4_X5; revert jX5; revert jX4; revert X5; revert X4; revert pp2_2; revert pp2_1; revert w118
  exact s3_40.out
  case' ns3_30 => refine lH ?_
  intro w119 pp2_2 X5 jX5 kz3
  have S := Off.ofB kz3
  refine vY3 (cC 15 S (h6.out _ (ft.later (bC (bC (bC (bA (bA bR _) _) b1) (bC (bA bR _) b2)) kz3))) fun w120 b120 => s3_37.out w120 pp2_2 (X5.later b120) jX5 (bC kz3 b120)) (cA 16 S fun w121 pp2_0 h X3 b121 => s3_39.out w121 pp2_0 pp2_2 X3 (X5.later b121) (lZ kz3.size h) jX5 (Nat.ne_of_gt (lY X5.lt h)) (bC kz3 b121)) (cA 17 S fun w122 pp2_1 h X4 b122 => s3_40.out w122 pp2_1 pp2_2 X4 (X5.later b122) (lZ kz3.size h) jX5 (Nat.ne_of_gt (lY X5.lt h)) (bC kz3 b122))
  case' ns3_31 => refine lH ?_
  intro w123 pp2_0 pp2_1 X3 X4 jX3 jX4 ndX3_X4 kz3
  have S := Off.ofB kz3
  refine vY2 (cC 13 S (h5.out _ (ft.later (bC (bC (bC (bA (bA bR _) _) b1) (bC (bA bR _) b2)) kz3))) fun w124 b124 => s3_38.out w124 pp2_0 pp2_1 (X3.later b124) (X4.later b124) jX3 jX4 ndX3_X4 (bC kz3 b124)) (cA 18 S fun w125 pp2_2 h X5 b125 => ?_)
  have ndX3_X5 : ¬ (pp2_0 = pp2_2) := (Nat.ne_of_lt (lY X3.lt h)); have ndX4_X5 : ¬ (pp2_1 = pp2_2) := (Nat.ne_of_lt (lY X4.lt h)); have jX5 := (lZ kz3.size h); replace X3 := (X3.later b125); replace X4 := (X4.later b125); replace kz3 := bC kz3 b125
  clear S b125 h w123
  revert kz3; revert ndX4_X5; revert ndX3_X5; revert ndX3_X4; revert jX5; revert jX4; revert jX3; revert X5; revert X4; revert X3; revert pp2_2; revert pp2_1; revert pp2_0; revert w125
  exact s3_41.out
  case' ns3_32 => refine lH ?_
  intro w126 pp2_0 pp2_2 X3 X5 jX3 jX5 ndX3_X5 kz3
  have S := Off.ofB kz3
  refine vY2 (cC 13 S (h5.out _ (ft.later (bC (bC (bC (bA (bA bR _) _) b1) (bC (bA bR _) b2)) kz3))) fun w127 b127 => s3_39.out w127 pp2_0 pp2_2 (X3.later b127) (X5.later b127) jX3 jX5 ndX3_X5 (bC kz3 b127)) (cA 17 S fun w128 pp2_1 h X4 b128 => s3_41.out w128 pp2_0 pp2_1 pp2_2 (X3.later b128) X4 (X5.later b128) jX3 (lZ kz3.size h) jX5 (Nat.ne_of_lt (lY X3.lt h)) ndX3_X5 (Nat.ne_of_gt (lY X5.lt h)) (bC kz3 b128))
  case' ns3_33 => refine lH ?_
  intro w129 pp2_1 pp2_2 X4 X5 jX4 jX5 ndX4_X5 kz3
  have S := Off.ofB kz3
  refine vY2 (cC 13 S (h5.out _ (ft.later (bC (bC (bC (bA (bA bR _) _) b1) (bC (bA bR _) b2)) kz3))) fun w130 b130 => s3_40.out w130 pp2_1 pp2_2 (X4.later b130) (X5.later b130) jX4 jX5 ndX4_X5 (bC kz3 b130)) (cA 16 S fun w131 pp2_0 h X3 b131 => s3_41.out w131 pp2_0 pp2_1 pp2_2 X3 (X4.later b131) (X5.later b131) (lZ kz3.size h) jX4 jX5 (Nat.ne_of_gt (lY X4.lt h)) (Nat.ne_of_gt (lY X5.lt h)) ndX4_X5 (bC kz3 b131))
  case' ns3_34 => refine lH ?_
  intro w132 pp2_0 pp2_1 pp2_2 X3 X4 X5 jX3 jX4 jX5 ndX3_X4 ndX3_X5 ndX4_X5 kz3
  have S := Off.ofB kz3
  refine vY1 (cC 9 S (h4.out _ (ft.later (bC (bC (bC (bA (bA bR _) _) b1) (bC (bA bR _) b2)) kz3))) fun w133 b133 => s3_41.out w133 pp2_0 pp2_1 pp2_2 (X3.later b133) (X4.later b133) (X5.later b133) jX3 jX4 jX5 ndX3_X4 ndX3_X5 ndX4_X5 (bC kz3 b133))
  case' ns3_35 => refine lH ?_
  intro w134 pp2_0 X3 jX3 kz3
  have S := Off.ofB kz3
  refine vY2 (cA 17 S fun w135 pp2_1 h X4 b135 => ?_) (cA 18 S fun w136 pp2_2 h X5 b136 => ?_)
  have ndX3_X4 : ¬ (pp2_0 = pp2_1) := (Nat.ne_of_lt (lY X3.lt h)); have jX4 := (lZ kz3.size h); replace X3 := (X3.later b135); replace kz3 := bC kz3 b135
  clear S b135 h w134
  revert kz3; revert ndX3_X4; revert jX4; revert jX3; revert X4; revert X3; revert pp2_1; revert pp2_0; revert w135
  exact s3_42.out
  have ndX3_X5 : ¬ (pp2_0 = pp2_2) := (Nat.ne_of_lt (lY X3.lt h)); have jX5 := (lZ kz3.size h); replace X3 := (X3.later b136); replace kz3 := bC kz3 b136
  clear S b136 h w134
  revert kz3; revert ndX3_X5; revert jX5; revert jX3; revert X5; revert X3; revert pp2_2; revert pp2_0; revert w136
  exact s3_43.out
  case' ns3_36 => refine lH ?_
  intro w137 pp2_1 X4 jX4 kz3
  have S := Off.ofB kz3
  refine vY2 (cA 16 S fun w138 pp2_0 h X3 b138 => s3_42.out w138 pp2_0 pp2_1 X3 (X4.later b138) (lZ kz3.size h) jX4 (Nat.ne_of_gt (lY X4.lt h)) (bC kz3 b138)) (cA 18 S fun w139 pp2_2 h X5 b139 => ?_)
  have ndX4_X5 : ¬ (pp2_1 = pp2_2) := (Nat.ne_of_lt (lY X4.lt h)); have jX5 := (lZ kz3.size h); replace X4 := (X4.later b139); replace kz3 := bC kz3 b139
  clear S b139 h w137
  revert kz3; revert ndX4_X5; revert jX5; revert jX4; revert X5; revert X4; revert pp2_2; revert pp2_1; revert w139
  exact s3_44.out
  case' ns3_37 => refine lH ?_
  intro w140 pp2_2 X5 jX5 kz3
  have S := Off.ofB kz3
  refine vY2 (cA 16 S fun w141 pp2_0 h X3 b141 => s3_43.out w141 pp2_0 pp2_2 X3 (X5.later b141) (lZ kz3.size h) jX5 (Nat.ne_of_gt (lY X5.lt h)) (bC kz3 b141)) (cA 17 S fun w142 pp2_1 h X4 b142 => s3_44.out w142 pp2_1 pp2_2 X4 (X5.later b142) (lZ kz3.size h) jX5 (Nat.ne_of_gt (lY X5.lt h)) (bC kz3 b142))
  case' ns3_38 => refine lH ?_
  intro w143 pp2_0 pp2_1 X3 X4 jX3 jX4 ndX3_X4 kz3
  have S := Off.ofB kz3
  refine vY2 (cC 15 S (h6.out _ (ft.later (bC (bC (bC (bA (bA bR _) _) b1) (bC (bA bR _) b2)) kz3))) fun w144 b144 => s3_42.out w144 pp2_0 pp2_1 (X3.later b144) (X4.later b144) jX3 jX4 ndX3_X4 (bC kz3 b144)) (cA 18 S fun w145 pp2_2 h X5 b145 => ?_)
  have ndX3_X5 : ¬ (pp2_0 = pp2_2) := (Nat.ne_of_lt (lY X3.lt h)); have ndX4_X5 : ¬ (pp2_1 = pp2_2) := (Nat.ne_of_lt (lY X4.lt h)); have jX5 := (lZ kz3.size h); replace X3 := (X3.later b145); replace X4 := (X4.later b145); replace kz3 := bC kz3 b145
  clear S b145 h w143
  revert kz3; revert ndX4_X5; revert ndX3_X5; revert ndX3_X4; revert jX5; revert jX4; revert jX3; revert X5; revert X4; revert X3; revert pp2_2; revert pp2_1; revert pp2_0; revert w145
  exact s3_45.out
  case' ns3_39 => refine lH ?_
  intro w146 pp2_0 pp2_2 X3 X5 jX3 jX5 ndX3_X5 kz3
  have S := Off.ofB kz3
  refine vY2 (cC 15 S (h6.out _ (ft.later (bC (bC (bC (bA (bA bR _) _) b1) (bC (bA bR _) b2)) kz3))) fun w147 b147 => s3_43.out w147 pp2_0 pp2_2 (X3.later b147) (X5.later b147) jX3 jX5 ndX3_X5 (bC kz3 b147)) (cA 17 S fun w148 pp2_1 h X4 b148 => s3_45.out w148 pp2_0 pp2_1 pp2_2 (X3.later b148) X4 (X5.later b148) jX3 (lZ kz3.size h) jX5 (Nat.ne_of_lt (lY X3.lt h)) ndX3_X5 (Nat.ne_of_gt (lY X5.lt h)) (bC kz3 b148))
  case' ns3_40 => refine lH ?_
  intro w149 pp2_1 pp2_2 X4 X5 jX4 jX5 ndX4_X5 kz3
  have S := Off.ofB kz3
  refine vY2 (cC 15 S (h6.out _ (ft.later (bC (bC (bC (bA (bA bR _) _) b1) (bC (bA bR _) b2)) kz3))) fun w150 b150 => s3_44.out w150 pp2_1 pp2_2 (X4.later b150) (X5.later b150) jX4 jX5 ndX4_X5 (bC kz3 b150)) (cA 16 S fun w151 pp2_0 h X3 b151 => s3_45.out w151 pp2_0 pp2_1 pp2_2 X3 (X4.later b151) (X5.later b151) (lZ kz3.size h) jX4 jX5 (Nat.ne_of_gt (lY X4.lt h)) (Nat.ne_of_gt (lY X5.lt h)) ndX4_X5 (bC kz3 b151))
  case' ns3_41 => refine lH ?_
  intro w152 pp2_0 pp2_1 pp2_2 X3 X4 X5 jX3 jX4 jX5 ndX3_X4 ndX3_X5 ndX4_X5 kz3
  have S := Off.ofB kz3
  refine vY1 (cC 13 S (h5.out _ (ft.later (bC (bC (bC (bA (bA bR _) _) b1) (bC (bA bR _) b2)) kz3))) fun w153 b153 => s3_45.out w153 pp2_0 pp2_1 pp2_2 (X3.later b153) (X4.later b153) (X5.later b153) jX3 jX4 jX5 ndX3_X4 ndX3_X5 ndX4_X5 (bC kz3 b153))
  case' ns3_42 => refine lH ?_
  intro w154 pp2_0 pp2_1 X3 X4 jX3 jX4 ndX3_X4 kz3
  have S := Off.ofB kz3
  refine vY1 (cA 18 S fun w155 pp2_2 h X5 b155 => ?_)
  have ndX3_X5 : ¬ (pp2_0 = pp2_2) := (Nat.ne_of_lt (lY X3.lt h)); have ndX4_X5 : ¬ (pp2_1 = pp2_2) := (Nat.ne_of_lt (lY X4.lt h)); have jX5 := (lZ kz3.size h); replace X3 := (X3.later b155); replace X4 := (X4.later b155); replace kz3 := bC kz3 b155
  clear S b155 h w154
  revert kz3; revert ndX4_X5; revert ndX3_X5; revert ndX3_X4; revert jX5; revert jX4; revert jX3; revert X5; revert X4; revert X3; revert pp2_2; revert pp2_1; revert pp2_0; revert w155
  exact s3_46.out
  case' ns3_43 => refine lH ?_
  intro w156 pp2_0 pp2_2 X3 X5 jX3 jX5 ndX3_X5 kz3
  have S := Off.ofB kz3
  refine vY1 (cA 17 S fun w157 pp2_1 h X4 b157 => s3_46.out w157 pp2_0 pp2_1 pp2_2 (X3.later b157) X4 (X5.later b157) jX3 (lZ kz3.size h) jX5 (Nat.ne_of_lt (lY X3.lt h)) ndX3_X5 (Nat.ne_of_gt (lY X5.lt h)) (bC kz3 b157))
  case' ns3_44 => refine lH ?_
  intro w158 pp2_1 pp2_2 X4 X5 jX4 jX5 ndX4_X5 kz3
  have S := Off.ofB kz3
  refine vY1 (cA 16 S fun w159 pp2_0 h X3 b159 => s3_46.out w159 pp2_0 pp2_1 pp2_2 X3 (X4.later b159) (X5.later b159) (lZ kz3.size h) jX4 jX5 (Nat.ne_of_gt (lY X4.lt h)) (Nat.ne_of_gt (lY X5.lt h)) ndX4_X5 (bC kz3 b159))
  case' ns3_45 => refine lH ?_
  intro w160 pp2_0 pp2_1 pp2_2 X3 X4 X5 jX3 jX4 jX5 ndX3_X4 ndX3_X5 ndX4_X5 kz3
  have S := Off.ofB kz3
  refine vY1 (cC 15 S (h6.out _ (ft.later (bC (bC (bC (bA (bA bR _) _) b1) (bC (bA bR _) b2)) kz3))) fun w161 b161 => s3_46.out w161 pp2_0 pp2_1 pp2_2 (X3.later b161) (X4.later b161) (X5.later b161) jX3 jX4 jX5 ndX3_X4 ndX3_X5 ndX4_X5 (bC kz3 b161))
  case' ns3_46 => refine lH ?_
  intro w162 pp2_0 pp2_1 pp2_2 X3 X4 X5 jX3 jX4 jX5 ndX3_X4 ndX3_X5 ndX4_X5 kz3
  have S := Off.ofB kz3
  refine vY1 (vO 19 fun K hK => ?_)
  have q := X3.o; have mX4 : ¬ (pp2_1 = pp2_0) := (by omega); have mX5 : ¬ (pp2_2 = pp2_0) := (by omega)
  go_simp
  refine vW (fun W => HB W pp2_0 30 #[.int .u64 rh, .int .u64 rl, .int .u8 0] ∧ HB W pp2_1 30 #[.int .u64 0, .int .u64 0, .int .u8 0] ∧ HB W pp2_2 30 #[.int .u64 0, .int .u64 0, .int .u8 0] ∧ Below w2.heap.size w2 W) ⟨(((X3.set 0 _).set 1 _).set 2 _), (((X4.other mX4 0 _).other mX4 1 _).other mX4 2 _), (((X5.other mX5 0 _).other mX5 1 _).other mX5 2 _), (((kz3.setCell (p := ⟨pp2_0, 0, none⟩) jX3 _).setCell (p := ⟨pp2_0, 1, none⟩) jX3 _).setCell (p := ⟨pp2_0, 2, none⟩) jX3 _)⟩ fun w164 hz => ?_
  clear q mX4 mX5 X3 X4 X5 S kz3 w162; obtain ⟨X3, X4, X5, kz3⟩ := hz
  refine hK.out _ _ (Off.ofB kz3) fun S => ?_; clear hK K S; refine vP ?_
  revert kz3; revert ndX4_X5; revert ndX3_X5; revert ndX3_X4; revert jX5; revert jX4; revert jX3; revert X5; revert X4; revert X3; revert pp2_2; revert pp2_1; revert pp2_0; revert w164
  exact s3_47.out
  case' ns3_47 => refine lH ?_
  intro w165 pp2_0 pp2_1 pp2_2 X3 X4 X5 jX3 jX4 jX5 ndX3_X4 ndX3_X5 ndX4_X5 kz3
  have S := Off.ofB kz3
  refine vY1 (vO 20 fun K hK => ?_)
  have q := X4.o; have mX3 : ¬ (pp2_0 = pp2_1) := (by omega); have mX5 : ¬ (pp2_2 = pp2_1) := (by omega)
  go_simp
  refine vW (fun W => HB W pp2_0 30 #[.int .u64 rh, .int .u64 rl, .int .u8 0] ∧ HB W pp2_1 30 #[.int .u64 rh, .int .u64 rl, .int .u8 0] ∧ HB W pp2_2 30 #[.int .u64 0, .int .u64 0, .int .u8 0] ∧ Below w2.heap.size w2 W) ⟨(((X3.other mX3 0 _).other mX3 1 _).other mX3 2 _), (((X4.set 0 _).set 1 _).set 2 _), (((X5.other mX5 0 _).other mX5 1 _).other mX5 2 _), (((kz3.setCell (p := ⟨pp2_1, 0, none⟩) jX4 _).setCell (p := ⟨pp2_1, 1, none⟩) jX4 _).setCell (p := ⟨pp2_1, 2, none⟩) jX4 _)⟩ fun w167 hz => ?_
  clear q mX3 mX5 X3 X4 X5 S kz3 w165; obtain ⟨X3, X4, X5, kz3⟩ := hz
  refine hK.out _ _ (Off.ofB kz3) fun S => ?_; clear hK K S; refine vP ?_
  revert kz3; revert ndX4_X5; revert ndX3_X5; revert ndX3_X4; revert jX5; revert jX4; revert jX3; revert X5; revert X4; revert X3; revert pp2_2; revert pp2_1; revert pp2_0; revert w167
  exact s3_48.out
  case' ns3_48 => refine lH ?_
  intro w168 pp2_0 pp2_1 pp2_2 X3 X4 X5 jX3 jX4 jX5 ndX3_X4 ndX3_X5 ndX4_X5 kz3
  have S := Off.ofB kz3
  refine vY1 (vO 21 fun K hK => ?_)
  have q := X5.o; have mX3 : ¬ (pp2_0 = pp2_2) := (by omega); have mX4 : ¬ (pp2_1 = pp2_2) := (by omega)
  go_simp
  refine vW (fun W => HB W pp2_0 30 #[.int .u64 rh, .int .u64 rl, .int .u8 0] ∧ HB W pp2_1 30 #[.int .u64 rh, .int .u64 rl, .int .u8 0] ∧ HB W pp2_2 30 #[.int .u64 vh, .int .u64 vl, .int .u8 0] ∧ Below w2.heap.size w2 W) ⟨(((X3.other mX3 0 _).other mX3 1 _).other mX3 2 _), (((X4.other mX4 0 _).other mX4 1 _).other mX4 2 _), (((X5.set 0 _).set 1 _).set 2 _), (((kz3.setCell (p := ⟨pp2_2, 0, none⟩) jX5 _).setCell (p := ⟨pp2_2, 1, none⟩) jX5 _).setCell (p := ⟨pp2_2, 2, none⟩) jX5 _)⟩ fun w170 hz => ?_
  clear q mX3 mX4 X3 X4 X5 S kz3 w168; obtain ⟨X3, X4, X5, kz3⟩ := hz
  refine hK.out _ _ (Off.ofB kz3) fun S => ?_; clear hK K S; refine vP ?_
  revert kz3; revert ndX4_X5; revert ndX3_X5; revert ndX3_X4; revert jX5; revert jX4; revert jX3; revert X5; revert X4; revert X3; revert pp2_2; revert pp2_1; revert pp2_0; revert w170
  exact s3_49.out
  case' ns3_49 => refine lH ?_
  intro w171 pp2_0 pp2_1 pp2_2 X3 X4 X5 jX3 jX4 jX5 ndX3_X4 ndX3_X5 ndX4_X5 kz3
  refine vD ?_
  have gX3 : w.heap.size ≤ pp2_0 := by have := (bC (bC (bA (bA bR _) _) b1) (bC (bA bR _) b2)).size; omega
  have gX4 : w.heap.size ≤ pp2_1 := by have := (bC (bC (bA (bA bR _) _) b1) (bC (bA bR _) b2)).size; omega
  have gX5 : w.heap.size ≤ pp2_2 := by have := (bC (bC (bA (bA bR _) _) b1) (bC (bA bR _) b2)).size; omega
  have oX3 := X3.o
  go_wp2_with fail
  refine vM (h7.out _ (ft.later (bC (bC (bC (bA (bA bR _) _) b1) (bC (bA bR _) b2)) kz3))) fun w172 b172 => ?_
  clear oX3
  go_wp2_with fail
  replace X3 := X3.later b172
  replace X4 := X4.later b172
  replace X5 := X5.later b172
  refine vR [] fun w173 b173 S173 => ?_
  refine vT 0 S173 ?_ (hy := by intro wq hb; have q := (hb.hb X3 (by simp)).o; go_simp; try (with_reducible rfl))
  refine vT 1 S173 ?_ (hy := by intro wq hb; have q := (hb.hb X4 (by simp)).o; go_simp; try (with_reducible rfl))
  refine vT 2 S173 ?_
  refine vT 3 S173 ?_
  refine vT 4 S173 ?_ (hy := by intro wq hb; have q := (hb.hb X5 (by simp)).o; go_simp; try (with_reducible rfl))
  refine vT 5 S173 ?_
  refine vT 6 S173 ?_
  refine vT 7 S173 ?_ (hy := by intro wq hb; have q := (hb.hb X3 (by simp)).o; go_simp; try (with_reducible rfl))
  refine vY1 (vC 8 S173 (h8.out _ (ft.later (bC (bC (bC (bC (bC (bA (bA bR _) _) b1) (bC (bA bR _) b2)) kz3) b172) b173))) (fun _ _ => Off.later) fun w174 b174 S174 => ?_)
  refine vT 9 S174 ?_
  refine vT 10 S174 ?_
  refine vT 11 S174 ?_
  refine vT 12 S174 ?_
  refine vY1 (vC 13 S174 (h9.out _ (ft.later (bC (bC (bC (bC (bC (bC (bA (bA bR _) _) b1) (bC (bA bR _) b2)) kz3) b172) b173) b174))) (fun _ _ => Off.later) fun w175 b175 S175 => ?_)
  refine vT 14 S175 ?_
  refine vT 15 S175 ?_
  refine vD ?_
  go_wp2_with fail
  go_ret
  exact ⟨rfl, (bC (bC (bC (bC (bC (bC (bC (bA (bA bR _) _) b1) (bC (bA bR _) b2)) kz3) b172) b173) b174) b175)⟩
end Go.Proofs.YtjdjonekoodalaaGreatDoor
