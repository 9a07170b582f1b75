import Derived.Test.YtnlmceafleeaiaaGreatDoorGwA
import Derived.Test.YtnlmceafleeaiaaGreatDoorGfA
import Derived.Test.YtnlmceafleeaiaaGreatDoorGaB
import Derived.Test.YtnlmceafleeaiaaGreatDoorGhA
import Derived.Test.YtnlmceafleeaiaaGreatDoorGaA
set_option maxHeartbeats 40000000
set_option linter.unusedVariables false
set_option linter.unusedSimpArgs false
set_option maxRecDepth 100000
namespace Go.Proofs.YtnlmceafleeaiaaGreatDoor
open Go.RowKit
attribute [local go_sem ↓] Go.wp_at_zero Go.wp_at_succ
theorem fm_Fma_h (f m ah al bh bl ch cl ca cb kc ea eb ec xh xl yh yl zh zl e s0 s1 s2 s3 qh ql qf uh ul uf rh rl fl em q0 q1 q2 q3 : Int) (t sa sb sc i j pn pi n1 n2 pk k2 : Bool)
    (h0 : Hid (∀ w, FTab w → Ca 20 #[.int .u8 f] w (.bool true)))
    (h1 : Hid (∀ w, Ca 21 #[.int .u8 m] w (.bool true)))
    (h2 : Hid (∀ w, FTab w → Ca 30 #[.int .u8 f, U2 ah al] w (.agg #[.bool sa, .int .u8 ca, .int .i64 ea, .int .u64 xh, .int .u64 xl])))
    (h3 : Hid (∀ w, FTab w → Ca 30 #[.int .u8 f, U2 bh bl] w (.agg #[.bool sb, .int .u8 cb, .int .i64 eb, .int .u64 yh, .int .u64 yl])))
    (h4 : Hid (∀ w, FTab w → Ca 30 #[.int .u8 f, U2 ch cl] w (.agg #[.bool sc, .int .u8 kc, .int .i64 ec, .int .u64 zh, .int .u64 zl])))
    (h5 : Hid (∀ w, Ca 44 #[.agg #[.bool sa, .int .u8 ca, .int .i64 ea, .int .u64 xh, .int .u64 xl], .agg #[.bool sb, .int .u8 cb, .int .i64 eb, .int .u64 yh, .int .u64 yl]] w (.bool i))) (PK : Hid (∀ w, FTab w → ∀ p T, HB w p T #[.int .u64 ah, .int .u64 al, .int .u64 bh, .int .u64 bl, .int .u64 ch, .int .u64 cl] → Ca 43 #[.int .u8 f, .bool i, .slice (some ⟨p, 0, none⟩) 3 3] w (.tuple #[.agg #[.int .u64 qh, .int .u64 ql, .int .u8 qf], .bool pk])))
    (HH : ((pk = true)) ∨ ((pk = false) ∧ Hid (∀ w, FTab w → ∀ p T, HB w p T #[.int .u64 ah, .int .u64 al, .int .u64 bh, .int .u64 bl, .int .u64 ch, .int .u64 cl] → Ca 43 #[.int .u8 f, .bool j, .slice (some ⟨p, 0, none⟩) 3 3] w (.tuple #[.agg #[.int .u64 uh, .int .u64 ul, .int .u8 uf], .bool k2])) ∧ Hid (∀ w, Ca 51 #[.agg #[.bool sa, .int .u8 ca, .int .i64 ea, .int .u64 xh, .int .u64 xl], .agg #[.bool sb, .int .u8 cb, .int .i64 eb, .int .u64 yh, .int .u64 yl]] w (.agg #[.int .i64 e, .int .u64 s0, .int .u64 s1, .int .u64 s2, .int .u64 s3, .bool pn, .bool pi])) ∧ Hid (∀ w, Ca 52 #[.agg #[.int .i64 e, .int .u64 s0, .int .u64 s1, .int .u64 s2, .int .u64 s3, .bool pn, .bool pi], .agg #[.bool sc, .int .u8 kc, .int .i64 ec, .int .u64 zh, .int .u64 zl]] w (.bool j)) ∧ (((k2 = true)) ∨ ((k2 = false) ∧ (pi = true) ∧ (fl = 0) ∧ Hid (∀ w, FTab w → Ca 28 #[.int .u8 f, .bool pn] w (U2 rh rl))) ∨ ((k2 = false) ∧ (pi = false) ∧ (fl = 0) ∧ Hid (∀ w, ∀ p T, HB w p T #[.bool sc, .int .u8 kc, .int .i64 ec, .int .u64 zh, .int .u64 zl] → Ca 53 #[.slice (some ⟨p, 0, none⟩) 1 1] w (.bool true)) ∧ Hid (∀ w, FTab w → Ca 28 #[.int .u8 f, .bool sc] w (U2 rh rl))) ∨ ((k2 = false) ∧ (pi = false) ∧ Hid (∀ w, ∀ p T, HB w p T #[.bool sc, .int .u8 kc, .int .i64 ec, .int .u64 zh, .int .u64 zl] → Ca 53 #[.slice (some ⟨p, 0, none⟩) 1 1] w (.bool false)) ∧ Hid (∀ w, Ca 54 #[.agg #[.int .i64 e, .int .u64 s0, .int .u64 s1, .int .u64 s2, .int .u64 s3, .bool pn, .bool false], .agg #[.bool sc, .int .u8 kc, .int .i64 ec, .int .u64 zh, .int .u64 zl]] w (.tuple #[T5 em q0 q1 q2 q3, .bool n1])) ∧ Hid (∀ w, Ca 55 #[U4 q0 q1 q2 q3] w (.bool true)) ∧ Hid (∀ w, Ca 56 #[.agg #[.int .u8 m, .bool t], .bool pn, .bool sc] w (.bool n2)) ∧ Hid (∀ w, FTab w → Ca 48 #[.int .u8 f, .agg #[.int .u8 m, .bool t], .bool n2, .int .i64 em, U4 q0 q1 q2 q3] w (.agg #[.int .u64 rh, .int .u64 rl, .int .u8 fl]))) ∨ ((k2 = false) ∧ (pi = false) ∧ Hid (∀ w, ∀ p T, HB w p T #[.bool sc, .int .u8 kc, .int .i64 ec, .int .u64 zh, .int .u64 zl] → Ca 53 #[.slice (some ⟨p, 0, none⟩) 1 1] w (.bool false)) ∧ Hid (∀ w, Ca 54 #[.agg #[.int .i64 e, .int .u64 s0, .int .u64 s1, .int .u64 s2, .int .u64 s3, .bool pn, .bool false], .agg #[.bool sc, .int .u8 kc, .int .i64 ec, .int .u64 zh, .int .u64 zl]] w (.tuple #[T5 em q0 q1 q2 q3, .bool n1])) ∧ Hid (∀ w, Ca 55 #[U4 q0 q1 q2 q3] w (.bool false)) ∧ Hid (∀ w, FTab w → Ca 48 #[.int .u8 f, .agg #[.int .u8 m, .bool t], .bool n1, .int .i64 em, U4 q0 q1 q2 q3] w (.agg #[.int .u64 rh, .int .u64 rl, .int .u8 fl])))))) (w : World) (ft : FTab w) :
    Ca 17 #[.int .u8 f, .agg #[.int .u8 m, .bool t], U2 ah al, U2 bh bl, U2 ch cl] w (.agg #[.int .u64 (if pk then qh else if k2 then uh else rh), .int .u64 (if pk then ql else if k2 then ul else rl), .int .u8 (if pk then qf else if k2 then uf else fl)]) := by
  simp only [Ca, U2, U4, T5] at *
  go_enter Tryz.func17, Tryz.ntmps17
  go_wp2_with fail
  refine vM (h0.out _ (ft.later (bA (bA (bA (bA (bA bR _) _) _) _) _))) fun w1 b1 => ?_
  have gX4 : w.heap.size ≤ w.heap.size + 1 + 1 + 1 + 1 := by omega
  have X0 := (((((HB.newAt (b := w.heap.size) (by simp) _ _).alloc _).alloc _).alloc _).alloc _).later b1
  have X1 := ((((HB.newAt (b := w.heap.size + 1) (by simp) _ _).alloc _).alloc _).alloc _).later b1
  have X2 := (((HB.newAt (b := w.heap.size + 1 + 1) (by simp) _ _).alloc _).alloc _).later b1
  have X3 := ((HB.newAt (b := w.heap.size + 1 + 1 + 1) (by simp) _ _).alloc _).later b1
  have X4 := (HB.newAt (b := w.heap.size + 1 + 1 + 1 + 1) (by simp) _ _).later b1
  have oX0 := X0.o
  go_wp2_with fail
  refine vM (h1.out _) fun w2 b2 => ?_
  clear oX0
  go_wp2_with fail
  replace X1 := X1.later b2
  replace X2 := X2.later b2
  replace X3 := X3.later b2
  refine' (have s3_33 : Hid (_ : Prop) := ?ns3_33; ?ms3_33)
  case' ms3_33 => skip
  refine' (have s3_32 : Hid (_ : Prop) := ?ns3_32; ?ms3_32)
  case' ms3_32 => skip
  refine' (have s3_31 : Hid (_ : Prop) := ?ns3_31; ?ms3_31)
  case' ms3_31 => skip
  refine' (have s3_30 : Hid (_ : Prop) := ?ns3_30; ?ms3_30)
  case' ms3_30 => skip
  refine' (have s3_29 : Hid (_ : Prop) := ?ns3_29; ?ms3_29)
  case' ms3_29 => skip
  refine' (have s3_28 : Hid (_ : Prop) := ?ns3_28; ?ms3_28)
  case' ms3_28 => skip
  refine' (have s3_27 : Hid (_ : Prop) := ?ns3_27; ?ms3_27)
  case' ms3_27 => skip
  refine' (have s3_26 : Hid (_ : Prop) := ?ns3_26; ?ms3_26)
  case' ms3_26 => skip
  refine' (have s3_25 : Hid (_ : Prop) := ?ns3_25; ?ms3_25)
  case' ms3_25 => skip
  refine' (have s3_24 : Hid (_ : Prop) := ?ns3_24; ?ms3_24)
  case' ms3_24 => skip
  refine' (have s3_23 : Hid (_ : Prop) := ?ns3_23; ?ms3_23)
  case' ms3_23 => skip
  refine' (have s3_22 : Hid (_ : Prop) := ?ns3_22; ?ms3_22)
  case' ms3_22 => skip
  refine' (have s3_21 : Hid (_ : Prop) := ?ns3_21; ?ms3_21)
  case' ms3_21 => skip
  refine' (have s3_20 : Hid (_ : Prop) := ?ns3_20; ?ms3_20)
  case' ms3_20 => skip
  refine' (have s3_19 : Hid (_ : Prop) := ?ns3_19; ?ms3_19)
  case' ms3_19 => skip
  refine' (have s3_18 : Hid (_ : Prop) := ?ns3_18; ?ms3_18)
  case' ms3_18 => skip
  refine' (have s3_17 : Hid (_ : Prop) := ?ns3_17; ?ms3_17)
  case' ms3_17 => skip
  refine' (have s3_16 : Hid (_ : Prop) := ?ns3_16; ?ms3_16)
  case' ms3_16 => skip
  refine' (have s3_15 : Hid (_ : Prop) := ?ns3_15; ?ms3_15)
  case' ms3_15 => skip
  refine' (have s3_14 : Hid (_ : Prop) := ?ns3_14; ?ms3_14)
  case' ms3_14 => skip
  refine' (have s3_13 : Hid (_ : Prop) := ?ns3_13; ?ms3_13)
  case' ms3_13 => skip
  refine' (have s3_12 : Hid (_ : Prop) := ?ns3_12; ?ms3_12)
  case' ms3_12 => skip
  refine' (have s3_11 : Hid (_ : Prop) := ?ns3_11; ?ms3_11)
  case' ms3_11 => skip
  refine' (have s3_10 : Hid (_ : Prop) := ?ns3_10; ?ms3_10)
  case' ms3_10 => skip
  refine' (have s3_9 : Hid (_ : Prop) := ?ns3_9; ?ms3_9)
  case' ms3_9 => skip
  refine' (have s3_8 : Hid (_ : Prop) := ?ns3_8; ?ms3_8)
  case' ms3_8 => skip
  refine' (have s3_7 : Hid (_ : Prop) := ?ns3_7; ?ms3_7)
  case' ms3_7 => skip
  refine' (have s3_6 : Hid (_ : Prop) := ?ns3_6; ?ms3_6)
  case' ms3_6 => skip
  refine' (have s3_5 : Hid (_ : Prop) := ?ns3_5; ?ms3_5)
  case' ms3_5 => skip
  refine' (have s3_4 : Hid (_ : Prop) := ?ns3_4; ?ms3_4)
  case' ms3_4 => skip
  refine' (have s3_3 : Hid (_ : Prop) := ?ns3_3; ?ms3_3)
  case' ms3_3 => skip
  refine' (have s3_2 : Hid (_ : Prop) := ?ns3_2; ?ms3_2)
  case' ms3_2 => skip
  refine' (have s3_1 : Hid (_ : Prop) := ?ns3_1; ?ms3_1)
  case' ms3_1 => skip
  refine' (have s3_0 : Hid (_ : Prop) := ?ns3_0; ?ms3_0)
  case' ms3_0 => skip
  refine vR [] fun w3 kz3 S => ?_
  refine uT 0 S ?_
  refine uT 1 S ?_ (hy := by intro wq hb; have q := (hb.hb X1 (by simp)).o; go_simp; try (with_reducible rfl))
  refine uT 3 S ?_
  refine uT 4 S ?_ (hy := by intro wq hb; have q := (hb.hb X2 (by simp)).o; go_simp; try (with_reducible rfl))
  refine uT 6 S ?_
  refine uT 7 S ?_ (hy := by intro wq hb; have q := (hb.hb X3 (by simp)).o; go_simp; try (with_reducible rfl))
  refine uY4 (cC 2 S (h2.out _ (ft.later (bC (bC (bC (bA (bA (bA (bA (bA bR _) _) _) _) _) b1) b2) kz3))) fun w4 b4 => ?_) (cA 9 S fun w5 pp2_0 h X5 b5 => ?_) (cA 10 S fun w6 pp2_1 h X6 b6 => ?_) (cA 11 S fun w7 pp2_2 h X7 b7 => ?_)
  replace kz3 := bC kz3 b4
  clear S b4 w3
  revert kz3; revert w4
  exact s3_0.out
  have jX5 := (lZ kz3.size h); replace kz3 := bC kz3 b5
  clear S b5 h w3
  revert kz3; revert jX5; revert X5; revert pp2_0; revert w5
  exact s3_1.out
  have jX6 := (lZ kz3.size h); replace kz3 := bC kz3 b6
  clear S b6 h w3
  revert kz3; revert jX6; revert X6; revert pp2_1; revert w6
  exact s3_2.out
  have jX7 := (lZ kz3.size h); replace kz3 := bC kz3 b7
  clear S b7 h w3
  revert kz3; revert jX7; revert X7; revert pp2_2; revert w7
  exact s3_3.out
  case' ns3_0 => refine lH ?_
  intro w8 kz3
  have S := Off.ofB kz3
  refine uY4 (cC 5 S (h3.out _ (ft.later (bC (bC (bC (bA (bA (bA (bA (bA bR _) _) _) _) _) b1) b2) kz3))) fun w9 b9 => ?_) (cA 9 S fun w10 pp2_0 h X5 b10 => ?_) (cA 10 S fun w11 pp2_1 h X6 b11 => ?_) (cA 11 S fun w12 pp2_2 h X7 b12 => ?_)
  replace kz3 := bC kz3 b9
  clear S b9 w8
  revert kz3; revert w9
  exact s3_4.out
  have jX5 := (lZ kz3.size h); replace kz3 := bC kz3 b10
  clear S b10 h w8
  revert kz3; revert jX5; revert X5; revert pp2_0; revert w10
  exact s3_5.out
  have jX6 := (lZ kz3.size h); replace kz3 := bC kz3 b11
  clear S b11 h w8
  revert kz3; revert jX6; revert X6; revert pp2_1; revert w11
  exact s3_6.out
  have jX7 := (lZ kz3.size h); replace kz3 := bC kz3 b12
  clear S b12 h w8
  revert kz3; revert jX7; revert X7; revert pp2_2; revert w12
  exact s3_7.out
  case' ns3_1 => refine lH ?_
  intro w13 pp2_0 X5 jX5 kz3
  have S := Off.ofB kz3
  refine uY3 (cC 2 S (h2.out _ (ft.later (bC (bC (bC (bA (bA (bA (bA (bA bR _) _) _) _) _) b1) b2) kz3))) fun w14 b14 => s3_5.out w14 pp2_0 (X5.later b14) jX5 (bC kz3 b14)) (cA 10 S fun w15 pp2_1 h X6 b15 => ?_) (cA 11 S fun w16 pp2_2 h X7 b16 => ?_)
  have ndX5_X6 : ¬ (pp2_0 = pp2_1) := (Nat.ne_of_lt (lY X5.lt h)); have jX6 := (lZ kz3.size h); replace X5 := (X5.later b15); replace kz3 := bC kz3 b15
  clear S b15 h w13
  revert kz3; revert ndX5_X6; revert jX6; revert jX5; revert X6; revert X5; revert pp2_1; revert pp2_0; revert w15
  exact s3_8.out
  have ndX5_X7 : ¬ (pp2_0 = pp2_2) := (Nat.ne_of_lt (lY X5.lt h)); have jX7 := (lZ kz3.size h); replace X5 := (X5.later b16); replace kz3 := bC kz3 b16
  clear S b16 h w13
  revert kz3; revert ndX5_X7; revert jX7; revert jX5; revert X7; revert X5; revert pp2_2; revert pp2_0; revert w16
  exact s3_9.out
  case' ns3_2 => refine lH ?_
  intro w17 pp2_1 X6 jX6 kz3
  have S := Off.ofB kz3
  refine uY3 (cC 2 S (h2.out _ (ft.later (bC (bC (bC (bA (bA (bA (bA (bA bR _) _) _) _) _) b1) b2) kz3))) fun w18 b18 => s3_6.out w18 pp2_1 (X6.later b18) jX6 (bC kz3 b18)) (cA 9 S fun w19 pp2_0 h X5 b19 => s3_8.out w19 pp2_0 pp2_1 X5 (X6.later b19) (lZ kz3.size h) jX6 (Nat.ne_of_gt (lY X6.lt h)) (bC kz3 b19)) (cA 11 S fun w20 pp2_2 h X7 b20 => ?_)
  have ndX6_X7 : ¬ (pp2_1 = pp2_2) := (Nat.ne_of_lt (lY X6.lt h)); have jX7 := (lZ kz3.size h); replace X6 := (X6.later b20); replace kz3 := bC kz3 b20
  clear S b20 h w17
  revert kz3; revert ndX6_X7; revert jX7; revert jX6; revert X7; revert X6; revert pp2_2; revert pp2_1; revert w20
  exact s3_10.out
  case' ns3_3 => refine lH ?_
  intro w21 pp2_2 X7 jX7 kz3
  have S := Off.ofB kz3
  refine uY3 (cC 2 S (h2.out _ (ft.later (bC (bC (bC (bA (bA (bA (bA (bA bR _) _) _) _) _) b1) b2) kz3))) fun w22 b22 => s3_7.out w22 pp2_2 (X7.later b22) jX7 (bC kz3 b22)) (cA 9 S fun w23 pp2_0 h X5 b23 => s3_9.out w23 pp2_0 pp2_2 X5 (X7.later b23) (lZ kz3.size h) jX7 (Nat.ne_of_gt (lY X7.lt h)) (bC kz3 b23)) (cA 10 S fun w24 pp2_1 h X6 b24 => s3_10.out w24 pp2_1 pp2_2 X6 (X7.later b24) (lZ kz3.size h) jX7 (Nat.ne_of_gt (lY X7.lt h)) (bC kz3 b24))
  case' ns3_4 => refine lH ?_
  intro w25 kz3
  have S := Off.ofB kz3
  refine uY4 (cC 8 S (h4.out _ (ft.later (bC (bC (bC (bA (bA (bA (bA (bA bR _) _) _) _) _) b1) b2) kz3))) fun w26 b26 => ?_) (cA 9 S fun w27 pp2_0 h X5 b27 => ?_) (cA 10 S fun w28 pp2_1 h X6 b28 => ?_) (cA 11 S fun w29 pp2_2 h X7 b29 => ?_)
  replace kz3 := bC kz3 b26
  clear S b26 w25
  revert kz3; revert w26
  exact s3_11.out
  have jX5 := (lZ kz3.size h); replace kz3 := bC kz3 b27
  clear S b27 h w25
  revert kz3; revert jX5; revert X5; revert pp2_0; revert w27
  exact s3_12.out
  have jX6 := (lZ kz3.size h); replace kz3 := bC kz3 b28
  clear S b28 h w25
  revert kz3; revert jX6; revert X6; revert pp2_1; revert w28
  exact s3_13.out
  have jX7 := (lZ kz3.size h); replace kz3 := bC kz3 b29
  clear S b29 h w25
  revert kz3; revert jX7; revert X7; revert pp2_2; revert w29
  exact s3_14.out
  case' ns3_5 => refine lH ?_
  intro w30 pp2_0 X5 jX5 kz3
  have S := Off.ofB kz3
  refine uY3 (cC 5 S (h3.out _ (ft.later (bC (bC (bC (bA (bA (bA (bA (bA bR _) _) _) _) _) b1) b2) kz3))) fun w31 b31 => s3_12.out w31 pp2_0 (X5.later b31) jX5 (bC kz3 b31)) (cA 10 S fun w32 pp2_1 h X6 b32 => ?_) (cA 11 S fun w33 pp2_2 h X7 b33 => ?_)
  have ndX5_X6 : ¬ (pp2_0 = pp2_1) := (Nat.ne_of_lt (lY X5.lt h)); have jX6 := (lZ kz3.size h); replace X5 := (X5.later b32); replace kz3 := bC kz3 b32
  clear S b32 h w30
  revert kz3; revert ndX5_X6; revert jX6; revert jX5; revert X6; revert X5; revert pp2_1; revert pp2_0; revert w32
  exact s3_15.out
  have ndX5_X7 : ¬ (pp2_0 = pp2_2) := (Nat.ne_of_lt (lY X5.lt h)); have jX7 := (lZ kz3.size h); replace X5 := (X5.later b33); replace kz3 := bC kz3 b33
  clear S b33 h w30
  revert kz3; revert ndX5_X7; revert jX7; revert jX5; revert X7; revert X5; revert pp2_2; revert pp2_0; revert w33
  exact s3_16.out
  case' ns3_6 => refine lH ?_
  intro w34 pp2_1 X6 jX6 kz3
  have S := Off.ofB kz3
  refine uY3 (cC 5 S (h3.out _ (ft.later (bC (bC (bC (bA (bA (bA (bA (bA bR _) _) _) _) _) b1) b2) kz3))) fun w35 b35 => s3_13.out w35 pp2_1 (X6.later b35) jX6 (bC kz3 b35)) (cA 9 S fun w36 pp2_0 h X5 b36 => s3_15.out w36 pp2_0 pp2_1 X5 (X6.later b36) (lZ kz3.size h) jX6 (Nat.ne_of_gt (lY X6.lt h)) (bC kz3 b36)) (cA 11 S fun w37 pp2_2 h X7 b37 => ?_)
  have ndX6_X7 : ¬ (pp2_1 = pp2_2) := (Nat.ne_of_lt (lY X6.lt h)); have jX7 := (lZ kz3.size h); replace X6 := (X6.later b37); replace kz3 := bC kz3 b37
  clear S b37 h w34
  revert kz3; revert ndX6_X7; revert jX7; revert jX6; revert X7; revert X6; revert pp2_2; revert pp2_1; revert w37
  exact s3_17.out
  case' ns3_7 => refine lH ?_
  intro w38 pp2_2 X7 jX7 kz3
  have S := Off.ofB kz3
  refine uY3 (cC 5 S (h3.out _ (ft.later (bC (bC (bC (bA (bA (bA (bA (bA bR _) _) _) _) _) b1) b2) kz3))) fun w39 b39 => s3_14.out w39 pp2_2 (X7.later b39) jX7 (bC kz3 b39)) (cA 9 S fun w40 pp2_0 h X5 b40 => s3_16.out w40 pp2_0 pp2_2 X5 (X7.later b40) (lZ kz3.size h) jX7 (Nat.ne_of_gt (lY X7.lt h)) (bC kz3 b40)) (cA 10 S fun w41 pp2_1 h X6 b41 => s3_17.out w41 pp2_1 pp2_2 X6 (X7.later b41) (lZ kz3.size h) jX7 (Nat.ne_of_gt (lY X7.lt h)) (bC kz3 b41))
  case' ns3_8 => refine lH ?_
  intro w42 pp2_0 pp2_1 X5 X6 jX5 jX6 ndX5_X6 kz3
  have S := Off.ofB kz3
  refine uY2 (cC 2 S (h2.out _ (ft.later (bC (bC (bC (bA (bA (bA (bA (bA bR _) _) _) _) _) b1) b2) kz3))) fun w43 b43 => s3_15.out w43 pp2_0 pp2_1 (X5.later b43) (X6.later b43) jX5 jX6 ndX5_X6 (bC kz3 b43)) (cA 11 S fun w44 pp2_2 h X7 b44 => ?_)
  have ndX5_X7 : ¬ (pp2_0 = pp2_2) := (Nat.ne_of_lt (lY X5.lt h)); have ndX6_X7 : ¬ (pp2_1 = pp2_2) := (Nat.ne_of_lt (lY X6.lt h)); have jX7 := (lZ kz3.size h); replace X5 := (X5.later b44); replace X6 := (X6.later b44); replace kz3 := bC kz3 b44
  clear S b44 h w42
  revert kz3; revert ndX6_X7; revert ndX5_X7; revert ndX5_X6; revert jX7; revert jX6; revert jX5; revert X7; revert X6; revert X5; revert pp2_2; revert pp2_1; revert pp2_0; revert w44
  exact s3_18.out
  case' ns3_9 => refine lH ?_
  intro w45 pp2_0 pp2_2 X5 X7 jX5 jX7 ndX5_X7 kz3
  have S := Off.ofB kz3
  refine uY2 (cC 2 S (h2.out _ (ft.later (bC (bC (bC (bA (bA (bA (bA (bA bR _) _) _) _) _) b1) b2) kz3))) fun w46 b46 => s3_16.out w46 pp2_0 pp2_2 (X5.later b46) (X7.later b46) jX5 jX7 ndX5_X7 (bC kz3 b46)) (cA 10 S fun w47 pp2_1 h X6 b47 => s3_18.out w47 pp2_0 pp2_1 pp2_2 (X5.later b47) X6 (X7.later b47) jX5 (lZ kz3.size h) jX7 (Nat.ne_of_lt (lY X5.lt h)) ndX5_X7 (Nat.ne_of_gt (lY X7.lt h)) (bC kz3 b47))
  case' ns3_10 => refine lH ?_
  intro w48 pp2_1 pp2_2 X6 X7 jX6 jX7 ndX6_X7 kz3
  have S := Off.ofB kz3
  refine uY2 (cC 2 S (h2.out _ (ft.later (bC (bC (bC (bA (bA (bA (bA (bA bR _) _) _) _) _) b1) b2) kz3))) fun w49 b49 => s3_17.out w49 pp2_1 pp2_2 (X6.later b49) (X7.later b49) jX6 jX7 ndX6_X7 (bC kz3 b49)) (cA 9 S fun w50 pp2_0 h X5 b50 => s3_18.out w50 pp2_0 pp2_1 pp2_2 X5 (X6.later b50) (X7.later b50) (lZ kz3.size h) jX6 jX7 (Nat.ne_of_gt (lY X6.lt h)) (Nat.ne_of_gt (lY X7.lt h)) ndX6_X7 (bC kz3 b50))
  case' ns3_11 => refine lH ?_
  intro w51 kz3
  have S := Off.ofB kz3
  refine uY3 (cA 9 S fun w52 pp2_0 h X5 b52 => ?_) (cA 10 S fun w53 pp2_1 h X6 b53 => ?_) (cA 11 S fun w54 pp2_2 h X7 b54 => ?_)
  have jX5 := (lZ kz3.size h); replace kz3 := bC kz3 b52
  clear S b52 h w51
  revert kz3; revert jX5; revert X5; revert pp2_0; revert w52
  exact s3_19.out
  have jX6 := (lZ kz3.size h); replace kz3 := bC kz3 b53
  clear S b53 h w51
  revert kz3; revert jX6; revert X6; revert pp2_1; revert w53
  exact s3_20.out
  have jX7 := (lZ kz3.size h); replace kz3 := bC kz3 b54
  clear S b54 h w51
  revert kz3; revert jX7; revert X7; revert pp2_2; revert w54
  exact s3_21.out
  case' ns3_12 => refine lH ?_
  intro w55 pp2_0 X5 jX5 kz3
  have S := Off.ofB kz3
  refine uY3 (cC 8 S (h4.out _ (ft.later (bC (bC (bC (bA (bA (bA (bA (bA bR _) _) _) _) _) b1) b2) kz3))) fun w56 b56 => s3_19.out w56 pp2_0 (X5.later b56) jX5 (bC kz3 b56)) (cA 10 S fun w57 pp2_1 h X6 b57 => ?_) (cA 11 S fun w58 pp2_2 h X7 b58 => ?_)
  have ndX5_X6 : ¬ (pp2_0 = pp2_1) := (Nat.ne_of_lt (lY X5.lt h)); have jX6 := (lZ kz3.size h); replace X5 := (X5.later b57); replace kz3 := bC kz3 b57
  clear S b57 h w55
  revert kz3; revert ndX5_X6; revert jX6; revert jX5; revert X6; revert X5; revert pp2_1; revert pp2_0; revert w57
  exact s3_22.out
  have ndX5_X7 : ¬ (pp2_0 = pp2_2) := (Nat.ne_of_lt (lY X5.lt h)); have jX7 := (lZ kz3.size h); replace X5 := (X5.later b58); replace kz3 := bC kz3 b58
  clear S b58 h w55
  revert kz3; revert ndX5_X7; revert jX7; revert jX5; revert X7; revert X5; revert pp2_2; revert pp2_0; revert w58
  exact s3_23.out
  case' ns3_13 => refine lH ?_
  intro w59 pp2_1 X6 jX6 kz3
  have S := Off.ofB kz3
  refine uY3 (cC 8 S (h4.out _ (ft.later (bC (bC (bC (bA (bA (bA (bA (bA bR _) _) _) _) _) b1) b2) kz3))) fun w60 b60 => s3_20.out w60 pp2_1 (X6.later b60) jX6 (bC kz3 b60)) (cA 9 S fun w61 pp2_0 h X5 b61 => s3_22.out w61 pp2_0 pp2_1 X5 (X6.later b61) (lZ kz3.size h) jX6 (Nat.ne_of_gt (lY X6.lt h)) (bC kz3 b61)) (cA 11 S fun w62 pp2_2 h X7 b62 => ?_)
  have ndX6_X7 : ¬ (pp2_1 = pp2_2) := (Nat.ne_of_lt (lY X6.lt h)); have jX7 := (lZ kz3.size h); replace X6 := (X6.later b62); replace kz3 := bC kz3 b62
  clear S b62 h w59
  revert kz3; revert ndX6_X7; revert jX7; revert jX6; revert X7; revert X6; revert pp2_2; revert pp2_1; revert w62
  exact s3_24.out
  case' ns3_14 => refine lH ?_
  intro w63 pp2_2 X7 jX7 kz3
  have S := Off.ofB kz3
  refine uY3 (cC 8 S (h4.out _ (ft.later (bC (bC (bC (bA (bA (bA (bA (bA bR _) _) _) _) _) b1) b2) kz3))) fun w64 b64 => s3_21.out w64 pp2_2 (X7.later b64) jX7 (bC kz3 b64)) (cA 9 S fun w65 pp2_0 h X5 b65 => s3_23.out w65 pp2_0 pp2_2 X5 (X7.later b65) (lZ kz3.size h) jX7 (Nat.ne_of_gt (lY X7.lt h)) (bC kz3 b65)) (cA 10 S fun w66 pp2_1 h X6 b66 => s3_24.out w66 pp2_1 pp2_2 X6 (X7.later b66) (lZ kz3.size h) jX7 (Nat.ne_of_gt (lY X7.lt h)) (bC kz3 b66))
  case' ns3_15 => refine lH ?_
  intro w67 pp2_0 pp2_1 X5 X6 jX5 jX6 ndX5_X6 kz3
  have S := Off.ofB kz3
  refine uY2 (cC 5 S (h3.out _ (ft.later (bC (bC (bC (bA (bA (bA (bA (bA bR _) _) _) _) _) b1) b2) kz3))) fun w68 b68 => s3_22.out w68 pp2_0 pp2_1 (X5.later b68) (X6.later b68) jX5 jX6 ndX5_X6 (bC kz3 b68)) (cA 11 S fun w69 pp2_2 h X7 b69 => ?_)
  have ndX5_X7 : ¬ (pp2_0 = pp2_2) := (Nat.ne_of_lt (lY X5.lt h)); have ndX6_X7 : ¬ (pp2_1 = pp2_2) := (Nat.ne_of_lt (lY X6.lt h)); have jX7 := (lZ kz3.size h); replace X5 := (X5.later b69); replace X6 := (X6.later b69); replace kz3 := bC kz3 b69
  clear S b69 h w67
  revert kz3; revert ndX6_X7; revert ndX5_X7; revert ndX5_X6; revert jX7; revert jX6; revert jX5; revert X7; revert X6; revert X5; revert pp2_2; revert pp2_1; revert pp2_0; revert w69
  exact s3_25.out
  case' ns3_16 => refine lH ?_
  intro w70 pp2_0 pp2_2 X5 X7 jX5 jX7 ndX5_X7 kz3
  have S := Off.ofB kz3
  refine uY2 (cC 5 S (h3.out _ (ft.later (bC (bC (bC (bA (bA (bA (bA (bA bR _) _) _) _) _) b1) b2) kz3))) fun w71 b71 => s3_23.out w71 pp2_0 pp2_2 (X5.later b71) (X7.later b71) jX5 jX7 ndX5_X7 (bC kz3 b71)) (cA 10 S fun w72 pp2_1 h X6 b72 => s3_25.out w72 pp2_0 pp2_1 pp2_2 (X5.later b72) X6 (X7.later b72) jX5 (lZ kz3.size h) jX7 (Nat.ne_of_lt (lY X5.lt h)) ndX5_X7 (Nat.ne_of_gt (lY X7.lt h)) (bC kz3 b72))
  case' ns3_17 => refine lH ?_
  intro w73 pp2_1 pp2_2 X6 X7 jX6 jX7 ndX6_X7 kz3
  have S := Off.ofB kz3
  refine uY2 (cC 5 S (h3.out _ (ft.later (bC (bC (bC (bA (bA (bA (bA (bA bR _) _) _) _) _) b1) b2) kz3))) fun w74 b74 => s3_24.out w74 pp2_1 pp2_2 (X6.later b74) (X7.later b74) jX6 jX7 ndX6_X7 (bC kz3 b74)) (cA 9 S fun w75 pp2_0 h X5 b75 => s3_25.out w75 pp2_0 pp2_1 pp2_2 X5 (X6.later b75) (X7.later b75) (lZ kz3.size h) jX6 jX7 (Nat.ne_of_gt (lY X6.lt h)) (Nat.ne_of_gt (lY X7.lt h)) ndX6_X7 (bC kz3 b75))
  case' ns3_18 => refine lH ?_
  intro w76 pp2_0 pp2_1 pp2_2 X5 X6 X7 jX5 jX6 jX7 ndX5_X6 ndX5_X7 ndX6_X7 kz3
  have S := Off.ofB kz3
  refine uY1 (cC 2 S (h2.out _ (ft.later (bC (bC (bC (bA (bA (bA (bA (bA bR _) _) _) _) _) b1) b2) kz3))) fun w77 b77 => s3_25.out w77 pp2_0 pp2_1 pp2_2 (X5.later b77) (X6.later b77) (X7.later b77) jX5 jX6 jX7 ndX5_X6 ndX5_X7 ndX6_X7 (bC kz3 b77))
  case' ns3_19 => refine lH ?_
  intro w78 pp2_0 X5 jX5 kz3
  have S := Off.ofB kz3
  refine uY2 (cA 10 S fun w79 pp2_1 h X6 b79 => ?_) (cA 11 S fun w80 pp2_2 h X7 b80 => ?_)
  have ndX5_X6 : ¬ (pp2_0 = pp2_1) := (Nat.ne_of_lt (lY X5.lt h)); have jX6 := (lZ kz3.size h); replace X5 := (X5.later b79); replace kz3 := bC kz3 b79
  clear S b79 h w78
  revert kz3; revert ndX5_X6; revert jX6; revert jX5; revert X6; revert X5; revert pp2_1; revert pp2_0; revert w79
  exact s3_26.out
  have ndX5_X7 : ¬ (pp2_0 = pp2_2) := (Nat.ne_of_lt (lY X5.lt h)); have jX7 := (lZ kz3.size h); replace X5 := (X5.later b80); replace kz3 := bC kz3 b80
  clear S b80 h w78
  revert kz3; revert ndX5_X7; revert jX7; revert jX5; revert X7; revert X5; revert pp2_2; revert pp2_0; revert w80
  exact s3_27.out
  case' ns3_20 => refine lH ?_
  intro w81 pp2_1 X6 jX6 kz3
  have S := Off.ofB kz3
  refine uY2 (cA 9 S fun w82 pp2_0 h X5 b82 => s3_26.out w82 pp2_0 pp2_1 X5 (X6.later b82) (lZ kz3.size h) jX6 (Nat.ne_of_gt (lY X6.lt h)) (bC kz3 b82)) (cA 11 S fun w83 pp2_2 h X7 b83 => ?_)
  have ndX6_X7 : ¬ (pp2_1 = pp2_2) := (Nat.ne_of_lt (lY X6.lt h)); have jX7 := (lZ kz3.size h); replace X6 := (X6.later b83); replace kz3 := bC kz3 b83
  clear S b83 h w81
  revert kz3; revert ndX6_X7; revert jX7; revert jX6; revert X7; revert X6; revert pp2_2; revert pp2_1; revert w83
  exact s3_28.out
  case' ns3_21 => refine lH ?_
  intro w84 pp2_2 X7 jX7 kz3
  have S := Off.ofB kz3
  refine uY2 (cA 9 S fun w85 pp2_0 h X5 b85 => s3_27.out w85 pp2_0 pp2_2 X5 (X7.later b85) (lZ kz3.size h) jX7 (Nat.ne_of_gt (lY X7.lt h)) (bC kz3 b85)) (cA 10 S fun w86 pp2_1 h X6 b86 => s3_28.out w86 pp2_1 pp2_2 X6 (X7.later b86) (lZ kz3.size h) jX7 (Nat.ne_of_gt (lY X7.lt h)) (bC kz3 b86))
  case' ns3_22 => refine lH ?_
  intro w87 pp2_0 pp2_1 X5 X6 jX5 jX6 ndX5_X6 kz3
  have S := Off.ofB kz3
  refine uY2 (cC 8 S (h4.out _ (ft.later (bC (bC (bC (bA (bA (bA (bA (bA bR _) _) _) _) _) b1) b2) kz3))) fun w88 b88 => s3_26.out w88 pp2_0 pp2_1 (X5.later b88) (X6.later b88) jX5 jX6 ndX5_X6 (bC kz3 b88)) (cA 11 S fun w89 pp2_2 h X7 b89 => ?_)
  have ndX5_X7 : ¬ (pp2_0 = pp2_2) := (Nat.ne_of_lt (lY X5.lt h)); have ndX6_X7 : ¬ (pp2_1 = pp2_2) := (Nat.ne_of_lt (lY X6.lt h)); have jX7 := (lZ kz3.size h); replace X5 := (X5.later b89); replace X6 := (X6.later b89); replace kz3 := bC kz3 b89
  clear S b89 h w87
  revert kz3; revert ndX6_X7; revert ndX5_X7; revert ndX5_X6; revert jX7; revert jX6; revert jX5; revert X7; revert X6; revert X5; revert pp2_2; revert pp2_1; revert pp2_0; revert w89
  exact s3_29.out
  case' ns3_23 => refine lH ?_
  intro w90 pp2_0 pp2_2 X5 X7 jX5 jX7 ndX5_X7 kz3
  have S := Off.ofB kz3
  refine uY2 (cC 8 S (h4.out _ (ft.later (bC (bC (bC (bA (bA (bA (bA (bA bR _) _) _) _) _) b1) b2) kz3))) fun w91 b91 => s3_27.out w91 pp2_0 pp2_2 (X5.later b91) (X7.later b91) jX5 jX7 ndX5_X7 (bC kz3 b91)) (cA 10 S fun w92 pp2_1 h X6 b92 => s3_29.out w92 pp2_0 pp2_1 pp2_2 (X5.later b92) X6 (X7.later b92) jX5 (lZ kz3.size h) jX7 (Nat.ne_of_lt (lY X5.lt h)) ndX5_X7 (Nat.ne_of_gt (lY X7.lt h)) (bC kz3 b92))
  case' ns3_24 => refine lH ?_
  intro w93 pp2_1 pp2_2 X6 X7 jX6 jX7 ndX6_X7 kz3
  have S := Off.ofB kz3
  refine uY2 (cC 8 S (h4.out _ (ft.later (bC (bC (bC (bA (bA (bA (bA (bA bR _) _) _) _) _) b1) b2) kz3))) fun w94 b94 => s3_28.out w94 pp2_1 pp2_2 (X6.later b94) (X7.later b94) jX6 jX7 ndX6_X7 (bC kz3 b94)) (cA 9 S fun w95 pp2_0 h X5 b95 => s3_29.out w95 pp2_0 pp2_1 pp2_2 X5 (X6.later b95) (X7.later b95) (lZ kz3.size h) jX6 jX7 (Nat.ne_of_gt (lY X6.lt h)) (Nat.ne_of_gt (lY X7.lt h)) ndX6_X7 (bC kz3 b95))
  case' ns3_25 => refine lH ?_
  intro w96 pp2_0 pp2_1 pp2_2 X5 X6 X7 jX5 jX6 jX7 ndX5_X6 ndX5_X7 ndX6_X7 kz3
  have S := Off.ofB kz3
  refine uY1 (cC 5 S (h3.out _ (ft.later (bC (bC (bC (bA (bA (bA (bA (bA bR _) _) _) _) _) b1) b2) kz3))) fun w97 b97 => s3_29.out w97 pp2_0 pp2_1 pp2_2 (X5.later b97) (X6.later b97) (X7.later b97) jX5 jX6 jX7 ndX5_X6 ndX5_X7 ndX6_X7 (bC kz3 b97))
  case' ns3_26 => refine lH ?_
  intro w98 pp2_0 pp2_1 X5 X6 jX5 jX6 ndX5_X6 kz3
  have S := Off.ofB kz3
  refine uY1 (cA 11 S fun w99 pp2_2 h X7 b99 => ?_)
  have ndX5_X7 : ¬ (pp2_0 = pp2_2) := (Nat.ne_of_lt (lY X5.lt h)); have ndX6_X7 : ¬ (pp2_1 = pp2_2) := (Nat.ne_of_lt (lY X6.lt h)); have jX7 := (lZ kz3.size h); replace X5 := (X5.later b99); replace X6 := (X6.later b99); replace kz3 := bC kz3 b99
  clear S b99 h w98
  revert kz3; revert ndX6_X7; revert ndX5_X7; revert ndX5_X6; revert jX7; revert jX6; revert jX5; revert X7; revert X6; revert X5; revert pp2_2; revert pp2_1; revert pp2_0; revert w99
  exact s3_30.out
  case' ns3_27 => refine lH ?_
  intro w100 pp2_0 pp2_2 X5 X7 jX5 jX7 ndX5_X7 kz3
  have S := Off.ofB kz3
  refine uY1 (cA 10 S fun w101 pp2_1 h X6 b101 => s3_30.out w101 pp2_0 pp2_1 pp2_2 (X5.later b101) X6 (X7.later b101) jX5 (lZ kz3.size h) jX7 (Nat.ne_of_lt (lY X5.lt h)) ndX5_X7 (Nat.ne_of_gt (lY X7.lt h)) (bC kz3 b101))
  case' ns3_28 => refine lH ?_
  intro w102 pp2_1 pp2_2 X6 X7 jX6 jX7 ndX6_X7 kz3
  have S := Off.ofB kz3
  refine uY1 (cA 9 S fun w103 pp2_0 h X5 b103 => s3_30.out w103 pp2_0 pp2_1 pp2_2 X5 (X6.later b103) (X7.later b103) (lZ kz3.size h) jX6 jX7 (Nat.ne_of_gt (lY X6.lt h)) (Nat.ne_of_gt (lY X7.lt h)) ndX6_X7 (bC kz3 b103))
  case' ns3_29 => refine lH ?_
  intro w104 pp2_0 pp2_1 pp2_2 X5 X6 X7 jX5 jX6 jX7 ndX5_X6 ndX5_X7 ndX6_X7 kz3
  have S := Off.ofB kz3
  refine uY1 (cC 8 S (h4.out _ (ft.later (bC (bC (bC (bA (bA (bA (bA (bA bR _) _) _) _) _) b1) b2) kz3))) fun w105 b105 => s3_30.out w105 pp2_0 pp2_1 pp2_2 (X5.later b105) (X6.later b105) (X7.later b105) jX5 jX6 jX7 ndX5_X6 ndX5_X7 ndX6_X7 (bC kz3 b105))
  case' ns3_30 => refine lH ?_
  intro w106 pp2_0 pp2_1 pp2_2 X5 X6 X7 jX5 jX6 jX7 ndX5_X6 ndX5_X7 ndX6_X7 kz3
  have S := Off.ofB kz3
  refine uY1 (vO 12 fun K hK => ?_)
  have q := X5.o; have mX6 : ¬ (pp2_1 = pp2_0) := (by omega); have mX7 : ¬ (pp2_2 = pp2_0) := (by omega)
  go_simp
  refine vW (fun W => HB W pp2_0 55 #[.bool sa, .int .u8 ca, .int .i64 ea, .int .u64 xh, .int .u64 xl] ∧ HB W pp2_1 55 #[.bool false, .int .u8 0, .int .i64 0, .int .u64 0, .int .u64 0] ∧ HB W pp2_2 55 #[.bool false, .int .u8 0, .int .i64 0, .int .u64 0, .int .u64 0] ∧ Below w2.heap.size w2 W) ⟨(((((X5.set 0 _).set 1 _).set 2 _).set 3 _).set 4 _), (((((X6.other mX6 0 _).other mX6 1 _).other mX6 2 _).other mX6 3 _).other mX6 4 _), (((((X7.other mX7 0 _).other mX7 1 _).other mX7 2 _).other mX7 3 _).other mX7 4 _), (((((kz3.setCell (p := ⟨pp2_0, 0, none⟩) jX5 _).setCell (p := ⟨pp2_0, 1, none⟩) jX5 _).setCell (p := ⟨pp2_0, 2, none⟩) jX5 _).setCell (p := ⟨pp2_0, 3, none⟩) jX5 _).setCell (p := ⟨pp2_0, 4, none⟩) jX5 _)⟩ fun w108 hz => ?_
  clear q mX6 mX7 X5 X6 X7 S kz3 w106; obtain ⟨X5, X6, X7, kz3⟩ := hz
  refine hK.out _ _ (Off.ofB kz3) fun S => ?_; clear hK K S; refine vP ?_
  revert kz3; revert ndX6_X7; revert ndX5_X7; revert ndX5_X6; revert jX7; revert jX6; revert jX5; revert X7; revert X6; revert X5; revert pp2_2; revert pp2_1; revert pp2_0; revert w108
  exact s3_31.out
  case' ns3_31 => refine lH ?_
  intro w109 pp2_0 pp2_1 pp2_2 X5 X6 X7 jX5 jX6 jX7 ndX5_X6 ndX5_X7 ndX6_X7 kz3
  have S := Off.ofB kz3
  refine uY1 (vO 13 fun K hK => ?_)
  have q := X6.o; have mX5 : ¬ (pp2_0 = pp2_1) := (by omega); have mX7 : ¬ (pp2_2 = pp2_1) := (by omega)
  go_simp
  refine vW (fun W => HB W pp2_0 55 #[.bool sa, .int .u8 ca, .int .i64 ea, .int .u64 xh, .int .u64 xl] ∧ HB W pp2_1 55 #[.bool sb, .int .u8 cb, .int .i64 eb, .int .u64 yh, .int .u64 yl] ∧ HB W pp2_2 55 #[.bool false, .int .u8 0, .int .i64 0, .int .u64 0, .int .u64 0] ∧ Below w2.heap.size w2 W) ⟨(((((X5.other mX5 0 _).other mX5 1 _).other mX5 2 _).other mX5 3 _).other mX5 4 _), (((((X6.set 0 _).set 1 _).set 2 _).set 3 _).set 4 _), (((((X7.other mX7 0 _).other mX7 1 _).other mX7 2 _).other mX7 3 _).other mX7 4 _), (((((kz3.setCell (p := ⟨pp2_1, 0, none⟩) jX6 _).setCell (p := ⟨pp2_1, 1, none⟩) jX6 _).setCell (p := ⟨pp2_1, 2, none⟩) jX6 _).setCell (p := ⟨pp2_1, 3, none⟩) jX6 _).setCell (p := ⟨pp2_1, 4, none⟩) jX6 _)⟩ fun w111 hz => ?_
  clear q mX5 mX7 X5 X6 X7 S kz3 w109; obtain ⟨X5, X6, X7, kz3⟩ := hz
  refine hK.out _ _ (Off.ofB kz3) fun S => ?_; clear hK K S; refine vP ?_
  revert kz3; revert ndX6_X7; revert ndX5_X7; revert ndX5_X6; revert jX7; revert jX6; revert jX5; revert X7; revert X6; revert X5; revert pp2_2; revert pp2_1; revert pp2_0; revert w111
  exact s3_32.out
  case' ns3_32 => refine lH ?_
  intro w112 pp2_0 pp2_1 pp2_2 X5 X6 X7 jX5 jX6 jX7 ndX5_X6 ndX5_X7 ndX6_X7 kz3
  have S := Off.ofB kz3
  refine uY1 (vO 14 fun K hK => ?_)
  have q := X7.o; have mX5 : ¬ (pp2_0 = pp2_2) := (by omega); have mX6 : ¬ (pp2_1 = pp2_2) := (by omega)
  go_simp
  refine vW (fun W => HB W pp2_0 55 #[.bool sa, .int .u8 ca, .int .i64 ea, .int .u64 xh, .int .u64 xl] ∧ HB W pp2_1 55 #[.bool sb, .int .u8 cb, .int .i64 eb, .int .u64 yh, .int .u64 yl] ∧ HB W pp2_2 55 #[.bool sc, .int .u8 kc, .int .i64 ec, .int .u64 zh, .int .u64 zl] ∧ Below w2.heap.size w2 W) ⟨(((((X5.other mX5 0 _).other mX5 1 _).other mX5 2 _).other mX5 3 _).other mX5 4 _), (((((X6.other mX6 0 _).other mX6 1 _).other mX6 2 _).other mX6 3 _).other mX6 4 _), (((((X7.set 0 _).set 1 _).set 2 _).set 3 _).set 4 _), (((((kz3.setCell (p := ⟨pp2_2, 0, none⟩) jX7 _).setCell (p := ⟨pp2_2, 1, none⟩) jX7 _).setCell (p := ⟨pp2_2, 2, none⟩) jX7 _).setCell (p := ⟨pp2_2, 3, none⟩) jX7 _).setCell (p := ⟨pp2_2, 4, none⟩) jX7 _)⟩ fun w114 hz => ?_
  clear q mX5 mX6 X5 X6 X7 S kz3 w112; obtain ⟨X5, X6, X7, kz3⟩ := hz
  refine hK.out _ _ (Off.ofB kz3) fun S => ?_; clear hK K S; refine vP ?_
  revert kz3; revert ndX6_X7; revert ndX5_X7; revert ndX5_X6; revert jX7; revert jX6; revert jX5; revert X7; revert X6; revert X5; revert pp2_2; revert pp2_1; revert pp2_0; revert w114
  exact s3_33.out
  case' ns3_33 => refine lH ?_
  intro w115 pp2_0 pp2_1 pp2_2 X5 X6 X7 jX5 jX6 jX7 ndX5_X6 ndX5_X7 ndX6_X7 kz3
  refine vD ?_
  replace X0 := X0.later b2
  have nX0_X5 : w.heap.size < pp2_0 := by have := X0.lt; omega
  have nX0_X6 : w.heap.size < pp2_1 := by have := X0.lt; omega
  have nX0_X7 : w.heap.size < pp2_2 := by have := X0.lt; omega
  have nX1_X5 : w.heap.size + 1 < pp2_0 := by have := X1.lt; omega
  have nX1_X6 : w.heap.size + 1 < pp2_1 := by have := X1.lt; omega
  have nX1_X7 : w.heap.size + 1 < pp2_2 := by have := X1.lt; omega
  have nX2_X5 : w.heap.size + 1 + 1 < pp2_0 := by have := X2.lt; omega
  have nX2_X6 : w.heap.size + 1 + 1 < pp2_1 := by have := X2.lt; omega
  have nX2_X7 : w.heap.size + 1 + 1 < pp2_2 := by have := X2.lt; omega
  have nX3_X5 : w.heap.size + 1 + 1 + 1 < pp2_0 := by have := X3.lt; omega
  have nX3_X6 : w.heap.size + 1 + 1 + 1 < pp2_1 := by have := X3.lt; omega
  have nX3_X7 : w.heap.size + 1 + 1 + 1 < pp2_2 := by have := X3.lt; omega
  replace X4 := X4.later b2
  have nX4_X5 : w.heap.size + 1 + 1 + 1 + 1 < pp2_0 := by have := X4.lt; omega
  have nX4_X6 : w.heap.size + 1 + 1 + 1 + 1 < pp2_1 := by have := X4.lt; omega
  have nX4_X7 : w.heap.size + 1 + 1 + 1 + 1 < pp2_2 := by have := X4.lt; omega
  have gX5 : w.heap.size ≤ pp2_0 := by have := (bC (bC (bA (bA (bA (bA (bA bR _) _) _) _) _) b1) b2).size; omega
  have gX6 : w.heap.size ≤ pp2_1 := by have := (bC (bC (bA (bA (bA (bA (bA bR _) _) _) _) _) b1) b2).size; omega
  have gX7 : w.heap.size ≤ pp2_2 := by have := (bC (bC (bA (bA (bA (bA (bA bR _) _) _) _) _) b1) b2).size; omega
  go_wp2_with fail
  replace X1 := X1.later kz3
  replace X2 := X2.later kz3
  replace X3 := X3.later kz3
  refine' (have s116_9 : Hid (_ : Prop) := ?ns116_9; ?ms116_9)
  case' ms116_9 => skip
  refine' (have s116_8 : Hid (_ : Prop) := ?ns116_8; ?ms116_8)
  case' ms116_8 => skip
  refine' (have s116_7 : Hid (_ : Prop) := ?ns116_7; ?ms116_7)
  case' ms116_7 => skip
  refine' (have s116_6 : Hid (_ : Prop) := ?ns116_6; ?ms116_6)
  case' ms116_6 => skip
  refine' (have s116_5 : Hid (_ : Prop) := ?ns116_5; ?ms116_5)
  case' ms116_5 => skip
  refine' (have s116_4 : Hid (_ : Prop) := ?ns116_4; ?ms116_4)
  case' ms116_4 => skip
  refine' (have s116_3 : Hid (_ : Prop) := ?ns116_3; ?ms116_3)
  case' ms116_3 => skip
  refine' (have s116_2 : Hid (_ : Prop) := ?ns116_2; ?ms116_2)
  case' ms116_2 => skip
  refine' (have s116_1 : Hid (_ : Prop) := ?ns116_1; ?ms116_1)
  case' ms116_1 => skip
  refine' (have s116_0 : Hid (_ : Prop) := ?ns116_0; ?ms116_0)
  case' ms116_0 => skip
  refine vR [] fun w116 kz116 S => ?_
  refine uT 0 S ?_
  refine uT 1 S ?_ (hy := by intro wq hb; have q := (hb.hb X5 (by simp)).o; go_simp; try (with_reducible rfl))
  refine uT 2 S ?_ (hy := by intro wq hb; have q := (hb.hb X6 (by simp)).o; go_simp; try (with_reducible rfl))
  refine uT 4 S ?_ (hy := by intro wq hb; have q := (hb.hb X1 (by simp)).o; go_simp; try (with_reducible rfl))
  refine uT 5 S ?_ (hy := by intro wq hb; have q := (hb.hb X2 (by simp)).o; go_simp; try (with_reducible rfl))
  refine uT 6 S ?_ (hy := by intro wq hb; have q := (hb.hb X3 (by simp)).o; go_simp; try (with_reducible rfl))
  refine uY3 (cC 3 S (h5.out _) fun w117 b117 => ?_) (cB (n := 3) 7 S fun w118 pp115_0 h X8 b118 => ?_) (cA 12 S fun w119 pp115_1 h X9 b119 => ?_)
  replace kz116 := bC kz116 b117
  clear S b117 w116
  revert kz116; revert w117
  exact s116_0.out
  have jX8 := (lZ kz116.size h); replace kz116 := bC kz116 b118
  clear S b118 h w116
  revert kz116; revert jX8; revert X8; revert pp115_0; revert w118
  exact s116_1.out
  have jX9 := (lZ kz116.size h); replace kz116 := bC kz116 b119
  clear S b119 h w116
  revert kz116; revert jX9; revert X9; revert pp115_1; revert w119
  exact s116_2.out
  case' ns116_0 => refine lH ?_
  intro w120 kz116
  have S := Off.ofB kz116
  refine uY2 (cB (n := 3) 7 S fun w121 pp115_0 h X8 b121 => ?_) (cA 12 S fun w122 pp115_1 h X9 b122 => ?_)
  have jX8 := (lZ kz116.size h); replace kz116 := bC kz116 b121
  clear S b121 h w120
  revert kz116; revert jX8; revert X8; revert pp115_0; revert w121
  exact s116_3.out
  have jX9 := (lZ kz116.size h); replace kz116 := bC kz116 b122
  clear S b122 h w120
  revert kz116; revert jX9; revert X9; revert pp115_1; revert w122
  exact s116_4.out
  case' ns116_1 => refine lH ?_
  intro w123 pp115_0 X8 jX8 kz116
  have S := Off.ofB kz116
  refine uY2 (cC 3 S (h5.out _) fun w124 b124 => s116_3.out w124 pp115_0 (X8.later b124) jX8 (bC kz116 b124)) (cA 12 S fun w125 pp115_1 h X9 b125 => ?_)
  have ndX8_X9 : ¬ (pp115_0 = pp115_1) := (Nat.ne_of_lt (lY X8.lt h)); have jX9 := (lZ kz116.size h); replace X8 := (X8.later b125); replace kz116 := bC kz116 b125
  clear S b125 h w123
  revert kz116; revert ndX8_X9; revert jX9; revert jX8; revert X9; revert X8; revert pp115_1; revert pp115_0; revert w125
  exact s116_5.out
  case' ns116_2 => refine lH ?_
  intro w126 pp115_1 X9 jX9 kz116
  have S := Off.ofB kz116
  refine uY2 (cC 3 S (h5.out _) fun w127 b127 => s116_4.out w127 pp115_1 (X9.later b127) jX9 (bC kz116 b127)) (cB (n := 3) 7 S fun w128 pp115_0 h X8 b128 => s116_5.out w128 pp115_0 pp115_1 X8 (X9.later b128) (lZ kz116.size h) jX9 (Nat.ne_of_gt (lY X9.lt h)) (bC kz116 b128))
  case' ns116_3 => refine lH ?_
  intro w129 pp115_0 X8 jX8 kz116
  have S := Off.ofB kz116
  refine uY2 (cC 8 S (PK.out _ (ft.later (bC (bC (bC (bC (bA (bA (bA (bA (bA bR _) _) _) _) _) b1) b2) kz3) kz116)) _ _ X8) fun w130 b130 => ?_) (cA 12 S fun w131 pp115_1 h X9 b131 => ?_)
  replace X8 := (X8.later b130); replace kz116 := bC kz116 b130
  refine uT 9 (Off.ofB kz116) ?_
  refine uT 10 (Off.ofB kz116) ?_
  refine uT 11 (Off.ofB kz116) ?_
  clear S b130 w129
  revert kz116; revert jX8; revert X8; revert pp115_0; revert w130
  exact s116_6.out
  have ndX8_X9 : ¬ (pp115_0 = pp115_1) := (Nat.ne_of_lt (lY X8.lt h)); have jX9 := (lZ kz116.size h); replace X8 := (X8.later b131); replace kz116 := bC kz116 b131
  clear S b131 h w129
  revert kz116; revert ndX8_X9; revert jX9; revert jX8; revert X9; revert X8; revert pp115_1; revert pp115_0; revert w131
  exact s116_7.out
  case' ns116_4 => refine lH ?_
  intro w132 pp115_1 X9 jX9 kz116
  have S := Off.ofB kz116
  refine uY1 (cB (n := 3) 7 S fun w133 pp115_0 h X8 b133 => s116_7.out w133 pp115_0 pp115_1 X8 (X9.later b133) (lZ kz116.size h) jX9 (Nat.ne_of_gt (lY X9.lt h)) (bC kz116 b133))
  case' ns116_5 => refine lH ?_
  intro w134 pp115_0 pp115_1 X8 X9 jX8 jX9 ndX8_X9 kz116
  have S := Off.ofB kz116
  refine uY1 (cC 3 S (h5.out _) fun w135 b135 => s116_7.out w135 pp115_0 pp115_1 (X8.later b135) (X9.later b135) jX8 jX9 ndX8_X9 (bC kz116 b135))
  case' ns116_6 => refine lH ?_
  intro w136 pp115_0 X8 jX8 kz116
  have S := Off.ofB kz116
  refine uY1 (cA 12 S fun w137 pp115_1 h X9 b137 => ?_)
  have ndX8_X9 : ¬ (pp115_0 = pp115_1) := (Nat.ne_of_lt (lY X8.lt h)); have jX9 := (lZ kz116.size h); replace X8 := (X8.later b137); replace kz116 := bC kz116 b137
  clear S b137 h w136
  revert kz116; revert ndX8_X9; revert jX9; revert jX8; revert X9; revert X8; revert pp115_1; revert pp115_0; revert w137
  exact s116_8.out
  case' ns116_7 => refine lH ?_
  intro w138 pp115_0 pp115_1 X8 X9 jX8 jX9 ndX8_X9 kz116
  have S := Off.ofB kz116
  refine uY1 (cC 8 S (PK.out _ (ft.later (bC (bC (bC (bC (bA (bA (bA (bA (bA bR _) _) _) _) _) b1) b2) kz3) kz116)) _ _ X8) fun w139 b139 => ?_)
  replace X8 := (X8.later b139); replace X9 := (X9.later b139); replace kz116 := bC kz116 b139
  refine uT 9 (Off.ofB kz116) ?_
  refine uT 10 (Off.ofB kz116) ?_
  refine uT 11 (Off.ofB kz116) ?_
  clear S b139 w138
  revert kz116; revert ndX8_X9; revert jX9; revert jX8; revert X9; revert X8; revert pp115_1; revert pp115_0; revert w139
  exact s116_8.out
  case' ns116_8 => refine lH ?_
  intro w140 pp115_0 pp115_1 X8 X9 jX8 jX9 ndX8_X9 kz116
  have S := Off.ofB kz116
  refine uY1 (vO 13 fun K hK => ?_)
  have q := X9.o; have mX8 : ¬ (pp115_0 = pp115_1) := (by omega)
  go_simp
  refine vW (fun W => HB W pp115_0 28 #[.int .u64 ah, .int .u64 al, .int .u64 bh, .int .u64 bl, .int .u64 ch, .int .u64 cl] ∧ HB W pp115_1 31 #[.int .u64 qh, .int .u64 ql, .int .u8 qf] ∧ Below w115.heap.size w115 W) ⟨(((X8.other mX8 0 _).other mX8 1 _).other mX8 2 _), (((X9.set 0 _).set 1 _).set 2 _), (((kz116.setCell (p := ⟨pp115_1, 0, none⟩) jX9 _).setCell (p := ⟨pp115_1, 1, none⟩) jX9 _).setCell (p := ⟨pp115_1, 2, none⟩) jX9 _)⟩ fun w142 hz => ?_
  clear q mX8 X8 X9 S kz116 w140; obtain ⟨X8, X9, kz116⟩ := hz
  refine hK.out _ _ (Off.ofB kz116) fun S => ?_; clear hK K S; refine vP ?_
  refine uT 14 (Off.ofB kz116) ?_
  revert kz116; revert ndX8_X9; revert jX9; revert jX8; revert X9; revert X8; revert pp115_1; revert pp115_0; revert w142
  exact s116_9.out
  case' ns116_9 => refine lH ?_
  intro w143 pp115_0 pp115_1 X8 X9 jX8 jX9 ndX8_X9 kz116
  refine vD ?_
  replace X0 := X0.later kz3
  have nX0_X9 : w.heap.size < pp115_1 := by have := X0.lt; omega
  have nX1_X9 : w.heap.size + 1 < pp115_1 := by have := X1.lt; omega
  have nX2_X9 : w.heap.size + 1 + 1 < pp115_1 := by have := X2.lt; omega
  have nX3_X9 : w.heap.size + 1 + 1 + 1 < pp115_1 := by have := X3.lt; omega
  replace X4 := X4.later kz3
  have nX4_X9 : w.heap.size + 1 + 1 + 1 + 1 < pp115_1 := by have := X4.lt; omega
  have nX5_X9 : pp2_0 < pp115_1 := by have := X5.lt; omega
  have nX6_X9 : pp2_1 < pp115_1 := by have := X6.lt; omega
  have nX7_X9 : pp2_2 < pp115_1 := by have := X7.lt; omega
  have gX8 : w.heap.size ≤ pp115_0 := by have := (bC (bC (bC (bA (bA (bA (bA (bA bR _) _) _) _) _) b1) b2) kz3).size; omega
  have gX9 : w.heap.size ≤ pp115_1 := by have := (bC (bC (bC (bA (bA (bA (bA (bA bR _) _) _) _) _) b1) b2) kz3).size; omega
  rcases HH with rfl | ⟨rfl, P2, h7, h8, HH2⟩
  · have oX9 := X9.o
    replace X4 := X4.later kz116
    have oX4 := X4.o
    have mX9_X4 : ¬ (pp115_1 = w.heap.size + 1 + 1 + 1 + 1) := by omega
    have mX4_X9 : ¬ (w.heap.size + 1 + 1 + 1 + 1 = pp115_1) := by omega
    replace X0 := X0.later kz116
    replace X1 := X1.later kz116
    replace X2 := X2.later kz116
    replace X3 := X3.later kz116
    replace X7 := X7.later kz116
    go_wp2_with fail
    refine bodyPost_ret (v := .agg #[.int .u64 qh, .int .u64 ql, .int .u8 qf]) ?_ rfl ⟨rfl, ((((bC (bC (bC (bC (bA (bA (bA (bA (bA bR _) _) _) _) _) b1) b2) kz3) kz116).setCell (p := ⟨w.heap.size + 1 + 1 + 1 + 1, 0, none⟩) gX4 _).setCell (p := ⟨w.heap.size + 1 + 1 + 1 + 1, 1, none⟩) gX4 _).setCell (p := ⟨w.heap.size + 1 + 1 + 1 + 1, 2, none⟩) gX4 _)⟩
    simp [results, Tryz.results17, go_sem, oX4, mX9_X4, mX4_X9]
  · replace X5 := X5.later kz116
    have oX5 := X5.o
    replace X6 := X6.later kz116
    have oX6 := X6.o
    go_wp2_with fail
    refine vM (h7.out _) fun w144 b144 => ?_
    clear oX5 oX6
    go_wp2_with fail
    replace X4 := X4.later (bC kz116 b144)
    have nX4_X10 : w.heap.size + 1 + 1 + 1 + 1 < w144.heap.size := by have := X4.lt; omega
    replace X7 := X7.later (bC kz116 b144)
    have nX7_X10 : pp2_2 < w144.heap.size := by have := X7.lt; omega
    refine vF1 fun w145 b145 X10 => ?_
    replace X1 := X1.later (bC (bC kz116 b144) b145)
    replace X2 := X2.later (bC (bC kz116 b144) b145)
    replace X3 := X3.later (bC (bC kz116 b144) b145)
    replace X7 := X7.later b145
    refine' (have s146z_9 : Hid (_ : Prop) := ?ns146z_9; ?ms146z_9)
    case' ms146z_9 => skip
    refine' (have s146z_8 : Hid (_ : Prop) := ?ns146z_8; ?ms146z_8)
    case' ms146z_8 => skip
    refine' (have s146z_7 : Hid (_ : Prop) := ?ns146z_7; ?ms146z_7)
    case' ms146z_7 => skip
    refine' (have s146z_6 : Hid (_ : Prop) := ?ns146z_6; ?ms146z_6)
    case' ms146z_6 => skip
    refine' (have s146z_5 : Hid (_ : Prop) := ?ns146z_5; ?ms146z_5)
    case' ms146z_5 => skip
    refine' (have s146z_4 : Hid (_ : Prop) := ?ns146z_4; ?ms146z_4)
    case' ms146z_4 => skip
    refine' (have s146z_3 : Hid (_ : Prop) := ?ns146z_3; ?ms146z_3)
    case' ms146z_3 => skip
    refine' (have s146z_2 : Hid (_ : Prop) := ?ns146z_2; ?ms146z_2)
    case' ms146z_2 => skip
    refine' (have s146z_1 : Hid (_ : Prop) := ?ns146z_1; ?ms146z_1)
    case' ms146z_1 => skip
    refine' (have s146z_0 : Hid (_ : Prop) := ?ns146z_0; ?ms146z_0)
    case' ms146z_0 => skip
    refine vR [] fun w146 kz146 S => ?_
    refine uT 0 S ?_
    refine uT 1 S ?_ (hy := by intro wq hb; have q := (hb.hb X10 (by simp)).o; go_simp; try (with_reducible rfl))
    refine uT 2 S ?_ (hy := by intro wq hb; have q := (hb.hb X7 (by simp)).o; go_simp; try (with_reducible rfl))
    refine uT 4 S ?_ (hy := by intro wq hb; have q := (hb.hb X1 (by simp)).o; go_simp; try (with_reducible rfl))
    refine uT 5 S ?_ (hy := by intro wq hb; have q := (hb.hb X2 (by simp)).o; go_simp; try (with_reducible rfl))
    refine uT 6 S ?_ (hy := by intro wq hb; have q := (hb.hb X3 (by simp)).o; go_simp; try (with_reducible rfl))
    refine uY3 (cC 3 S (h8.out _) fun w147 b147 => ?_) (cB (n := 3) 7 S fun w148 pp145_0 h X11 b148 => ?_) (cA 12 S fun w149 pp145_1 h X12 b149 => ?_)
    replace kz146 := bC kz146 b147
    clear S b147 w146
    revert kz146; revert w147
    exact s146z_0.out
    have jX11 := (lZ kz146.size h); replace kz146 := bC kz146 b148
    clear S b148 h w146
    revert kz146; revert jX11; revert X11; revert pp145_0; revert w148
    exact s146z_1.out
    have jX12 := (lZ kz146.size h); replace kz146 := bC kz146 b149
    clear S b149 h w146
    revert kz146; revert jX12; revert X12; revert pp145_1; revert w149
    exact s146z_2.out
    case' ns146z_0 => refine lH ?_
    intro w150 kz146
    have S := Off.ofB kz146
    refine uY2 (cB (n := 3) 7 S fun w151 pp145_0 h X11 b151 => ?_) (cA 12 S fun w152 pp145_1 h X12 b152 => ?_)
    have jX11 := (lZ kz146.size h); replace kz146 := bC kz146 b151
    clear S b151 h w150
    revert kz146; revert jX11; revert X11; revert pp145_0; revert w151
    exact s146z_3.out
    have jX12 := (lZ kz146.size h); replace kz146 := bC kz146 b152
    clear S b152 h w150
    revert kz146; revert jX12; revert X12; revert pp145_1; revert w152
    exact s146z_4.out
    case' ns146z_1 => refine lH ?_
    intro w153 pp145_0 X11 jX11 kz146
    have S := Off.ofB kz146
    refine uY2 (cC 3 S (h8.out _) fun w154 b154 => s146z_3.out w154 pp145_0 (X11.later b154) jX11 (bC kz146 b154)) (cA 12 S fun w155 pp145_1 h X12 b155 => ?_)
    have ndX11_X12 : ¬ (pp145_0 = pp145_1) := (Nat.ne_of_lt (lY X11.lt h)); have jX12 := (lZ kz146.size h); replace X11 := (X11.later b155); replace kz146 := bC kz146 b155
    clear S b155 h w153
    revert kz146; revert ndX11_X12; revert jX12; revert jX11; revert X12; revert X11; revert pp145_1; revert pp145_0; revert w155
    exact s146z_5.out
    case' ns146z_2 => refine lH ?_
    intro w156 pp145_1 X12 jX12 kz146
    have S := Off.ofB kz146
    refine uY2 (cC 3 S (h8.out _) fun w157 b157 => s146z_4.out w157 pp145_1 (X12.later b157) jX12 (bC kz146 b157)) (cB (n := 3) 7 S fun w158 pp145_0 h X11 b158 => s146z_5.out w158 pp145_0 pp145_1 X11 (X12.later b158) (lZ kz146.size h) jX12 (Nat.ne_of_gt (lY X12.lt h)) (bC kz146 b158))
    case' ns146z_3 => refine lH ?_
    intro w159 pp145_0 X11 jX11 kz146
    have S := Off.ofB kz146
    refine uY2 (cC 8 S (P2.out _ (ft.later (bC (bC (bC (bC (bC (bC (bC (bA (bA (bA (bA (bA bR _) _) _) _) _) b1) b2) kz3) kz116) b144) b145) kz146)) _ _ X11) fun w160 b160 => ?_) (cA 12 S fun w161 pp145_1 h X12 b161 => ?_)
    replace X11 := (X11.later b160); replace kz146 := bC kz146 b160
    refine uT 9 (Off.ofB kz146) ?_
    refine uT 10 (Off.ofB kz146) ?_
    refine uT 11 (Off.ofB kz146) ?_
    clear S b160 w159
    revert kz146; revert jX11; revert X11; revert pp145_0; revert w160
    exact s146z_6.out
    have ndX11_X12 : ¬ (pp145_0 = pp145_1) := (Nat.ne_of_lt (lY X11.lt h)); have jX12 := (lZ kz146.size h); replace X11 := (X11.later b161); replace kz146 := bC kz146 b161
    clear S b161 h w159
    revert kz146; revert ndX11_X12; revert jX12; revert jX11; revert X12; revert X11; revert pp145_1; revert pp145_0; revert w161
    exact s146z_7.out
    case' ns146z_4 => refine lH ?_
    intro w162 pp145_1 X12 jX12 kz146
    have S := Off.ofB kz146
    refine uY1 (cB (n := 3) 7 S fun w163 pp145_0 h X11 b163 => s146z_7.out w163 pp145_0 pp145_1 X11 (X12.later b163) (lZ kz146.size h) jX12 (Nat.ne_of_gt (lY X12.lt h)) (bC kz146 b163))
    case' ns146z_5 => refine lH ?_
    intro w164 pp145_0 pp145_1 X11 X12 jX11 jX12 ndX11_X12 kz146
    have S := Off.ofB kz146
    refine uY1 (cC 3 S (h8.out _) fun w165 b165 => s146z_7.out w165 pp145_0 pp145_1 (X11.later b165) (X12.later b165) jX11 jX12 ndX11_X12 (bC kz146 b165))
    case' ns146z_6 => refine lH ?_
    intro w166 pp145_0 X11 jX11 kz146
    have S := Off.ofB kz146
    refine uY1 (cA 12 S fun w167 pp145_1 h X12 b167 => ?_)
    have ndX11_X12 : ¬ (pp145_0 = pp145_1) := (Nat.ne_of_lt (lY X11.lt h)); have jX12 := (lZ kz146.size h); replace X11 := (X11.later b167); replace kz146 := bC kz146 b167
    clear S b167 h w166
    revert kz146; revert ndX11_X12; revert jX12; revert jX11; revert X12; revert X11; revert pp145_1; revert pp145_0; revert w167
    exact s146z_8.out
    case' ns146z_7 => refine lH ?_
    intro w168 pp145_0 pp145_1 X11 X12 jX11 jX12 ndX11_X12 kz146
    have S := Off.ofB kz146
    refine uY1 (cC 8 S (P2.out _ (ft.later (bC (bC (bC (bC (bC (bC (bC (bA (bA (bA (bA (bA bR _) _) _) _) _) b1) b2) kz3) kz116) b144) b145) kz146)) _ _ X11) fun w169 b169 => ?_)
    replace X11 := (X11.later b169); replace X12 := (X12.later b169); replace kz146 := bC kz146 b169
    refine uT 9 (Off.ofB kz146) ?_
    refine uT 10 (Off.ofB kz146) ?_
    refine uT 11 (Off.ofB kz146) ?_
    clear S b169 w168
    revert kz146; revert ndX11_X12; revert jX12; revert jX11; revert X12; revert X11; revert pp145_1; revert pp145_0; revert w169
    exact s146z_8.out
    case' ns146z_8 => refine lH ?_
    intro w170 pp145_0 pp145_1 X11 X12 jX11 jX12 ndX11_X12 kz146
    have S := Off.ofB kz146
    refine uY1 (vO 13 fun K hK => ?_)
    have q := X12.o; have mX11 : ¬ (pp145_0 = pp145_1) := (by omega)
    go_simp
    refine vW (fun W => HB W pp145_0 28 #[.int .u64 ah, .int .u64 al, .int .u64 bh, .int .u64 bl, .int .u64 ch, .int .u64 cl] ∧ HB W pp145_1 31 #[.int .u64 uh, .int .u64 ul, .int .u8 uf] ∧ Below w145.heap.size w145 W) ⟨(((X11.other mX11 0 _).other mX11 1 _).other mX11 2 _), (((X12.set 0 _).set 1 _).set 2 _), (((kz146.setCell (p := ⟨pp145_1, 0, none⟩) jX12 _).setCell (p := ⟨pp145_1, 1, none⟩) jX12 _).setCell (p := ⟨pp145_1, 2, none⟩) jX12 _)⟩ fun w172 hz => ?_
    clear q mX11 X11 X12 S kz146 w170; obtain ⟨X11, X12, kz146⟩ := hz
    refine hK.out _ _ (Off.ofB kz146) fun S => ?_; clear hK K S; refine vP ?_
    refine uT 14 (Off.ofB kz146) ?_
    revert kz146; revert ndX11_X12; revert jX12; revert jX11; revert X12; revert X11; revert pp145_1; revert pp145_0; revert w172
    exact s146z_9.out
    case' ns146z_9 => refine lH ?_
    intro w173 pp145_0 pp145_1 X11 X12 jX11 jX12 ndX11_X12 kz146
    refine vD ?_
    replace X0 := X0.later (bC (bC kz116 b144) b145)
    have nX0_X12 : w.heap.size < pp145_1 := by have := X0.lt; omega
    replace X4 := X4.later b145
    have nX4_X12 : w.heap.size + 1 + 1 + 1 + 1 < pp145_1 := by have := X4.lt; omega
    have nX7_X12 : pp2_2 < pp145_1 := by have := X7.lt; omega
    have nX10_X12 : w144.heap.size < pp145_1 := by have := X10.lt; omega
    have gX11 : w.heap.size ≤ pp145_0 := by have := (bC (bC (bC (bC (bC (bC (bA (bA (bA (bA (bA bR _) _) _) _) _) b1) b2) kz3) kz116) b144) b145).size; omega
    have gX12 : w.heap.size ≤ pp145_1 := by have := (bC (bC (bC (bC (bC (bC (bA (bA (bA (bA (bA bR _) _) _) _) _) b1) b2) kz3) kz116) b144) b145).size; omega
    rcases HH2 with rfl | ⟨rfl, rfl, rfl, h10⟩ | ⟨rfl, rfl, rfl, IZ, h11⟩ | ⟨rfl, rfl, IZ, h11, h12, h13, h14⟩ | ⟨rfl, rfl, IZ, h11, h12, h13⟩
    · have oX12 := X12.o
      replace X4 := X4.later kz146
      have oX4 := X4.o
      have mX12_X4 : ¬ (pp145_1 = w.heap.size + 1 + 1 + 1 + 1) := by omega
      have mX4_X12 : ¬ (w.heap.size + 1 + 1 + 1 + 1 = pp145_1) := by omega
      replace X0 := X0.later kz146
      replace X7 := X7.later kz146
      replace X10 := X10.later kz146
      go_wp2_with fail
      refine bodyPost_ret (v := .agg #[.int .u64 uh, .int .u64 ul, .int .u8 uf]) ?_ rfl ⟨rfl, ((((bC (bC (bC (bC (bC (bC (bC (bA (bA (bA (bA (bA bR _) _) _) _) _) b1) b2) kz3) kz116) b144) b145) kz146).setCell (p := ⟨w.heap.size + 1 + 1 + 1 + 1, 0, none⟩) gX4 _).setCell (p := ⟨w.heap.size + 1 + 1 + 1 + 1, 1, none⟩) gX4 _).setCell (p := ⟨w.heap.size + 1 + 1 + 1 + 1, 2, none⟩) gX4 _)⟩
      simp [results, Tryz.results17, go_sem, oX4, mX12_X4, mX4_X12]
    · replace X10 := X10.later kz146
      have oX10 := X10.o
      go_wp2_with fail
      refine vM (h10.out _ (ft.later (bC (bC (bC (bC (bC (bC (bC (bA (bA (bA (bA (bA bR _) _) _) _) _) b1) b2) kz3) kz116) b144) b145) kz146))) fun w174 b174 => ?_
      clear oX10
      replace X4 := X4.later (bC kz146 b174)
      have oX4 := X4.o
      replace X0 := X0.later (bC kz146 b174)
      replace X7 := X7.later (bC kz146 b174)
      replace X10 := X10.later b174
      go_wp2_with fail
      refine bodyPost_ret (v := .agg #[.int .u64 rh, .int .u64 rl, .int .u8 0]) ?_ rfl ⟨rfl, ((((bC (bC (bC (bC (bC (bC (bC (bC (bA (bA (bA (bA (bA bR _) _) _) _) _) b1) b2) kz3) kz116) b144) b145) kz146) b174).setCell (p := ⟨w.heap.size + 1 + 1 + 1 + 1, 0, none⟩) gX4 _).setCell (p := ⟨w.heap.size + 1 + 1 + 1 + 1, 1, none⟩) gX4 _).setCell (p := ⟨w.heap.size + 1 + 1 + 1 + 1, 2, none⟩) gX4 _)⟩
      simp [results, Tryz.results17, go_sem, oX4]
    · replace X10 := X10.later kz146
      have oX10 := X10.o
      replace X7 := X7.later kz146
      have oX7 := X7.o
      go_wp2_with fail
      refine vM (IZ.out _ _ _ (HB.newAt (b := w173.heap.size) (by simp) _ _)) fun w174 b174 => ?_
      clear oX10 oX7
      replace X7 := X7.later (bC (bA bR _) b174)
      have oX7 := X7.o
      go_wp2_with fail
      refine vM (h11.out _ (ft.later (bC (bC (bC (bC (bC (bC (bC (bC (bA (bA (bA (bA (bA bR _) _) _) _) _) b1) b2) kz3) kz116) b144) b145) kz146) (bC (bA bR _) b174)))) fun w175 b175 => ?_
      clear oX7
      replace X4 := X4.later (bC (bC kz146 (bC (bA bR _) b174)) b175)
      have oX4 := X4.o
      replace X0 := X0.later (bC (bC kz146 (bC (bA bR _) b174)) b175)
      replace X7 := X7.later b175
      replace X10 := X10.later (bC (bC (bA bR _) b174) b175)
      go_wp2_with fail
      refine bodyPost_ret (v := .agg #[.int .u64 rh, .int .u64 rl, .int .u8 0]) ?_ rfl ⟨rfl, ((((bC (bC (bC (bC (bC (bC (bC (bC (bC (bA (bA (bA (bA (bA bR _) _) _) _) _) b1) b2) kz3) kz116) b144) b145) kz146) (bC (bA bR _) b174)) b175).setCell (p := ⟨w.heap.size + 1 + 1 + 1 + 1, 0, none⟩) gX4 _).setCell (p := ⟨w.heap.size + 1 + 1 + 1 + 1, 1, none⟩) gX4 _).setCell (p := ⟨w.heap.size + 1 + 1 + 1 + 1, 2, none⟩) gX4 _)⟩
      simp [results, Tryz.results17, go_sem, oX4]
    · replace X10 := X10.later kz146
      have oX10 := X10.o
      replace X7 := X7.later kz146
      have oX7 := X7.o
      go_wp2_with fail
      refine vM (IZ.out _ _ _ (HB.newAt (b := w173.heap.size) (by simp) _ _)) fun w174 b174 => ?_
      clear oX10 oX7
      replace X10 := X10.later (bC (bA bR _) b174)
      have oX10 := X10.o
      replace X7 := X7.later (bC (bA bR _) b174)
      have oX7 := X7.o
      go_wp2_with fail
      refine vM (h11.out _) fun w175 b175 => ?_
      clear oX10 oX7
      go_wp2_with fail
      refine vM (h12.out _) fun w176 b176 => ?_
      replace X4 := X4.later (bC (bC kz146 (bC (bA bR _) b174)) b175)
      have nX4_X14 : w.heap.size + 1 + 1 + 1 + 1 < w175.heap.size := by have := X4.lt; omega
      replace X7 := X7.later b175
      have nX7_X14 : pp2_2 < w175.heap.size := by have := X7.lt; omega
      have X14 := (HB.newAt (b := w175.heap.size) (by simp) _ _).later b176
      replace X0 := X0.later (bC (bC (bC kz146 (bC (bA bR _) b174)) b175) (bC (bA bR _) b176))
      have oX0 := X0.o
      replace X10 := X10.later (bC b175 (bC (bA bR _) b176))
      have oX10 := X10.o
      replace X7 := X7.later (bC (bA bR _) b176)
      have oX7 := X7.o
      go_wp2_with fail
      refine vM (h13.out _) fun w177 b177 => ?_
      clear oX0 oX10 oX7
      replace X0 := X0.later b177
      have oX0 := X0.o
      replace X14 := X14.later b177
      have oX14 := X14.o
      go_wp2_with fail
      refine vM (h14.out _ (ft.later (bC (bC (bC (bC (bC (bC (bC (bC (bC (bC (bC (bA (bA (bA (bA (bA bR _) _) _) _) _) b1) b2) kz3) kz116) b144) b145) kz146) (bC (bA bR _) b174)) b175) (bC (bA bR _) b176)) b177))) fun w178 b178 => ?_
      clear oX0 oX14
      replace X4 := X4.later (bC (bC (bC (bA bR _) b176) b177) b178)
      have oX4 := X4.o
      go_wp2_with fail
      refine bodyPost_ret (v := .agg #[.int .u64 rh, .int .u64 rl, .int .u8 fl]) ?_ rfl ⟨rfl, ((((bC (bC (bC (bC (bC (bC (bC (bC (bC (bC (bC (bC (bA (bA (bA (bA (bA bR _) _) _) _) _) b1) b2) kz3) kz116) b144) b145) kz146) (bC (bA bR _) b174)) b175) (bC (bA bR _) b176)) b177) b178).setCell (p := ⟨w.heap.size + 1 + 1 + 1 + 1, 0, none⟩) gX4 _).setCell (p := ⟨w.heap.size + 1 + 1 + 1 + 1, 1, none⟩) gX4 _).setCell (p := ⟨w.heap.size + 1 + 1 + 1 + 1, 2, none⟩) gX4 _)⟩
      simp [results, Tryz.results17, go_sem, oX4]
    · replace X10 := X10.later kz146
      have oX10 := X10.o
      replace X7 := X7.later kz146
      have oX7 := X7.o
      go_wp2_with fail
      refine vM (IZ.out _ _ _ (HB.newAt (b := w173.heap.size) (by simp) _ _)) fun w174 b174 => ?_
      clear oX10 oX7
      replace X10 := X10.later (bC (bA bR _) b174)
      have oX10 := X10.o
      replace X7 := X7.later (bC (bA bR _) b174)
      have oX7 := X7.o
      go_wp2_with fail
      refine vM (h11.out _) fun w175 b175 => ?_
      clear oX10 oX7
      go_wp2_with fail
      refine vM (h12.out _) fun w176 b176 => ?_
      replace X4 := X4.later (bC (bC kz146 (bC (bA bR _) b174)) b175)
      have nX4_X14 : w.heap.size + 1 + 1 + 1 + 1 < w175.heap.size := by have := X4.lt; omega
      replace X7 := X7.later b175
      have nX7_X14 : pp2_2 < w175.heap.size := by have := X7.lt; omega
      have X14 := (HB.newAt (b := w175.heap.size) (by simp) _ _).later b176
      replace X0 := X0.later (bC (bC (bC kz146 (bC (bA bR _) b174)) b175) (bC (bA bR _) b176))
      have oX0 := X0.o
      have oX14 := X14.o
      go_wp2_with fail
      refine vM (h13.out _ (ft.later (bC (bC (bC (bC (bC (bC (bC (bC (bC (bC (bA (bA (bA (bA (bA bR _) _) _) _) _) b1) b2) kz3) kz116) b144) b145) kz146) (bC (bA bR _) b174)) b175) (bC (bA bR _) b176)))) fun w177 b177 => ?_
      clear oX0 oX14
      replace X4 := X4.later (bC (bC (bA bR _) b176) b177)
      have oX4 := X4.o
      replace X14 := X14.later b177
      go_wp2_with fail
      refine bodyPost_ret (v := .agg #[.int .u64 rh, .int .u64 rl, .int .u8 fl]) ?_ rfl ⟨rfl, ((((bC (bC (bC (bC (bC (bC (bC (bC (bC (bC (bC (bA (bA (bA (bA (bA bR _) _) _) _) _) b1) b2) kz3) kz116) b144) b145) kz146) (bC (bA bR _) b174)) b175) (bC (bA bR _) b176)) b177).setCell (p := ⟨w.heap.size + 1 + 1 + 1 + 1, 0, none⟩) gX4 _).setCell (p := ⟨w.heap.size + 1 + 1 + 1 + 1, 1, none⟩) gX4 _).setCell (p := ⟨w.heap.size + 1 + 1 + 1 + 1, 2, none⟩) gX4 _)⟩
      simp [results, Tryz.results17, go_sem, oX4]
end Go.Proofs.YtnlmceafleeaiaaGreatDoor
