import Derived.Test.YtjdjonekoodalaaGreatDoorMulC
import Derived.Test.YtjdjonekoodalaaGreatDoorGtC
set_option maxHeartbeats 4000000
set_option linter.unusedVariables false
set_option linter.unusedSimpArgs false
set_option maxRecDepth 100000
namespace Go.Proofs.YtjdjonekoodalaaGreatDoor
open Go.RowKit
attribute [local go_sem ↓] Go.wp_at_zero Go.wp_at_succ
theorem ml_Mul_no1 (f m ah al bh bl : Int) (t : Bool)
    (h0 : Hid (∀ w, FTab w → Ca 15 #[.int .u8 f] w (.bool false))) (w : World) (ft : FTab w) :
    Ca 27 #[.int .u8 f, .agg #[.int .u8 m, .bool t], U2 ah al, U2 bh bl] w (.agg #[.int .u64 0, .int .u64 0, .int .u8 0]) := by
  simp only [Ca, U2] at *
  go_enter Tryz.func27, Tryz.ntmps27
  go_wp2_with fail
  refine vM (h0.out _ (ft.later (bA (bA (bA (bA bR _) _) _) _))) fun w1 b1 => ?_
  have gX3 : w.heap.size ≤ w.heap.size + 1 + 1 + 1 := by omega
  have X3 := (HB.newAt (b := w.heap.size + 1 + 1 + 1) (by simp) _ _).later b1
  have oX3 := X3.o
  go_wp2_with fail
  refine bodyPost_ret (v := .agg #[.int .u64 0, .int .u64 0, .int .u8 0]) ?_ rfl ⟨rfl, ((((bC (bA (bA (bA (bA bR _) _) _) _) b1).setCell (p := ⟨w.heap.size + 1 + 1 + 1, 0, none⟩) gX3 _).setCell (p := ⟨w.heap.size + 1 + 1 + 1, 1, none⟩) gX3 _).setCell (p := ⟨w.heap.size + 1 + 1 + 1, 2, none⟩) gX3 _)⟩
  simp [results, Tryz.results27, go_sem, oX3]
theorem ml_Mul_no2 (f m ah al bh bl : Int) (t : Bool)
    (h0 : Hid (∀ w, FTab w → Ca 15 #[.int .u8 f] w (.bool true)))
    (h1 : Hid (∀ w, Ca 48 #[.int .u8 m] w (.bool false))) (w : World) (ft : FTab w) :
    Ca 27 #[.int .u8 f, .agg #[.int .u8 m, .bool t], U2 ah al, U2 bh bl] w (.agg #[.int .u64 0, .int .u64 0, .int .u8 0]) := by
  simp only [Ca, U2] at *
  go_enter Tryz.func27, Tryz.ntmps27
  go_wp2_with fail
  refine vM (h0.out _ (ft.later (bA (bA (bA (bA bR _) _) _) _))) fun w1 b1 => ?_
  have gX3 : w.heap.size ≤ w.heap.size + 1 + 1 + 1 := by omega
  have X0 := ((((HB.newAt (b := w.heap.size) (by simp) _ _).alloc _).alloc _).alloc _).later b1
  have X3 := (HB.newAt (b := w.heap.size + 1 + 1 + 1) (by simp) _ _).later b1
  have oX0 := X0.o
  go_wp2_with fail
  refine vM (h1.out _) fun w2 b2 => ?_
  clear oX0
  replace X3 := X3.later b2
  have oX3 := X3.o
  go_wp2_with fail
  refine bodyPost_ret (v := .agg #[.int .u64 0, .int .u64 0, .int .u8 0]) ?_ rfl ⟨rfl, ((((bC (bC (bA (bA (bA (bA bR _) _) _) _) b1) b2).setCell (p := ⟨w.heap.size + 1 + 1 + 1, 0, none⟩) gX3 _).setCell (p := ⟨w.heap.size + 1 + 1 + 1, 1, none⟩) gX3 _).setCell (p := ⟨w.heap.size + 1 + 1 + 1, 2, none⟩) gX3 _)⟩
  simp [results, Tryz.results27, go_sem, oX3]
theorem ml_Mul_yes (f m ah al bh bl ca cb ea eb xh xl yh yl ph pl pf rh rl fl r9 e s0 s1 s2 s3 : Int) (t i sa sb pk : Bool)
    (h0 : Hid (∀ w, FTab w → Ca 15 #[.int .u8 f] w (.bool true)))
    (h1 : Hid (∀ w, Ca 48 #[.int .u8 m] w (.bool true)))
    (h2 : Hid (∀ w, FTab w → Ca 32 #[.int .u8 f, U2 ah al] w (.agg #[.bool sa, .int .u8 ca, .int .i64 ea, .int .u64 xh, .int .u64 xl])))
    (h3 : Hid (∀ w, FTab w → Ca 32 #[.int .u8 f, U2 bh bl] w (.agg #[.bool sb, .int .u8 cb, .int .i64 eb, .int .u64 yh, .int .u64 yl])))
    (h4 : Hid (∀ w, Ca 66 #[.agg #[.bool sa, .int .u8 ca, .int .i64 ea, .int .u64 xh, .int .u64 xl], .agg #[.bool sb, .int .u8 cb, .int .i64 eb, .int .u64 yh, .int .u64 yl]] w (.bool i))) (PK : Hid (∀ w, FTab w → ∀ p T, HB w p T #[.int .u64 ah, .int .u64 al, .int .u64 bh, .int .u64 bl] → Ca 31 #[.int .u8 f, .bool i, .slice (some ⟨p, 0, none⟩) 2 2] w (.tuple #[.agg #[.int .u64 ph, .int .u64 pl, .int .u8 pf], .bool pk])))
    (HH : ((pk = true)) ∨ ((pk = false) ∧ (decide (0 < r9) = true) ∧ (fl = 0) ∧ Hid (∀ w fv, OfFn w fv [3] → ∀ p T, HB w p T #[.bool sa, .int .u8 ca, .int .i64 ea, .int .u64 xh, .int .u64 xl, .bool sb, .int .u8 cb, .int .i64 eb, .int .u64 yh, .int .u64 yl] → Ca 67 #[fv, .slice (some ⟨p, 0, none⟩) 2 2] w (.int .i64 r9)) ∧ Hid (∀ w, FTab w → Ca 28 #[.int .u8 f, .bool ((!(sa == sb)))] w (U2 rh rl)))) (w : World) (ft : FTab w) :
    Ca 27 #[.int .u8 f, .agg #[.int .u8 m, .bool t], U2 ah al, U2 bh bl] w (.agg #[.int .u64 (if pk then ph else rh), .int .u64 (if pk then pl else rl), .int .u8 (if pk then pf else fl)]) := by
  simp only [Ca, U2] at *
  go_enter Tryz.func27, Tryz.ntmps27
  go_wp2_with fail
  refine vM (h0.out _ (ft.later (bA (bA (bA (bA bR _) _) _) _))) fun w1 b1 => ?_
  have gX3 : w.heap.size ≤ w.heap.size + 1 + 1 + 1 := by omega
  have X0 := ((((HB.newAt (b := w.heap.size) (by simp) _ _).alloc _).alloc _).alloc _).later b1
  have X1 := (((HB.newAt (b := w.heap.size + 1) (by simp) _ _).alloc _).alloc _).later b1
  have X2 := ((HB.newAt (b := w.heap.size + 1 + 1) (by simp) _ _).alloc _).later b1
  have X3 := (HB.newAt (b := w.heap.size + 1 + 1 + 1) (by simp) _ _).later b1
  have oX0 := X0.o
  go_wp2_with fail
  refine vM (h1.out _) fun w2 b2 => ?_
  clear oX0
  go_wp2_with fail
  replace X1 := X1.later b2
  replace X2 := X2.later b2
  refine' (have s3_12 : Hid (_ : Prop) := ?ns3_12; ?ms3_12)
  case' ms3_12 => skip
  refine' (have s3_11 : Hid (_ : Prop) := ?ns3_11; ?ms3_11)
  case' ms3_11 => skip
  refine' (have s3_10 : Hid (_ : Prop) := ?ns3_10; ?ms3_10)
  case' ms3_10 => skip
  refine' (have s3_9 : Hid (_ : Prop) := ?ns3_9; ?ms3_9)
  case' ms3_9 => skip
  refine' (have s3_8 : Hid (_ : Prop) := ?ns3_8; ?ms3_8)
  case' ms3_8 => skip
  refine' (have s3_7 : Hid (_ : Prop) := ?ns3_7; ?ms3_7)
  case' ms3_7 => skip
  refine' (have s3_6 : Hid (_ : Prop) := ?ns3_6; ?ms3_6)
  case' ms3_6 => skip
  refine' (have s3_5 : Hid (_ : Prop) := ?ns3_5; ?ms3_5)
  case' ms3_5 => skip
  refine' (have s3_4 : Hid (_ : Prop) := ?ns3_4; ?ms3_4)
  case' ms3_4 => skip
  refine' (have s3_3 : Hid (_ : Prop) := ?ns3_3; ?ms3_3)
  case' ms3_3 => skip
  refine' (have s3_2 : Hid (_ : Prop) := ?ns3_2; ?ms3_2)
  case' ms3_2 => skip
  refine' (have s3_1 : Hid (_ : Prop) := ?ns3_1; ?ms3_1)
  case' ms3_1 => skip
  refine' (have s3_0 : Hid (_ : Prop) := ?ns3_0; ?ms3_0)
  case' ms3_0 => skip
  refine vR [] fun w3 kz3 S => ?_
  refine vT 0 S ?_
  refine vT 1 S ?_ (hy := by intro wq hb; have q := (hb.hb X1 (by simp)).o; go_simp; try (with_reducible rfl))
  refine vT 3 S ?_
  refine vT 4 S ?_ (hy := by intro wq hb; have q := (hb.hb X2 (by simp)).o; go_simp; try (with_reducible rfl))
  refine vY3 (cC 2 S (h2.out _ (ft.later (bC (bC (bC (bA (bA (bA (bA bR _) _) _) _) b1) b2) kz3))) fun w4 b4 => ?_) (cA 6 S fun w5 pp2_0 h X4 b5 => ?_) (cA 7 S fun w6 pp2_1 h X5 b6 => ?_)
  replace kz3 := bC kz3 b4
  clear S b4 w3
  revert kz3; revert w4
  exact s3_0.out
  have jX4 := (lZ kz3.size h); replace kz3 := bC kz3 b5
  clear S b5 h w3
  revert kz3; revert jX4; revert X4; revert pp2_0; revert w5
  exact s3_1.out
  have jX5 := (lZ kz3.size h); replace kz3 := bC kz3 b6
  clear S b6 h w3
  revert kz3; revert jX5; revert X5; revert pp2_1; revert w6
  exact s3_2.out
  case' ns3_0 => refine lH ?_
  intro w7 kz3
  have S := Off.ofB kz3
  refine vY3 (cC 5 S (h3.out _ (ft.later (bC (bC (bC (bA (bA (bA (bA bR _) _) _) _) b1) b2) kz3))) fun w8 b8 => ?_) (cA 6 S fun w9 pp2_0 h X4 b9 => ?_) (cA 7 S fun w10 pp2_1 h X5 b10 => ?_)
  replace kz3 := bC kz3 b8
  clear S b8 w7
  revert kz3; revert w8
  exact s3_3.out
  have jX4 := (lZ kz3.size h); replace kz3 := bC kz3 b9
  clear S b9 h w7
  revert kz3; revert jX4; revert X4; revert pp2_0; revert w9
  exact s3_4.out
  have jX5 := (lZ kz3.size h); replace kz3 := bC kz3 b10
  clear S b10 h w7
  revert kz3; revert jX5; revert X5; revert pp2_1; revert w10
  exact s3_5.out
  case' ns3_1 => refine lH ?_
  intro w11 pp2_0 X4 jX4 kz3
  have S := Off.ofB kz3
  refine vY2 (cC 2 S (h2.out _ (ft.later (bC (bC (bC (bA (bA (bA (bA bR _) _) _) _) b1) b2) kz3))) fun w12 b12 => s3_4.out w12 pp2_0 (X4.later b12) jX4 (bC kz3 b12)) (cA 7 S fun w13 pp2_1 h X5 b13 => ?_)
  have ndX4_X5 : ¬ (pp2_0 = pp2_1) := (Nat.ne_of_lt (lY X4.lt h)); have jX5 := (lZ kz3.size h); replace X4 := (X4.later b13); replace kz3 := bC kz3 b13
  clear S b13 h w11
  revert kz3; revert ndX4_X5; revert jX5; revert jX4; revert X5; revert X4; revert pp2_1; revert pp2_0; revert w13
  exact s3_6.out
  case' ns3_2 => refine lH ?_
  intro w14 pp2_1 X5 jX5 kz3
  have S := Off.ofB kz3
  refine vY2 (cC 2 S (h2.out _ (ft.later (bC (bC (bC (bA (bA (bA (bA bR _) _) _) _) b1) b2) kz3))) fun w15 b15 => s3_5.out w15 pp2_1 (X5.later b15) jX5 (bC kz3 b15)) (cA 6 S fun w16 pp2_0 h X4 b16 => s3_6.out w16 pp2_0 pp2_1 X4 (X5.later b16) (lZ kz3.size h) jX5 (Nat.ne_of_gt (lY X5.lt h)) (bC kz3 b16))
  case' ns3_3 => refine lH ?_
  intro w17 kz3
  have S := Off.ofB kz3
  refine vY2 (cA 6 S fun w18 pp2_0 h X4 b18 => ?_) (cA 7 S fun w19 pp2_1 h X5 b19 => ?_)
  have jX4 := (lZ kz3.size h); replace kz3 := bC kz3 b18
  clear S b18 h w17
  revert kz3; revert jX4; revert X4; revert pp2_0; revert w18
  exact s3_7.out
  have jX5 := (lZ kz3.size h); replace kz3 := bC kz3 b19
  clear S b19 h w17
  revert kz3; revert jX5; revert X5; revert pp2_1; revert w19
  exact s3_8.out
  case' ns3_4 => refine lH ?_
  intro w20 pp2_0 X4 jX4 kz3
  have S := Off.ofB kz3
  refine vY2 (cC 5 S (h3.out _ (ft.later (bC (bC (bC (bA (bA (bA (bA bR _) _) _) _) b1) b2) kz3))) fun w21 b21 => s3_7.out w21 pp2_0 (X4.later b21) jX4 (bC kz3 b21)) (cA 7 S fun w22 pp2_1 h X5 b22 => ?_)
  have ndX4_X5 : ¬ (pp2_0 = pp2_1) := (Nat.ne_of_lt (lY X4.lt h)); have jX5 := (lZ kz3.size h); replace X4 := (X4.later b22); replace kz3 := bC kz3 b22
  clear S b22 h w20
  revert kz3; revert ndX4_X5; revert jX5; revert jX4; revert X5; revert X4; revert pp2_1; revert pp2_0; revert w22
  exact s3_9.out
  case' ns3_5 => refine lH ?_
  intro w23 pp2_1 X5 jX5 kz3
  have S := Off.ofB kz3
  refine vY2 (cC 5 S (h3.out _ (ft.later (bC (bC (bC (bA (bA (bA (bA bR _) _) _) _) b1) b2) kz3))) fun w24 b24 => s3_8.out w24 pp2_1 (X5.later b24) jX5 (bC kz3 b24)) (cA 6 S fun w25 pp2_0 h X4 b25 => s3_9.out w25 pp2_0 pp2_1 X4 (X5.later b25) (lZ kz3.size h) jX5 (Nat.ne_of_gt (lY X5.lt h)) (bC kz3 b25))
  case' ns3_6 => refine lH ?_
  intro w26 pp2_0 pp2_1 X4 X5 jX4 jX5 ndX4_X5 kz3
  have S := Off.ofB kz3
  refine vY1 (cC 2 S (h2.out _ (ft.later (bC (bC (bC (bA (bA (bA (bA bR _) _) _) _) b1) b2) kz3))) fun w27 b27 => s3_9.out w27 pp2_0 pp2_1 (X4.later b27) (X5.later b27) jX4 jX5 ndX4_X5 (bC kz3 b27))
  case' ns3_7 => refine lH ?_
  intro w28 pp2_0 X4 jX4 kz3
  have S := Off.ofB kz3
  refine vY1 (cA 7 S fun w29 pp2_1 h X5 b29 => ?_)
  have ndX4_X5 : ¬ (pp2_0 = pp2_1) := (Nat.ne_of_lt (lY X4.lt h)); have jX5 := (lZ kz3.size h); replace X4 := (X4.later b29); replace kz3 := bC kz3 b29
  clear S b29 h w28
  revert kz3; revert ndX4_X5; revert jX5; revert jX4; revert X5; revert X4; revert pp2_1; revert pp2_0; revert w29
  exact s3_10.out
  case' ns3_8 => refine lH ?_
  intro w30 pp2_1 X5 jX5 kz3
  have S := Off.ofB kz3
  refine vY1 (cA 6 S fun w31 pp2_0 h X4 b31 => s3_10.out w31 pp2_0 pp2_1 X4 (X5.later b31) (lZ kz3.size h) jX5 (Nat.ne_of_gt (lY X5.lt h)) (bC kz3 b31))
  case' ns3_9 => refine lH ?_
  intro w32 pp2_0 pp2_1 X4 X5 jX4 jX5 ndX4_X5 kz3
  have S := Off.ofB kz3
  refine vY1 (cC 5 S (h3.out _ (ft.later (bC (bC (bC (bA (bA (bA (bA bR _) _) _) _) b1) b2) kz3))) fun w33 b33 => s3_10.out w33 pp2_0 pp2_1 (X4.later b33) (X5.later b33) jX4 jX5 ndX4_X5 (bC kz3 b33))
  case' ns3_10 => refine lH ?_
  intro w34 pp2_0 pp2_1 X4 X5 jX4 jX5 ndX4_X5 kz3
  have S := Off.ofB kz3
  refine vY1 (vO 8 fun K hK => ?_)
  have q := X4.o; have mX5 : ¬ (pp2_1 = pp2_0) := (by omega)
  go_simp
  refine vW (fun W => HB W pp2_0 59 #[.bool sa, .int .u8 ca, .int .i64 ea, .int .u64 xh, .int .u64 xl] ∧ HB W pp2_1 59 #[.bool false, .int .u8 0, .int .i64 0, .int .u64 0, .int .u64 0] ∧ Below w2.heap.size w2 W) ⟨(((((X4.set 0 _).set 1 _).set 2 _).set 3 _).set 4 _), (((((X5.other mX5 0 _).other mX5 1 _).other mX5 2 _).other mX5 3 _).other mX5 4 _), (((((kz3.setCell (p := ⟨pp2_0, 0, none⟩) jX4 _).setCell (p := ⟨pp2_0, 1, none⟩) jX4 _).setCell (p := ⟨pp2_0, 2, none⟩) jX4 _).setCell (p := ⟨pp2_0, 3, none⟩) jX4 _).setCell (p := ⟨pp2_0, 4, none⟩) jX4 _)⟩ fun w36 hz => ?_
  clear q mX5 X4 X5 S kz3 w34; obtain ⟨X4, X5, kz3⟩ := hz
  refine hK.out _ _ (Off.ofB kz3) fun S => ?_; clear hK K S; refine vP ?_
  revert kz3; revert ndX4_X5; revert jX5; revert jX4; revert X5; revert X4; revert pp2_1; revert pp2_0; revert w36
  exact s3_11.out
  case' ns3_11 => refine lH ?_
  intro w37 pp2_0 pp2_1 X4 X5 jX4 jX5 ndX4_X5 kz3
  have S := Off.ofB kz3
  refine vY1 (vO 9 fun K hK => ?_)
  have q := X5.o; have mX4 : ¬ (pp2_0 = pp2_1) := (by omega)
  go_simp
  refine vW (fun W => HB W pp2_0 59 #[.bool sa, .int .u8 ca, .int .i64 ea, .int .u64 xh, .int .u64 xl] ∧ HB W pp2_1 59 #[.bool sb, .int .u8 cb, .int .i64 eb, .int .u64 yh, .int .u64 yl] ∧ Below w2.heap.size w2 W) ⟨(((((X4.other mX4 0 _).other mX4 1 _).other mX4 2 _).other mX4 3 _).other mX4 4 _), (((((X5.set 0 _).set 1 _).set 2 _).set 3 _).set 4 _), (((((kz3.setCell (p := ⟨pp2_1, 0, none⟩) jX5 _).setCell (p := ⟨pp2_1, 1, none⟩) jX5 _).setCell (p := ⟨pp2_1, 2, none⟩) jX5 _).setCell (p := ⟨pp2_1, 3, none⟩) jX5 _).setCell (p := ⟨pp2_1, 4, none⟩) jX5 _)⟩ fun w39 hz => ?_
  clear q mX4 X4 X5 S kz3 w37; obtain ⟨X4, X5, kz3⟩ := hz
  refine hK.out _ _ (Off.ofB kz3) fun S => ?_; clear hK K S; refine vP ?_
  revert kz3; revert ndX4_X5; revert jX5; revert jX4; revert X5; revert X4; revert pp2_1; revert pp2_0; revert w39
  exact s3_12.out
  case' ns3_12 => refine lH ?_
  intro w40 pp2_0 pp2_1 X4 X5 jX4 jX5 ndX4_X5 kz3
  refine vD ?_
  have nX1_X4 : w.heap.size + 1 < pp2_0 := by have := X1.lt; omega
  have nX1_X5 : w.heap.size + 1 < pp2_1 := by have := X1.lt; omega
  have nX2_X4 : w.heap.size + 1 + 1 < pp2_0 := by have := X2.lt; omega
  have nX2_X5 : w.heap.size + 1 + 1 < pp2_1 := by have := X2.lt; omega
  replace X3 := X3.later b2
  have nX3_X4 : w.heap.size + 1 + 1 + 1 < pp2_0 := by have := X3.lt; omega
  have nX3_X5 : w.heap.size + 1 + 1 + 1 < pp2_1 := by have := X3.lt; omega
  have gX4 : w.heap.size ≤ pp2_0 := by have := (bC (bC (bA (bA (bA (bA bR _) _) _) _) b1) b2).size; omega
  have gX5 : w.heap.size ≤ pp2_1 := by have := (bC (bC (bA (bA (bA (bA bR _) _) _) _) b1) b2).size; omega
  go_wp2_with fail
  replace X1 := X1.later kz3
  replace X2 := X2.later kz3
  refine' (have s41_9 : Hid (_ : Prop) := ?ns41_9; ?ms41_9)
  case' ms41_9 => skip
  refine' (have s41_8 : Hid (_ : Prop) := ?ns41_8; ?ms41_8)
  case' ms41_8 => skip
  refine' (have s41_7 : Hid (_ : Prop) := ?ns41_7; ?ms41_7)
  case' ms41_7 => skip
  refine' (have s41_6 : Hid (_ : Prop) := ?ns41_6; ?ms41_6)
  case' ms41_6 => skip
  refine' (have s41_5 : Hid (_ : Prop) := ?ns41_5; ?ms41_5)
  case' ms41_5 => skip
  refine' (have s41_4 : Hid (_ : Prop) := ?ns41_4; ?ms41_4)
  case' ms41_4 => skip
  refine' (have s41_3 : Hid (_ : Prop) := ?ns41_3; ?ms41_3)
  case' ms41_3 => skip
  refine' (have s41_2 : Hid (_ : Prop) := ?ns41_2; ?ms41_2)
  case' ms41_2 => skip
  refine' (have s41_1 : Hid (_ : Prop) := ?ns41_1; ?ms41_1)
  case' ms41_1 => skip
  refine' (have s41_0 : Hid (_ : Prop) := ?ns41_0; ?ms41_0)
  case' ms41_0 => skip
  refine vR [] fun w41 kz41 S => ?_
  refine vT 0 S ?_
  refine vT 1 S ?_ (hy := by intro wq hb; have q := (hb.hb X4 (by simp)).o; go_simp; try (with_reducible rfl))
  refine vT 2 S ?_ (hy := by intro wq hb; have q := (hb.hb X5 (by simp)).o; go_simp; try (with_reducible rfl))
  refine vT 4 S ?_ (hy := by intro wq hb; have q := (hb.hb X1 (by simp)).o; go_simp; try (with_reducible rfl))
  refine vT 5 S ?_ (hy := by intro wq hb; have q := (hb.hb X2 (by simp)).o; go_simp; try (with_reducible rfl))
  refine vY3 (cC 3 S (h4.out _) fun w42 b42 => ?_) (cB (n := 2) 6 S fun w43 pp40_0 h X6 b43 => ?_) (cA 11 S fun w44 pp40_1 h X7 b44 => ?_)
  replace kz41 := bC kz41 b42
  clear S b42 w41
  revert kz41; revert w42
  exact s41_0.out
  have jX6 := (lZ kz41.size h); replace kz41 := bC kz41 b43
  clear S b43 h w41
  revert kz41; revert jX6; revert X6; revert pp40_0; revert w43
  exact s41_1.out
  have jX7 := (lZ kz41.size h); replace kz41 := bC kz41 b44
  clear S b44 h w41
  revert kz41; revert jX7; revert X7; revert pp40_1; revert w44
  exact s41_2.out
  case' ns41_0 => refine lH ?_
  intro w45 kz41
  have S := Off.ofB kz41
  refine vY2 (cB (n := 2) 6 S fun w46 pp40_0 h X6 b46 => ?_) (cA 11 S fun w47 pp40_1 h X7 b47 => ?_)
  have jX6 := (lZ kz41.size h); replace kz41 := bC kz41 b46
  clear S b46 h w45
  revert kz41; revert jX6; revert X6; revert pp40_0; revert w46
  exact s41_3.out
  have jX7 := (lZ kz41.size h); replace kz41 := bC kz41 b47
  clear S b47 h w45
  revert kz41; revert jX7; revert X7; revert pp40_1; revert w47
  exact s41_4.out
  case' ns41_1 => refine lH ?_
  intro w48 pp40_0 X6 jX6 kz41
  have S := Off.ofB kz41
  refine vY2 (cC 3 S (h4.out _) fun w49 b49 => s41_3.out w49 pp40_0 (X6.later b49) jX6 (bC kz41 b49)) (cA 11 S fun w50 pp40_1 h X7 b50 => ?_)
  have ndX6_X7 : ¬ (pp40_0 = pp40_1) := (Nat.ne_of_lt (lY X6.lt h)); have jX7 := (lZ kz41.size h); replace X6 := (X6.later b50); replace kz41 := bC kz41 b50
  clear S b50 h w48
  revert kz41; revert ndX6_X7; revert jX7; revert jX6; revert X7; revert X6; revert pp40_1; revert pp40_0; revert w50
  exact s41_5.out
  case' ns41_2 => refine lH ?_
  intro w51 pp40_1 X7 jX7 kz41
  have S := Off.ofB kz41
  refine vY2 (cC 3 S (h4.out _) fun w52 b52 => s41_4.out w52 pp40_1 (X7.later b52) jX7 (bC kz41 b52)) (cB (n := 2) 6 S fun w53 pp40_0 h X6 b53 => s41_5.out w53 pp40_0 pp40_1 X6 (X7.later b53) (lZ kz41.size h) jX7 (Nat.ne_of_gt (lY X7.lt h)) (bC kz41 b53))
  case' ns41_3 => refine lH ?_
  intro w54 pp40_0 X6 jX6 kz41
  have S := Off.ofB kz41
  refine vY2 (cC 7 S (PK.out _ (ft.later (bC (bC (bC (bC (bA (bA (bA (bA bR _) _) _) _) b1) b2) kz3) kz41)) _ _ X6) fun w55 b55 => ?_) (cA 11 S fun w56 pp40_1 h X7 b56 => ?_)
  replace X6 := (X6.later b55); replace kz41 := bC kz41 b55
  refine vT 8 (Off.ofB kz41) ?_
  refine vT 9 (Off.ofB kz41) ?_
  refine vT 10 (Off.ofB kz41) ?_
  clear S b55 w54
  revert kz41; revert jX6; revert X6; revert pp40_0; revert w55
  exact s41_6.out
  have ndX6_X7 : ¬ (pp40_0 = pp40_1) := (Nat.ne_of_lt (lY X6.lt h)); have jX7 := (lZ kz41.size h); replace X6 := (X6.later b56); replace kz41 := bC kz41 b56
  clear S b56 h w54
  revert kz41; revert ndX6_X7; revert jX7; revert jX6; revert X7; revert X6; revert pp40_1; revert pp40_0; revert w56
  exact s41_7.out
  case' ns41_4 => refine lH ?_
  intro w57 pp40_1 X7 jX7 kz41
  have S := Off.ofB kz41
  refine vY1 (cB (n := 2) 6 S fun w58 pp40_0 h X6 b58 => s41_7.out w58 pp40_0 pp40_1 X6 (X7.later b58) (lZ kz41.size h) jX7 (Nat.ne_of_gt (lY X7.lt h)) (bC kz41 b58))
  case' ns41_5 => refine lH ?_
  intro w59 pp40_0 pp40_1 X6 X7 jX6 jX7 ndX6_X7 kz41
  have S := Off.ofB kz41
  refine vY1 (cC 3 S (h4.out _) fun w60 b60 => s41_7.out w60 pp40_0 pp40_1 (X6.later b60) (X7.later b60) jX6 jX7 ndX6_X7 (bC kz41 b60))
  case' ns41_6 => refine lH ?_
  intro w61 pp40_0 X6 jX6 kz41
  have S := Off.ofB kz41
  refine vY1 (cA 11 S fun w62 pp40_1 h X7 b62 => ?_)
  have ndX6_X7 : ¬ (pp40_0 = pp40_1) := (Nat.ne_of_lt (lY X6.lt h)); have jX7 := (lZ kz41.size h); replace X6 := (X6.later b62); replace kz41 := bC kz41 b62
  clear S b62 h w61
  revert kz41; revert ndX6_X7; revert jX7; revert jX6; revert X7; revert X6; revert pp40_1; revert pp40_0; revert w62
  exact s41_8.out
  case' ns41_7 => refine lH ?_
  intro w63 pp40_0 pp40_1 X6 X7 jX6 jX7 ndX6_X7 kz41
  have S := Off.ofB kz41
  refine vY1 (cC 7 S (PK.out _ (ft.later (bC (bC (bC (bC (bA (bA (bA (bA bR _) _) _) _) b1) b2) kz3) kz41)) _ _ X6) fun w64 b64 => ?_)
  replace X6 := (X6.later b64); replace X7 := (X7.later b64); replace kz41 := bC kz41 b64
  refine vT 8 (Off.ofB kz41) ?_
  refine vT 9 (Off.ofB kz41) ?_
  refine vT 10 (Off.ofB kz41) ?_
  clear S b64 w63
  revert kz41; revert ndX6_X7; revert jX7; revert jX6; revert X7; revert X6; revert pp40_1; revert pp40_0; revert w64
  exact s41_8.out
  case' ns41_8 => refine lH ?_
  intro w65 pp40_0 pp40_1 X6 X7 jX6 jX7 ndX6_X7 kz41
  have S := Off.ofB kz41
  refine vY1 (vO 12 fun K hK => ?_)
  have q := X7.o; have mX6 : ¬ (pp40_0 = pp40_1) := (by omega)
  go_simp
  refine vW (fun W => HB W pp40_0 25 #[.int .u64 ah, .int .u64 al, .int .u64 bh, .int .u64 bl] ∧ HB W pp40_1 30 #[.int .u64 ph, .int .u64 pl, .int .u8 pf] ∧ Below w40.heap.size w40 W) ⟨(((X6.other mX6 0 _).other mX6 1 _).other mX6 2 _), (((X7.set 0 _).set 1 _).set 2 _), (((kz41.setCell (p := ⟨pp40_1, 0, none⟩) jX7 _).setCell (p := ⟨pp40_1, 1, none⟩) jX7 _).setCell (p := ⟨pp40_1, 2, none⟩) jX7 _)⟩ fun w67 hz => ?_
  clear q mX6 X6 X7 S kz41 w65; obtain ⟨X6, X7, kz41⟩ := hz
  refine hK.out _ _ (Off.ofB kz41) fun S => ?_; clear hK K S; refine vP ?_
  refine vT 13 (Off.ofB kz41) ?_
  revert kz41; revert ndX6_X7; revert jX7; revert jX6; revert X7; revert X6; revert pp40_1; revert pp40_0; revert w67
  exact s41_9.out
  case' ns41_9 => refine lH ?_
  intro w68 pp40_0 pp40_1 X6 X7 jX6 jX7 ndX6_X7 kz41
  refine vD ?_
  replace X3 := X3.later kz3
  have nX3_X7 : w.heap.size + 1 + 1 + 1 < pp40_1 := by have := X3.lt; omega
  have nX4_X7 : pp2_0 < pp40_1 := by have := X4.lt; omega
  have nX5_X7 : pp2_1 < pp40_1 := by have := X5.lt; omega
  have gX6 : w.heap.size ≤ pp40_0 := by have := (bC (bC (bC (bA (bA (bA (bA bR _) _) _) _) b1) b2) kz3).size; omega
  have gX7 : w.heap.size ≤ pp40_1 := by have := (bC (bC (bC (bA (bA (bA (bA bR _) _) _) _) b1) b2) kz3).size; omega
  rcases HH with rfl | ⟨rfl, g9, rfl, CN, h8⟩
  · have oX7 := X7.o
    replace X3 := X3.later kz41
    have oX3 := X3.o
    have mX7_X3 : ¬ (pp40_1 = w.heap.size + 1 + 1 + 1) := by omega
    have mX3_X7 : ¬ (w.heap.size + 1 + 1 + 1 = pp40_1) := by omega
    replace X4 := X4.later kz41
    replace X5 := X5.later kz41
    go_wp2_with fail
    refine bodyPost_ret (v := .agg #[.int .u64 ph, .int .u64 pl, .int .u8 pf]) ?_ rfl ⟨rfl, ((((bC (bC (bC (bC (bA (bA (bA (bA bR _) _) _) _) b1) b2) kz3) kz41).setCell (p := ⟨w.heap.size + 1 + 1 + 1, 0, none⟩) gX3 _).setCell (p := ⟨w.heap.size + 1 + 1 + 1, 1, none⟩) gX3 _).setCell (p := ⟨w.heap.size + 1 + 1 + 1, 2, none⟩) gX3 _)⟩
    simp [results, Tryz.results27, go_sem, oX3, mX7_X3, mX3_X7]
  · replace X4 := X4.later kz41
    have oX4 := X4.o
    replace X5 := X5.later kz41
    have oX5 := X5.o
    go_wp2_with fail
    clear oX4 oX5
    refine' (have s69b_5 : Hid (_ : Prop) := ?ns69b_5; ?ms69b_5)
    case' ms69b_5 => skip
    refine' (have s69b_4 : Hid (_ : Prop) := ?ns69b_4; ?ms69b_4)
    case' ms69b_4 => skip
    refine' (have s69b_3 : Hid (_ : Prop) := ?ns69b_3; ?ms69b_3)
    case' ms69b_3 => skip
    refine' (have s69b_2 : Hid (_ : Prop) := ?ns69b_2; ?ms69b_2)
    case' ms69b_2 => skip
    refine' (have s69b_1 : Hid (_ : Prop) := ?ns69b_1; ?ms69b_1)
    case' ms69b_1 => skip
    refine' (have s69b_0 : Hid (_ : Prop) := ?ns69b_0; ?ms69b_0)
    case' ms69b_0 => skip
    refine vR [] fun w69 kz69 S => ?_
    refine vT 2 S ?_ (hy := by intro wq hb; have q := (hb.hb X4 (by simp)).o; go_simp; try (with_reducible rfl))
    refine vT 3 S ?_ (hy := by intro wq hb; have q := (hb.hb X5 (by simp)).o; go_simp; try (with_reducible rfl))
    refine vY2 (cB (n := 1) 0 S fun w70 pp68_0 h X8 b70 => ?_) (cB (n := 2) 4 S fun w71 pp68_1 h X9 b71 => ?_)
    have jX8 := (lZ kz69.size h); replace kz69 := bC kz69 b70
    clear S b70 h w69
    revert kz69; revert jX8; revert X8; revert pp68_0; revert w70
    exact s69b_0.out
    have jX9 := (lZ kz69.size h); replace kz69 := bC kz69 b71
    clear S b71 h w69
    revert kz69; revert jX9; revert X9; revert pp68_1; revert w71
    exact s69b_1.out
    case' ns69b_0 => refine lH ?_
    intro w72 pp68_0 X8 jX8 kz69
    have S := Off.ofB kz69
    refine vY2 (cE 1 S (of_hb1 _ _ _ X8) fun fn w73 nfn b73 => ?_) (cB (n := 2) 4 S fun w74 pp68_1 h X9 b74 => ?_)
    replace X8 := (X8.later b73); replace kz69 := bC kz69 b73
    clear S b73 w72
    revert kz69; revert jX8; revert nfn; revert X8; revert fn; revert pp68_0; revert w73
    exact s69b_2.out
    have ndX8_X9 : ¬ (pp68_0 = pp68_1) := (Nat.ne_of_lt (lY X8.lt h)); have jX9 := (lZ kz69.size h); replace X8 := (X8.later b74); replace kz69 := bC kz69 b74
    clear S b74 h w72
    revert kz69; revert ndX8_X9; revert jX9; revert jX8; revert X9; revert X8; revert pp68_1; revert pp68_0; revert w74
    exact s69b_3.out
    case' ns69b_1 => refine lH ?_
    intro w75 pp68_1 X9 jX9 kz69
    have S := Off.ofB kz69
    refine vY1 (cB (n := 1) 0 S fun w76 pp68_0 h X8 b76 => s69b_3.out w76 pp68_0 pp68_1 X8 (X9.later b76) (lZ kz69.size h) jX9 (Nat.ne_of_gt (lY X9.lt h)) (bC kz69 b76))
    case' ns69b_2 => refine lH ?_
    intro w77 pp68_0 fn X8 nfn jX8 kz69
    have S := Off.ofB kz69
    refine vY1 (cB (n := 2) 4 S fun w78 pp68_1 h X9 b78 => ?_)
    have ndX8_X9 : ¬ (pp68_0 = pp68_1) := (Nat.ne_of_lt (lY X8.lt h)); have jX9 := (lZ kz69.size h); replace X8 := (X8.later b78); replace nfn := (nfn.later b78); replace kz69 := bC kz69 b78
    clear S b78 h w77
    revert kz69; revert ndX8_X9; revert jX9; revert jX8; revert nfn; revert X9; revert X8; revert fn; revert pp68_1; revert pp68_0; revert w78
    exact s69b_4.out
    case' ns69b_3 => refine lH ?_
    intro w79 pp68_0 pp68_1 X8 X9 jX8 jX9 ndX8_X9 kz69
    have S := Off.ofB kz69
    refine vY1 (cE 1 S (of_hb1 _ _ _ X8) fun fn w80 nfn b80 => s69b_4.out w80 pp68_0 pp68_1 fn (X8.later b80) (X9.later b80) nfn jX8 jX9 ndX8_X9 (bC kz69 b80))
    case' ns69b_4 => refine lH ?_
    intro w81 pp68_0 pp68_1 fn X8 X9 nfn jX8 jX9 ndX8_X9 kz69
    have S := Off.ofB kz69
    refine vY1 (cC 5 S (CN.out _ _ nfn _ _ X9) fun w82 b82 => ?_)
    replace X8 := (X8.later b82); replace X9 := (X9.later b82); replace kz69 := bC kz69 b82
    refine vT 6 (Off.ofB kz69) ?_
    clear nfn S b82 w81
    revert kz69; revert ndX8_X9; revert jX9; revert jX8; revert X9; revert X8; revert fn; revert pp68_1; revert pp68_0; revert w82
    exact s69b_5.out
    case' ns69b_5 => refine lH ?_
    intro w83 pp68_0 pp68_1 fn X8 X9 jX8 jX9 ndX8_X9 kz69
    refine vD ?_
    replace X3 := X3.later kz41
    have gX8 : w.heap.size ≤ pp68_0 := by have := (bC (bC (bC (bC (bA (bA (bA (bA bR _) _) _) _) b1) b2) kz3) kz41).size; omega
    have gX9 : w.heap.size ≤ pp68_1 := by have := (bC (bC (bC (bC (bA (bA (bA (bA bR _) _) _) _) b1) b2) kz3) kz41).size; omega
    go_wp2_with fail
    refine vM (h8.out _ (ft.later (bC (bC (bC (bC (bC (bA (bA (bA (bA bR _) _) _) _) b1) b2) kz3) kz41) kz69))) fun w84 b84 => ?_
    replace X3 := X3.later (bC kz69 b84)
    have oX3 := X3.o
    go_wp2_with fail
    refine bodyPost_ret (v := .agg #[.int .u64 rh, .int .u64 rl, .int .u8 0]) ?_ rfl ⟨rfl, ((((bC (bC (bC (bC (bC (bC (bA (bA (bA (bA bR _) _) _) _) b1) b2) kz3) kz41) kz69) b84).setCell (p := ⟨w.heap.size + 1 + 1 + 1, 0, none⟩) gX3 _).setCell (p := ⟨w.heap.size + 1 + 1 + 1, 1, none⟩) gX3 _).setCell (p := ⟨w.heap.size + 1 + 1 + 1, 2, none⟩) gX3 _)⟩
    simp [results, Tryz.results27, go_sem, oX3]
end Go.Proofs.YtjdjonekoodalaaGreatDoor
