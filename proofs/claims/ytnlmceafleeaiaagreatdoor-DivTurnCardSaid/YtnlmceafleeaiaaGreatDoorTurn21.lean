import Derived.Test.YtnlmceafleeaiaaGreatDoorGwA
import Derived.Test.YtnlmceafleeaiaaGreatDoorGaB
import Derived.Test.YtnlmceafleeaiaaGreatDoorGfA
import Derived.Test.YtnlmceafleeaiaaGreatDoorGhA
import Derived.Test.YtnlmceafleeaiaaGreatDoorGaA
import Derived.Test.YtnlmceafleeaiaaGreatDoorGoes21
import Derived.Test.YtnlmceafleeaiaaGreatDoorRest0
set_option maxHeartbeats 4000000
set_option linter.unusedVariables false
set_option linter.unusedSimpArgs false
set_option maxRecDepth 100000
namespace Go.Proofs.YtnlmceafleeaiaaGreatDoor
open Go.RowKit
attribute [local go_sem ↓] Go.wp_at_zero Go.wp_at_succ
theorem turn21_no1 (f m ah al bh bl : Int) (t : Bool)
    (h0 : Hid (∀ w, FTab w → Ca 20 #[.int .u8 f] w (.bool false)))
    (h3 : Hid (∀ w, FTab w → Ca 12 #[] w (.bool true))) (w : World) (ft : FTab w) :
    Ca 7 #[.int .u8 f, .agg #[.int .u8 m, .bool t], U2 ah al, U2 bh bl] w (.bool true) := by
  simp only [Ca, U2] at *
  go_enter Tryz.func7, Tryz.ntmps7
  go_wp2_with fail
  refine vM (h0.out _ (ft.later (bA (bA (bA bR _) _) _))) fun w1 b1 => ?_
  go_wp2_with fail
  refine vM (h3.out _ (ft.later (bC (bA (bA (bA bR _) _) _) b1))) fun w2 b2 => ?_
  go_wp2_with fail
  go_ret
  exact ⟨rfl, (bC (bC (bA (bA (bA bR _) _) _) b1) b2)⟩
theorem turn21_no2 (f m ah al bh bl : Int) (t : Bool)
    (h0 : Hid (∀ w, FTab w → Ca 20 #[.int .u8 f] w (.bool true)))
    (h1 : Hid (∀ w, Ca 21 #[.int .u8 m] w (.bool false)))
    (h3 : Hid (∀ w, FTab w → Ca 12 #[] w (.bool true))) (w : World) (ft : FTab w) :
    Ca 7 #[.int .u8 f, .agg #[.int .u8 m, .bool t], U2 ah al, U2 bh bl] w (.bool true) := by
  simp only [Ca, U2] at *
  go_enter Tryz.func7, Tryz.ntmps7
  go_wp2_with fail
  refine vM (h0.out _ (ft.later (bA (bA (bA bR _) _) _))) fun w1 b1 => ?_
  have X0 := (((HB.newAt (b := w.heap.size) (by simp) _ _).alloc _).alloc _).later b1
  have oX0 := X0.o
  go_wp2_with fail
  refine vM (h1.out _) fun w2 b2 => ?_
  clear oX0
  go_wp2_with fail
  refine vM (h3.out _ (ft.later (bC (bC (bA (bA (bA bR _) _) _) b1) b2))) fun w3 b3 => ?_
  go_wp2_with fail
  go_ret
  exact ⟨rfl, (bC (bC (bC (bA (bA (bA bR _) _) _) b1) b2) b3)⟩
theorem turn21_no3 (f m ah al bh bl : Int) (t : Bool)
    (h0 : Hid (∀ w, FTab w → Ca 20 #[.int .u8 f] w (.bool true)))
    (h1 : Hid (∀ w, Ca 21 #[.int .u8 m] w (.bool true)))
    (h3 : Hid (∀ w, FTab w → Ca 12 #[] w (.bool true))) (AN : Hid (∀ w, FTab w → ∀ p T, HB w p T #[.int .u64 ah, .int .u64 al, .int .u64 bh, .int .u64 bl] → Ca 25 #[.int .u8 f, .func (.func 24) #[] #[], .slice (some ⟨p, 0, none⟩) 2 2] w (.bool true))) (w : World) (ft : FTab w) :
    Ca 7 #[.int .u8 f, .agg #[.int .u8 m, .bool t], U2 ah al, U2 bh bl] w (.bool true) := by
  simp only [Ca, U2] at *
  go_enter Tryz.func7, Tryz.ntmps7
  go_wp2_with fail
  refine vM (h0.out _ (ft.later (bA (bA (bA bR _) _) _))) fun w1 b1 => ?_
  have X0 := (((HB.newAt (b := w.heap.size) (by simp) _ _).alloc _).alloc _).later b1
  have X1 := ((HB.newAt (b := w.heap.size + 1) (by simp) _ _).alloc _).later b1
  have X2 := (HB.newAt (b := w.heap.size + 1 + 1) (by simp) _ _).later b1
  have oX0 := X0.o
  go_wp2_with fail
  refine vM (h1.out _) fun w2 b2 => ?_
  clear oX0
  replace X1 := X1.later b2
  have oX1 := X1.o
  replace X2 := X2.later b2
  have oX2 := X2.o
  go_wp2_with fail
  refine vM (AN.out _ (ft.later (bA (bC (bC (bA (bA (bA bR _) _) _) b1) b2) _)) _ _ (HB.newAt (b := w2.heap.size) (by simp) _ _)) fun w3 b3 => ?_
  clear oX1 oX2
  go_wp2_with fail
  refine vM (h3.out _ (ft.later (bC (bC (bC (bA (bA (bA bR _) _) _) b1) b2) (bC (bA bR _) b3)))) fun w4 b4 => ?_
  go_wp2_with fail
  go_ret
  exact ⟨rfl, (bC (bC (bC (bC (bA (bA (bA bR _) _) _) b1) b2) (bC (bA bR _) b3)) b4)⟩
theorem turn21_main (f m ah al bh bl mu ph pl qh ql rh rl fl yh yl vh vl : Int) (t : Bool)
    (h0 : Hid (∀ w, FTab w → Ca 20 #[.int .u8 f] w (.bool true)))
    (h1 : Hid (∀ w, Ca 21 #[.int .u8 m] w (.bool true)))
    (h3 : Hid (∀ w, FTab w → Ca 10 #[.int .u8 f, .agg #[.int .u8 m, .bool t], U2 ah al, U2 bh bl] w (.agg #[.int .u64 rh, .int .u64 rl, .int .u8 fl])))
    (h4 : Hid (∀ w, Ca 26 #[.int .u8 m] w (.int .u8 mu)))
    (h5 : Hid (∀ w, FTab w → Ca 18 #[.int .u8 f, U2 ah al] w (U2 ph pl)))
    (h6 : Hid (∀ w, FTab w → Ca 10 #[.int .u8 f, .agg #[.int .u8 mu, .bool t], U2 ph pl, U2 bh bl] w (.agg #[.int .u64 yh, .int .u64 yl, .int .u8 fl])))
    (h7 : Hid (∀ w, FTab w → Ca 18 #[.int .u8 f, U2 bh bl] w (U2 qh ql)))
    (h8 : Hid (∀ w, FTab w → Ca 10 #[.int .u8 f, .agg #[.int .u8 mu, .bool t], U2 ah al, U2 qh ql] w (.agg #[.int .u64 yh, .int .u64 yl, .int .u8 fl])))
    (h11 : Hid (∀ w, FTab w → Ca 10 #[.int .u8 f, .agg #[.int .u8 m, .bool t], U2 ph pl, U2 qh ql] w (.agg #[.int .u64 rh, .int .u64 rl, .int .u8 fl]))) (AN : Hid (∀ w, FTab w → ∀ p T, HB w p T #[.int .u64 ah, .int .u64 al, .int .u64 bh, .int .u64 bl] → Ca 25 #[.int .u8 f, .func (.func 24) #[] #[], .slice (some ⟨p, 0, none⟩) 2 2] w (.bool false)))
    (HH : ((∀ w, (binOp .eql 31 (.agg #[.int .u64 rh, .int .u64 rl, .int .u8 fl]) (.agg #[.int .u64 yh, .int .u64 yl, .int .u8 fl])).run Tryz.prog w = .ok (.bool true) w) ∧ Hid (∀ w, FTab w → Ca 24 #[.int .u8 f, U2 rh rl] w (.bool true)) ∧ Hid (∀ w, FTab w → Ca 12 #[] w (.bool true))) ∨ ((∀ w, (binOp .eql 28 (U2 yh yl) (U2 vh vl)).run Tryz.prog w = .ok (.bool true) w) ∧ Hid (∀ w, FTab w → Ca 24 #[.int .u8 f, U2 rh rl] w (.bool false)) ∧ Hid (∀ w, FTab w → Ca 18 #[.int .u8 f, U2 rh rl] w (U2 vh vl)) ∧ Hid (∀ w, FTab w → Ca 12 #[] w (.bool true)))) (w : World) (ft : FTab w) :
    Ca 7 #[.int .u8 f, .agg #[.int .u8 m, .bool t], U2 ah al, U2 bh bl] w (.bool true) := by
  simp only [Ca, U2] at *
  have NE := neqr21 rh rl fl
  have NY := neqr21 yh yl fl
  go_enter Tryz.func7, Tryz.ntmps7
  go_wp2_with fail
  refine vM (h0.out _ (ft.later (bA (bA (bA bR _) _) _))) fun w1 b1 => ?_
  have X0 := (((HB.newAt (b := w.heap.size) (by simp) _ _).alloc _).alloc _).later b1
  have X1 := ((HB.newAt (b := w.heap.size + 1) (by simp) _ _).alloc _).later b1
  have X2 := (HB.newAt (b := w.heap.size + 1 + 1) (by simp) _ _).later b1
  have oX0 := X0.o
  go_wp2_with fail
  refine vM (h1.out _) fun w2 b2 => ?_
  clear oX0
  replace X1 := X1.later b2
  have oX1 := X1.o
  replace X2 := X2.later b2
  have oX2 := X2.o
  go_wp2_with fail
  refine vM (AN.out _ (ft.later (bA (bC (bC (bA (bA (bA bR _) _) _) b1) b2) _)) _ _ (HB.newAt (b := w2.heap.size) (by simp) _ _)) fun w3 b3 => ?_
  clear oX1 oX2
  replace X0 := X0.later (bC b2 (bC (bA bR _) b3))
  have oX0 := X0.o
  replace X1 := X1.later (bC (bA bR _) b3)
  have oX1 := X1.o
  replace X2 := X2.later (bC (bA bR _) b3)
  have oX2 := X2.o
  go_wp2_with fail
  refine vM (h3.out _ (ft.later (bC (bC (bC (bA (bA (bA bR _) _) _) b1) b2) (bC (bA bR _) b3)))) fun w4 b4 => ?_
  clear oX0 oX1 oX2
  replace X0 := X0.later b4
  have oX0 := X0.o
  go_wp2_with fail
  refine vM (h4.out _) fun w5 b5 => ?_
  have gX5 : w.heap.size ≤ w4.heap.size + 1 := by have := (bC (bC (bC (bC (bA (bA (bA bR _) _) _) b1) b2) (bC (bA bR _) b3)) b4).size; omega
  have nX0_X5 : w.heap.size < w4.heap.size + 1 := by have := X0.lt; omega
  replace X1 := X1.later b4
  have nX1_X5 : w.heap.size + 1 < w4.heap.size + 1 := by have := X1.lt; omega
  replace X2 := X2.later b4
  have nX2_X5 : w.heap.size + 1 + 1 < w4.heap.size + 1 := by have := X2.lt; omega
  have X4 := ((HB.newAt (b := w4.heap.size) (by simp) _ _).alloc _).later b5
  have X5 := (HB.newAt (b := w4.heap.size + 1) (by simp) _ _).later b5
  clear oX0
  have oX5 := X5.o
  replace X0 := X0.later (bC (bA (bA bR _) _) b5)
  replace X1 := X1.later (bC (bA (bA bR _) _) b5)
  replace X2 := X2.later (bC (bA (bA bR _) _) b5)
  go_wp2_with fail
  refine wp_forget (fun W => HB W w.heap.size 25 #[.int .u8 m, .bool t] ∧ HB W (w.heap.size + 1) 28 #[.int .u64 ah, .int .u64 al] ∧ HB W (w.heap.size + 1 + 1) 28 #[.int .u64 bh, .int .u64 bl] ∧ HB W w4.heap.size 31 #[.int .u64 rh, .int .u64 rl, .int .u8 fl] ∧ HB W (w4.heap.size + 1) 25 #[.int .u8 mu, .bool t] ∧ Below w.heap.size w W) ⟨(X0.other (by omega) 0 _), (X1.other (by omega) 0 _), (X2.other (by omega) 0 _), (X4.other (by omega) 0 _), (X5.set 0 _), ((bC (bC (bC (bC (bC (bA (bA (bA bR _) _) _) b1) b2) (bC (bA bR _) b3)) b4) (bC (bA (bA bR _) _) b5)).setCell (p := ⟨w4.heap.size + 1, 0, none⟩) gX5 _)⟩ (fun w6 hst => ?_)
  obtain ⟨X0, X1, X2, X4, X5, kk⟩ := hst
  clear oX5
  refine' (have s7_20 : Hid (_ : Prop) := ?ns7_20; ?ms7_20)
  case' ms7_20 => skip
  refine' (have s7_19 : Hid (_ : Prop) := ?ns7_19; ?ms7_19)
  case' ms7_19 => skip
  refine' (have s7_18 : Hid (_ : Prop) := ?ns7_18; ?ms7_18)
  case' ms7_18 => skip
  refine' (have s7_17 : Hid (_ : Prop) := ?ns7_17; ?ms7_17)
  case' ms7_17 => skip
  refine' (have s7_16 : Hid (_ : Prop) := ?ns7_16; ?ms7_16)
  case' ms7_16 => skip
  refine' (have s7_15 : Hid (_ : Prop) := ?ns7_15; ?ms7_15)
  case' ms7_15 => skip
  refine' (have s7_14 : Hid (_ : Prop) := ?ns7_14; ?ms7_14)
  case' ms7_14 => skip
  refine' (have s7_13 : Hid (_ : Prop) := ?ns7_13; ?ms7_13)
  case' ms7_13 => skip
  refine' (have s7_12 : Hid (_ : Prop) := ?ns7_12; ?ms7_12)
  case' ms7_12 => skip
  refine' (have s7_11 : Hid (_ : Prop) := ?ns7_11; ?ms7_11)
  case' ms7_11 => skip
  refine' (have s7_10 : Hid (_ : Prop) := ?ns7_10; ?ms7_10)
  case' ms7_10 => skip
  refine' (have s7_9 : Hid (_ : Prop) := ?ns7_9; ?ms7_9)
  case' ms7_9 => skip
  refine' (have s7_8 : Hid (_ : Prop) := ?ns7_8; ?ms7_8)
  case' ms7_8 => skip
  refine' (have s7_7 : Hid (_ : Prop) := ?ns7_7; ?ms7_7)
  case' ms7_7 => skip
  refine' (have s7_6 : Hid (_ : Prop) := ?ns7_6; ?ms7_6)
  case' ms7_6 => skip
  refine' (have s7_5 : Hid (_ : Prop) := ?ns7_5; ?ms7_5)
  case' ms7_5 => skip
  refine' (have s7_4 : Hid (_ : Prop) := ?ns7_4; ?ms7_4)
  case' ms7_4 => skip
  refine' (have s7_3 : Hid (_ : Prop) := ?ns7_3; ?ms7_3)
  case' ms7_3 => skip
  refine' (have s7_2 : Hid (_ : Prop) := ?ns7_2; ?ms7_2)
  case' ms7_2 => skip
  refine' (have s7_1 : Hid (_ : Prop) := ?ns7_1; ?ms7_1)
  case' ms7_1 => skip
  refine' (have s7_0 : Hid (_ : Prop) := ?ns7_0; ?ms7_0)
  case' ms7_0 => skip
  refine vR [] fun w7 kz7 S => ?_
  refine vT 0 S ?_
  refine vT 1 S ?_ (hy := by intro wq hb; have q := (hb.hb X5 (by simp)).o; go_simp; try (with_reducible rfl))
  refine vT 2 S ?_
  refine vT 3 S ?_ (hy := by intro wq hb; have q := (hb.hb X1 (by simp)).o; go_simp; try (with_reducible rfl))
  refine vT 5 S ?_ (hy := by intro wq hb; have q := (hb.hb X2 (by simp)).o; go_simp; try (with_reducible rfl))
  refine vT 7 S ?_
  refine vT 8 S ?_ (hy := by intro wq hb; have q := (hb.hb X5 (by simp)).o; go_simp; try (with_reducible rfl))
  refine vT 9 S ?_ (hy := by intro wq hb; have q := (hb.hb X1 (by simp)).o; go_simp; try (with_reducible rfl))
  refine vT 10 S ?_
  refine vT 11 S ?_ (hy := by intro wq hb; have q := (hb.hb X2 (by simp)).o; go_simp; try (with_reducible rfl))
  refine vY3 (cC 4 S (h5.out _ (ft.later (bC kk kz7))) fun w8 b8 => ?_) (cA 14 S fun w9 pp6_0 h X6 b9 => ?_) (cA 15 S fun w10 pp6_1 h X7 b10 => ?_)
  replace kz7 := bC kz7 b8
  clear S b8 w7
  revert kz7; revert w8
  exact s7_0.out
  have jX6 := (lZ kz7.size h); replace kz7 := bC kz7 b9
  clear S b9 h w7
  revert kz7; revert jX6; revert X6; revert pp6_0; revert w9
  exact s7_1.out
  have jX7 := (lZ kz7.size h); replace kz7 := bC kz7 b10
  clear S b10 h w7
  revert kz7; revert jX7; revert X7; revert pp6_1; revert w10
  exact s7_2.out
  case' ns7_0 => refine lH ?_
  intro w11 kz7
  have S := Off.ofB kz7
  refine vY3 (cC 6 S (h6.out _ (ft.later (bC kk kz7))) fun w12 b12 => ?_) (cA 14 S fun w13 pp6_0 h X6 b13 => ?_) (cA 15 S fun w14 pp6_1 h X7 b14 => ?_)
  replace kz7 := bC kz7 b12
  clear S b12 w11
  revert kz7; revert w12
  exact s7_3.out
  have jX6 := (lZ kz7.size h); replace kz7 := bC kz7 b13
  clear S b13 h w11
  revert kz7; revert jX6; revert X6; revert pp6_0; revert w13
  exact s7_4.out
  have jX7 := (lZ kz7.size h); replace kz7 := bC kz7 b14
  clear S b14 h w11
  revert kz7; revert jX7; revert X7; revert pp6_1; revert w14
  exact s7_5.out
  case' ns7_1 => refine lH ?_
  intro w15 pp6_0 X6 jX6 kz7
  have S := Off.ofB kz7
  refine vY2 (cC 4 S (h5.out _ (ft.later (bC kk kz7))) fun w16 b16 => s7_4.out w16 pp6_0 (X6.later b16) jX6 (bC kz7 b16)) (cA 15 S fun w17 pp6_1 h X7 b17 => ?_)
  have ndX6_X7 : ¬ (pp6_0 = pp6_1) := (Nat.ne_of_lt (lY X6.lt h)); have jX7 := (lZ kz7.size h); replace X6 := (X6.later b17); replace kz7 := bC kz7 b17
  clear S b17 h w15
  revert kz7; revert ndX6_X7; revert jX7; revert jX6; revert X7; revert X6; revert pp6_1; revert pp6_0; revert w17
  exact s7_6.out
  case' ns7_2 => refine lH ?_
  intro w18 pp6_1 X7 jX7 kz7
  have S := Off.ofB kz7
  refine vY2 (cC 4 S (h5.out _ (ft.later (bC kk kz7))) fun w19 b19 => s7_5.out w19 pp6_1 (X7.later b19) jX7 (bC kz7 b19)) (cA 14 S fun w20 pp6_0 h X6 b20 => s7_6.out w20 pp6_0 pp6_1 X6 (X7.later b20) (lZ kz7.size h) jX7 (Nat.ne_of_gt (lY X7.lt h)) (bC kz7 b20))
  case' ns7_3 => refine lH ?_
  intro w21 kz7
  have S := Off.ofB kz7
  refine vY3 (cC 12 S (h7.out _ (ft.later (bC kk kz7))) fun w22 b22 => ?_) (cA 14 S fun w23 pp6_0 h X6 b23 => ?_) (cA 15 S fun w24 pp6_1 h X7 b24 => ?_)
  replace kz7 := bC kz7 b22
  clear S b22 w21
  revert kz7; revert w22
  exact s7_7.out
  have jX6 := (lZ kz7.size h); replace kz7 := bC kz7 b23
  clear S b23 h w21
  revert kz7; revert jX6; revert X6; revert pp6_0; revert w23
  exact s7_8.out
  have jX7 := (lZ kz7.size h); replace kz7 := bC kz7 b24
  clear S b24 h w21
  revert kz7; revert jX7; revert X7; revert pp6_1; revert w24
  exact s7_9.out
  case' ns7_4 => refine lH ?_
  intro w25 pp6_0 X6 jX6 kz7
  have S := Off.ofB kz7
  refine vY2 (cC 6 S (h6.out _ (ft.later (bC kk kz7))) fun w26 b26 => s7_8.out w26 pp6_0 (X6.later b26) jX6 (bC kz7 b26)) (cA 15 S fun w27 pp6_1 h X7 b27 => ?_)
  have ndX6_X7 : ¬ (pp6_0 = pp6_1) := (Nat.ne_of_lt (lY X6.lt h)); have jX7 := (lZ kz7.size h); replace X6 := (X6.later b27); replace kz7 := bC kz7 b27
  clear S b27 h w25
  revert kz7; revert ndX6_X7; revert jX7; revert jX6; revert X7; revert X6; revert pp6_1; revert pp6_0; revert w27
  exact s7_10.out
  case' ns7_5 => refine lH ?_
  intro w28 pp6_1 X7 jX7 kz7
  have S := Off.ofB kz7
  refine vY2 (cC 6 S (h6.out _ (ft.later (bC kk kz7))) fun w29 b29 => s7_9.out w29 pp6_1 (X7.later b29) jX7 (bC kz7 b29)) (cA 14 S fun w30 pp6_0 h X6 b30 => s7_10.out w30 pp6_0 pp6_1 X6 (X7.later b30) (lZ kz7.size h) jX7 (Nat.ne_of_gt (lY X7.lt h)) (bC kz7 b30))
  case' ns7_6 => refine lH ?_
  intro w31 pp6_0 pp6_1 X6 X7 jX6 jX7 ndX6_X7 kz7
  have S := Off.ofB kz7
  refine vY1 (cC 4 S (h5.out _ (ft.later (bC kk kz7))) fun w32 b32 => s7_10.out w32 pp6_0 pp6_1 (X6.later b32) (X7.later b32) jX6 jX7 ndX6_X7 (bC kz7 b32))
  case' ns7_7 => refine lH ?_
  intro w33 kz7
  have S := Off.ofB kz7
  refine vY3 (cC 13 S (h8.out _ (ft.later (bC kk kz7))) fun w34 b34 => ?_) (cA 14 S fun w35 pp6_0 h X6 b35 => ?_) (cA 15 S fun w36 pp6_1 h X7 b36 => ?_)
  replace kz7 := bC kz7 b34
  clear S b34 w33
  revert kz7; revert w34
  exact s7_11.out
  have jX6 := (lZ kz7.size h); replace kz7 := bC kz7 b35
  clear S b35 h w33
  revert kz7; revert jX6; revert X6; revert pp6_0; revert w35
  exact s7_12.out
  have jX7 := (lZ kz7.size h); replace kz7 := bC kz7 b36
  clear S b36 h w33
  revert kz7; revert jX7; revert X7; revert pp6_1; revert w36
  exact s7_13.out
  case' ns7_8 => refine lH ?_
  intro w37 pp6_0 X6 jX6 kz7
  have S := Off.ofB kz7
  refine vY2 (cC 12 S (h7.out _ (ft.later (bC kk kz7))) fun w38 b38 => s7_12.out w38 pp6_0 (X6.later b38) jX6 (bC kz7 b38)) (cA 15 S fun w39 pp6_1 h X7 b39 => ?_)
  have ndX6_X7 : ¬ (pp6_0 = pp6_1) := (Nat.ne_of_lt (lY X6.lt h)); have jX7 := (lZ kz7.size h); replace X6 := (X6.later b39); replace kz7 := bC kz7 b39
  clear S b39 h w37
  revert kz7; revert ndX6_X7; revert jX7; revert jX6; revert X7; revert X6; revert pp6_1; revert pp6_0; revert w39
  exact s7_14.out
  case' ns7_9 => refine lH ?_
  intro w40 pp6_1 X7 jX7 kz7
  have S := Off.ofB kz7
  refine vY2 (cC 12 S (h7.out _ (ft.later (bC kk kz7))) fun w41 b41 => s7_13.out w41 pp6_1 (X7.later b41) jX7 (bC kz7 b41)) (cA 14 S fun w42 pp6_0 h X6 b42 => s7_14.out w42 pp6_0 pp6_1 X6 (X7.later b42) (lZ kz7.size h) jX7 (Nat.ne_of_gt (lY X7.lt h)) (bC kz7 b42))
  case' ns7_10 => refine lH ?_
  intro w43 pp6_0 pp6_1 X6 X7 jX6 jX7 ndX6_X7 kz7
  have S := Off.ofB kz7
  refine vY1 (cC 6 S (h6.out _ (ft.later (bC kk kz7))) fun w44 b44 => s7_14.out w44 pp6_0 pp6_1 (X6.later b44) (X7.later b44) jX6 jX7 ndX6_X7 (bC kz7 b44))
  case' ns7_11 => refine lH ?_
  intro w45 kz7
  have S := Off.ofB kz7
  refine vY2 (cA 14 S fun w46 pp6_0 h X6 b46 => ?_) (cA 15 S fun w47 pp6_1 h X7 b47 => ?_)
  have jX6 := (lZ kz7.size h); replace kz7 := bC kz7 b46
  clear S b46 h w45
  revert kz7; revert jX6; revert X6; revert pp6_0; revert w46
  exact s7_15.out
  have jX7 := (lZ kz7.size h); replace kz7 := bC kz7 b47
  clear S b47 h w45
  revert kz7; revert jX7; revert X7; revert pp6_1; revert w47
  exact s7_16.out
  case' ns7_12 => refine lH ?_
  intro w48 pp6_0 X6 jX6 kz7
  have S := Off.ofB kz7
  refine vY2 (cC 13 S (h8.out _ (ft.later (bC kk kz7))) fun w49 b49 => s7_15.out w49 pp6_0 (X6.later b49) jX6 (bC kz7 b49)) (cA 15 S fun w50 pp6_1 h X7 b50 => ?_)
  have ndX6_X7 : ¬ (pp6_0 = pp6_1) := (Nat.ne_of_lt (lY X6.lt h)); have jX7 := (lZ kz7.size h); replace X6 := (X6.later b50); replace kz7 := bC kz7 b50
  clear S b50 h w48
  revert kz7; revert ndX6_X7; revert jX7; revert jX6; revert X7; revert X6; revert pp6_1; revert pp6_0; revert w50
  exact s7_17.out
  case' ns7_13 => refine lH ?_
  intro w51 pp6_1 X7 jX7 kz7
  have S := Off.ofB kz7
  refine vY2 (cC 13 S (h8.out _ (ft.later (bC kk kz7))) fun w52 b52 => s7_16.out w52 pp6_1 (X7.later b52) jX7 (bC kz7 b52)) (cA 14 S fun w53 pp6_0 h X6 b53 => s7_17.out w53 pp6_0 pp6_1 X6 (X7.later b53) (lZ kz7.size h) jX7 (Nat.ne_of_gt (lY X7.lt h)) (bC kz7 b53))
  case' ns7_14 => refine lH ?_
  intro w54 pp6_0 pp6_1 X6 X7 jX6 jX7 ndX6_X7 kz7
  have S := Off.ofB kz7
  refine vY1 (cC 12 S (h7.out _ (ft.later (bC kk kz7))) fun w55 b55 => s7_17.out w55 pp6_0 pp6_1 (X6.later b55) (X7.later b55) jX6 jX7 ndX6_X7 (bC kz7 b55))
  case' ns7_15 => refine lH ?_
  intro w56 pp6_0 X6 jX6 kz7
  have S := Off.ofB kz7
  refine vY1 (cA 15 S fun w57 pp6_1 h X7 b57 => ?_)
  have ndX6_X7 : ¬ (pp6_0 = pp6_1) := (Nat.ne_of_lt (lY X6.lt h)); have jX7 := (lZ kz7.size h); replace X6 := (X6.later b57); replace kz7 := bC kz7 b57
  clear S b57 h w56
  revert kz7; revert ndX6_X7; revert jX7; revert jX6; revert X7; revert X6; revert pp6_1; revert pp6_0; revert w57
  exact s7_18.out
  case' ns7_16 => refine lH ?_
  intro w58 pp6_1 X7 jX7 kz7
  have S := Off.ofB kz7
  refine vY1 (cA 14 S fun w59 pp6_0 h X6 b59 => s7_18.out w59 pp6_0 pp6_1 X6 (X7.later b59) (lZ kz7.size h) jX7 (Nat.ne_of_gt (lY X7.lt h)) (bC kz7 b59))
  case' ns7_17 => refine lH ?_
  intro w60 pp6_0 pp6_1 X6 X7 jX6 jX7 ndX6_X7 kz7
  have S := Off.ofB kz7
  refine vY1 (cC 13 S (h8.out _ (ft.later (bC kk kz7))) fun w61 b61 => s7_18.out w61 pp6_0 pp6_1 (X6.later b61) (X7.later b61) jX6 jX7 ndX6_X7 (bC kz7 b61))
  case' ns7_18 => refine lH ?_
  intro w62 pp6_0 pp6_1 X6 X7 jX6 jX7 ndX6_X7 kz7
  have S := Off.ofB kz7
  refine vY1 (vO 16 fun K hK => ?_)
  have q := X6.o; have mX7 : ¬ (pp6_1 = pp6_0) := (by omega)
  go_simp
  refine vW (fun W => HB W pp6_0 31 #[.int .u64 yh, .int .u64 yl, .int .u8 fl] ∧ HB W pp6_1 31 #[.int .u64 0, .int .u64 0, .int .u8 0] ∧ Below w6.heap.size w6 W) ⟨(((X6.set 0 _).set 1 _).set 2 _), (((X7.other mX7 0 _).other mX7 1 _).other mX7 2 _), (((kz7.setCell (p := ⟨pp6_0, 0, none⟩) jX6 _).setCell (p := ⟨pp6_0, 1, none⟩) jX6 _).setCell (p := ⟨pp6_0, 2, none⟩) jX6 _)⟩ fun w64 hz => ?_
  clear q mX7 X6 X7 S kz7 w62; obtain ⟨X6, X7, kz7⟩ := hz
  refine hK.out _ _ (Off.ofB kz7) fun S => ?_; clear hK K S; refine vP ?_
  revert kz7; revert ndX6_X7; revert jX7; revert jX6; revert X7; revert X6; revert pp6_1; revert pp6_0; revert w64
  exact s7_19.out
  case' ns7_19 => refine lH ?_
  intro w65 pp6_0 pp6_1 X6 X7 jX6 jX7 ndX6_X7 kz7
  have S := Off.ofB kz7
  refine vY1 (vO 17 fun K hK => ?_)
  have q := X7.o; have mX6 : ¬ (pp6_0 = pp6_1) := (by omega)
  go_simp
  refine vW (fun W => HB W pp6_0 31 #[.int .u64 yh, .int .u64 yl, .int .u8 fl] ∧ HB W pp6_1 31 #[.int .u64 yh, .int .u64 yl, .int .u8 fl] ∧ Below w6.heap.size w6 W) ⟨(((X6.other mX6 0 _).other mX6 1 _).other mX6 2 _), (((X7.set 0 _).set 1 _).set 2 _), (((kz7.setCell (p := ⟨pp6_1, 0, none⟩) jX7 _).setCell (p := ⟨pp6_1, 1, none⟩) jX7 _).setCell (p := ⟨pp6_1, 2, none⟩) jX7 _)⟩ fun w67 hz => ?_
  clear q mX6 X6 X7 S kz7 w65; obtain ⟨X6, X7, kz7⟩ := hz
  refine hK.out _ _ (Off.ofB kz7) fun S => ?_; clear hK K S; refine vP ?_
  revert kz7; revert ndX6_X7; revert jX7; revert jX6; revert X7; revert X6; revert pp6_1; revert pp6_0; revert w67
  exact s7_20.out
  case' ns7_20 => refine lH ?_
  intro w68 pp6_0 pp6_1 X6 X7 jX6 jX7 ndX6_X7 kz7
  refine vD ?_
  have nX0_X6 : w.heap.size < pp6_0 := by have := X0.lt; omega
  have nX0_X7 : w.heap.size < pp6_1 := by have := X0.lt; omega
  have nX1_X6 : w.heap.size + 1 < pp6_0 := by have := X1.lt; omega
  have nX1_X7 : w.heap.size + 1 < pp6_1 := by have := X1.lt; omega
  have nX2_X6 : w.heap.size + 1 + 1 < pp6_0 := by have := X2.lt; omega
  have nX2_X7 : w.heap.size + 1 + 1 < pp6_1 := by have := X2.lt; omega
  have nX4_X6 : w4.heap.size < pp6_0 := by have := X4.lt; omega
  have nX4_X7 : w4.heap.size < pp6_1 := by have := X4.lt; omega
  have gX6 : w.heap.size ≤ pp6_0 := by have := kk.size; omega
  have gX7 : w.heap.size ≤ pp6_1 := by have := kk.size; omega
  go_wp2_with fail
  replace X0 := X0.later kz7
  replace X1 := X1.later kz7
  replace X2 := X2.later kz7
  replace X4 := X4.later kz7
  refine vR [] fun w69 b69 S69 => ?_
  refine vT 0 S69 ?_ (hy := by intro wq hb; have q := (hb.hb X6 (by simp)).o; go_simp; try (with_reducible rfl))
  refine vT 1 S69 ?_ (hy := by intro wq hb; have q := (hb.hb X7 (by simp)).o; go_simp; try (with_reducible rfl))
  refine vT 2 S69 ?_
  refine vT 3 S69 ?_
  refine vT 4 S69 ?_
  refine vT 5 S69 ?_ (hy := by intro wq hb; have q := (hb.hb X4 (by simp)).o; go_simp; try (with_reducible rfl))
  refine vT 6 S69 ?_
  refine vT 7 S69 ?_ (hy := by intro wq hb; have q := (hb.hb X6 (by simp)).o; go_simp; try (with_reducible rfl))
  refine vT 8 S69 ?_
  refine vT 9 S69 ?_
  refine vT 10 S69 ?_
  refine vT 11 S69 ?_ (hy := by intro wq hb; have q := (hb.hb X4 (by simp)).o; go_simp; try (with_reducible rfl))
  refine vT 12 S69 ?_
  refine vT 13 S69 ?_ (hy := by intro wq hb; have q := (hb.hb X0 (by simp)).o; go_simp; try (with_reducible rfl))
  refine vT 14 S69 ?_
  refine vT 15 S69 ?_ (hy := by intro wq hb; have q := (hb.hb X1 (by simp)).o; go_simp; try (with_reducible rfl))
  refine vT 17 S69 ?_
  refine vT 18 S69 ?_ (hy := by intro wq hb; have q := (hb.hb X2 (by simp)).o; go_simp; try (with_reducible rfl))
  refine vY1 (vC 16 S69 (h5.out _ (ft.later (bC kk (bC kz7 b69)))) (fun _ _ => Off.later) fun w70 b70 S70 => ?_)
  refine vY1 (vC 19 S70 (h7.out _ (ft.later (bC kk (bC (bC kz7 b69) b70)))) (fun _ _ => Off.later) fun w71 b71 S71 => ?_)
  refine vY1 (vC 20 S71 (h11.out _ (ft.later (bC kk (bC (bC (bC kz7 b69) b70) b71)))) (fun _ _ => Off.later) fun w72 b72 S72 => ?_)
  refine vT 21 S72 ?_
  refine vT 22 S72 ?_
  refine vD ?_
  replace X4 := X4.later (bC (bC (bC b69 b70) b71) b72)
  have oX4 := X4.o
  rcases HH with ⟨nq, h12, h13⟩ | ⟨nq, h12, h13, h14⟩
  · go_wp2_with fail
    refine vM (h12.out _ (ft.later (bC kk (bC (bC (bC (bC kz7 b69) b70) b71) b72)))) fun w73 b73 => ?_
    clear oX4
    replace X4 := X4.later b73
    have oX4 := X4.o
    replace X6 := X6.later (bC (bC (bC (bC b69 b70) b71) b72) b73)
    have oX6 := X6.o
    go_wp2_with fail
    refine vM (h13.out _ (ft.later (bC kk (bC (bC (bC (bC (bC kz7 b69) b70) b71) b72) b73)))) fun w74 b74 => ?_
    clear oX4 oX6
    go_wp2_with fail
    go_ret
    exact ⟨rfl, (bC kk (bC (bC (bC (bC (bC (bC kz7 b69) b70) b71) b72) b73) b74))⟩
  · go_wp2_with fail
    refine vM (h12.out _ (ft.later (bC kk (bC (bC (bC (bC kz7 b69) b70) b71) b72)))) fun w73 b73 => ?_
    clear oX4
    go_wp2_with fail
    replace X4 := X4.later b73
    replace X6 := X6.later (bC (bC (bC (bC b69 b70) b71) b72) b73)
    refine vR [] fun w74 b74 S74 => ?_
    refine vT 0 S74 ?_
    refine vT 1 S74 ?_ (hy := by intro wq hb; have q := (hb.hb X6 (by simp)).o; go_simp; try (with_reducible rfl))
    refine vT 2 S74 ?_
    refine vT 3 S74 ?_
    refine vT 4 S74 ?_ (hy := by intro wq hb; have q := (hb.hb X4 (by simp)).o; go_simp; try (with_reducible rfl))
    refine vY1 (vC 5 S74 (h13.out _ (ft.later (bC kk (bC (bC (bC (bC (bC (bC kz7 b69) b70) b71) b72) b73) b74)))) (fun _ _ => Off.later) fun w75 b75 S75 => ?_)
    refine vT 6 S75 ?_
    refine vT 7 S75 ?_
    refine vY1 (vC 8 S75 (h14.out _ (ft.later (bC kk (bC (bC (bC (bC (bC (bC (bC kz7 b69) b70) b71) b72) b73) b74) b75)))) (fun _ _ => Off.later) fun w76 b76 S76 => ?_)
    refine vT 9 S76 ?_
    refine vT 10 S76 ?_
    refine vD ?_
    go_wp2_with fail
    go_ret
    exact ⟨rfl, (bC kk (bC (bC (bC (bC (bC (bC (bC (bC kz7 b69) b70) b71) b72) b73) b74) b75) b76))⟩
end Go.Proofs.YtnlmceafleeaiaaGreatDoor
