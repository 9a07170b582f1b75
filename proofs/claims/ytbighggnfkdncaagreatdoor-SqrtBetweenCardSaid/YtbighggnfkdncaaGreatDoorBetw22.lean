import Derived.Test.YtbighggnfkdncaaGreatDoorGdA
import Derived.Test.YtbighggnfkdncaaGreatDoorGoA
import Derived.Test.YtbighggnfkdncaaGreatDoorGqB
set_option maxHeartbeats 4000000
set_option linter.unusedVariables false
set_option linter.unusedSimpArgs false
set_option maxRecDepth 100000
namespace Go.Proofs.YtbighggnfkdncaaGreatDoor
open Go.RowKit
attribute [local go_sem ↓] Go.wp_at_zero Go.wp_at_succ
theorem betw22_no1 (f m ah al mm c fl ff k0 k1 zh zl xh xl rh rl nh nl uh ul yh yl vh vl : Int) (t ng cy : Bool)
    (h0 : Hid (∀ w, FTab w → Ca 13 #[.int .u8 f, U2 ah al] w (U2 zh zl)))
    (h1 : Hid (∀ w, FTab w → Ca 14 #[.int .u8 f, U2 zh zl] w (.tuple #[.int .u8 c, .bool ng])))
    (h2 : Hid (∀ w, FTab w → Ca 12 #[] w (.bool true))) (m2 : m.tmod 5 = mm) (m3 : m % 5 = mm) (g1 : decide (2 < f) = true) (w : World) (ft : FTab w) :
    Ca 4 #[.int .u8 f, .agg #[.int .u8 m, .bool t], U2 ah al] w (.bool true) := by
  simp only [Ca, U2] at *
  go_enter Tryz.func4, Tryz.ntmps4
  go_wp2_with fail
  refine vM (h0.out _ (ft.later (bA (bA bR _) _))) fun w1 b1 => ?_
  have gX1 : w.heap.size ≤ w.heap.size + 1 := by omega
  have X1 := (HB.newAt (b := w.heap.size + 1) (by simp) _ _).later b1
  have oX1 := X1.o
  go_wp2_with fail
  refine vM (h1.out _ (ft.later (((bC (bA (bA bR _) _) b1).setCell (p := ⟨w.heap.size + 1, 0, none⟩) gX1 _).setCell (p := ⟨w.heap.size + 1, 1, none⟩) gX1 _))) fun w2 b2 => ?_
  have kk := bC (((bC (bA (bA bR _) _) b1).setCell (p := ⟨w.heap.size + 1, 0, none⟩) gX1 _).setCell (p := ⟨w.heap.size + 1, 1, none⟩) gX1 _) b2
  clear oX1
  go_wp2_with fail
  refine vM (h2.out _ (ft.later kk)) fun w3 b3 => ?_
  go_wp2_with fail
  go_ret
  exact ⟨rfl, (bC kk b3)⟩
theorem betw22_no2 (f m ah al mm c fl ff k0 k1 zh zl xh xl rh rl nh nl uh ul yh yl vh vl : Int) (t ng cy : Bool)
    (h0 : Hid (∀ w, FTab w → Ca 13 #[.int .u8 f, U2 ah al] w (U2 zh zl)))
    (h1 : Hid (∀ w, FTab w → Ca 14 #[.int .u8 f, U2 zh zl] w (.tuple #[.int .u8 c, .bool ng])))
    (h2 : Hid (∀ w, FTab w → Ca 12 #[] w (.bool true))) (m2 : m.tmod 5 = mm) (m3 : m % 5 = mm) (g1 : decide (2 < f) = false) (g2 : (c != 1) = true) (g3 : (c != 2) = true) (w : World) (ft : FTab w) :
    Ca 4 #[.int .u8 f, .agg #[.int .u8 m, .bool t], U2 ah al] w (.bool true) := by
  simp only [Ca, U2] at *
  go_enter Tryz.func4, Tryz.ntmps4
  go_wp2_with fail
  refine vM (h0.out _ (ft.later (bA (bA bR _) _))) fun w1 b1 => ?_
  have gX1 : w.heap.size ≤ w.heap.size + 1 := by omega
  have X1 := (HB.newAt (b := w.heap.size + 1) (by simp) _ _).later b1
  have oX1 := X1.o
  go_wp2_with fail
  refine vM (h1.out _ (ft.later (((bC (bA (bA bR _) _) b1).setCell (p := ⟨w.heap.size + 1, 0, none⟩) gX1 _).setCell (p := ⟨w.heap.size + 1, 1, none⟩) gX1 _))) fun w2 b2 => ?_
  have kk := bC (((bC (bA (bA bR _) _) b1).setCell (p := ⟨w.heap.size + 1, 0, none⟩) gX1 _).setCell (p := ⟨w.heap.size + 1, 1, none⟩) gX1 _) b2
  clear oX1
  go_wp2_with fail
  refine vM (h2.out _ (ft.later kk)) fun w3 b3 => ?_
  go_wp2_with fail
  go_ret
  exact ⟨rfl, (bC kk b3)⟩
theorem betw22_sub (f m ah al mm c fl ff k0 k1 zh zl xh xl rh rl nh nl uh ul yh yl vh vl : Int) (t ng cy : Bool)
    (h0 : Hid (∀ w, FTab w → Ca 13 #[.int .u8 f, U2 ah al] w (U2 zh zl)))
    (h1 : Hid (∀ w, FTab w → Ca 14 #[.int .u8 f, U2 zh zl] w (.tuple #[.int .u8 c, .bool ng])))
    (h2 : Hid (∀ w, FTab w → Ca 10 #[.int .u8 f, .agg #[.int .u8 mm, .bool t], U2 zh zl] w (.agg #[.int .u64 xh, .int .u64 xl, .int .u8 ff])))
    (h3 : Hid (∀ w, FTab w → Ca 10 #[.int .u8 f, .agg #[.int .u8 4, .bool false], U2 zh zl] w (.agg #[.int .u64 rh, .int .u64 rl, .int .u8 fl])))
    (h4 : Hid (∀ w, Ca 15 #[U2 rh rl, U2 0 1] w (.tuple #[U2 nh nl, .bool cy])))
    (h5 : Hid (∀ w, FTab w → Ca 16 #[.int .u8 f, U2 rh rl] w (U2 uh ul)))
    (h6 : Hid (∀ w, FTab w → Ca 16 #[.int .u8 f, U2 nh nl] w (U2 yh yl)))
    (h7 : Hid (∀ w, FTab w → Ca 17 #[.int .u8 f, U2 zh zl] w (U2 vh vl)))
    (h8 : Hid (∀ w, Ca 18 #[U2 uh ul, U2 vh vl] w (.int .i64 k0)))
    (h9 : Hid (∀ w, Ca 18 #[U2 yh yl, U2 vh vl] w (.int .i64 k1)))
    (h10 : Hid (∀ w, FTab w → Ca 12 #[] w (.bool true))) (m2 : m.tmod 5 = mm) (m3 : m % 5 = mm) (g1 : decide (2 < f) = false) (g2 : (c != 1) = false) (a1 : bits .andNot .u8 ff 16 = 0) (l1 : decide (k0 ≤ 0) = true) (l2 : decide (0 < k1) = true) (l3 : (k0 == 0) = (fl == 0)) (w : World) (ft : FTab w) :
    Ca 4 #[.int .u8 f, .agg #[.int .u8 m, .bool t], U2 ah al] w (.bool true) := by
  simp only [Ca, U2] at *
  go_enter Tryz.func4, Tryz.ntmps4
  go_wp2_with fail
  refine vM (h0.out _ (ft.later (bA (bA bR _) _))) fun w1 b1 => ?_
  have gX1 : w.heap.size ≤ w.heap.size + 1 := by omega
  have X0 := ((HB.newAt (b := w.heap.size) (by simp) _ _).alloc _).later b1
  have X1 := (HB.newAt (b := w.heap.size + 1) (by simp) _ _).later b1
  have oX1 := X1.o
  go_wp2_with fail
  refine vM (h1.out _ (ft.later (((bC (bA (bA bR _) _) b1).setCell (p := ⟨w.heap.size + 1, 0, none⟩) gX1 _).setCell (p := ⟨w.heap.size + 1, 1, none⟩) gX1 _))) fun w2 b2 => ?_
  replace X0 := ((X0.other (by omega) 0 _).other (by omega) 1 _).later b2
  replace X1 := ((X1.set 0 _).set 1 _).later b2
  have kk := bC (((bC (bA (bA bR _) _) b1).setCell (p := ⟨w.heap.size + 1, 0, none⟩) gX1 _).setCell (p := ⟨w.heap.size + 1, 1, none⟩) gX1 _) b2
  clear oX1
  have oX0 := X0.o
  have oX1 := X1.o
  go_wp2_with fail
  refine vM (h2.out _ (ft.later kk)) fun w3 b3 => ?_
  clear oX0 oX1
  have hfd1 : ∀ w : World, (Instr.field 31 (.agg #[.int .u64 xh, .int .u64 xl, .int .u8 ff]) 1).run Tryz.prog w = .ok (.int .u8 ff) w := fun _ => by kernel_rfl
  replace X1 := X1.later b3
  have oX1 := X1.o
  go_wp2_with fail
  refine vM (h3.out _ (ft.later (bC kk b3))) fun w4 b4 => ?_
  clear oX1
  go_wp2_with fail
  refine vM (h4.out _) fun w5 b5 => ?_
  replace X1 := X1.later b4
  have nX1_X2 : w.heap.size + 1 < w4.heap.size := by have := X1.lt; omega
  have X2 := (HB.newAt (b := w4.heap.size) (by simp) _ _).later b5
  go_wp2_with fail
  replace X1 := X1.later (bC (bA bR _) b5)
  have nX1_X3 : w.heap.size + 1 < w5.heap.size := by have := X1.lt; omega
  refine vF1 fun w6 b6 X3 => ?_
  replace X2 := X2.later b6
  refine' (have s7_12 : Hid (_ : Prop) := ?ns7_12; ?ms7_12)
  case' ms7_12 => skip
  refine' (have s7_11 : Hid (_ : Prop) := ?ns7_11; ?ms7_11)
  case' ms7_11 => skip
  refine' (have s7_10 : Hid (_ : Prop) := ?ns7_10; ?ms7_10)
  case' ms7_10 => skip
  refine' (have s7_9 : Hid (_ : Prop) := ?ns7_9; ?ms7_9)
  case' ms7_9 => skip
  refine' (have s7_8 : Hid (_ : Prop) := ?ns7_8; ?ms7_8)
  case' ms7_8 => skip
  refine' (have s7_7 : Hid (_ : Prop) := ?ns7_7; ?ms7_7)
  case' ms7_7 => skip
  refine' (have s7_6 : Hid (_ : Prop) := ?ns7_6; ?ms7_6)
  case' ms7_6 => skip
  refine' (have s7_5 : Hid (_ : Prop) := ?ns7_5; ?ms7_5)
  case' ms7_5 => skip
  refine' (have s7_4 : Hid (_ : Prop) := ?ns7_4; ?ms7_4)
  case' ms7_4 => skip
  refine' (have s7_3 : Hid (_ : Prop) := ?ns7_3; ?ms7_3)
  case' ms7_3 => skip
  refine' (have s7_2 : Hid (_ : Prop) := ?ns7_2; ?ms7_2)
  case' ms7_2 => skip
  refine' (have s7_1 : Hid (_ : Prop) := ?ns7_1; ?ms7_1)
  case' ms7_1 => skip
  refine' (have s7_0 : Hid (_ : Prop) := ?ns7_0; ?ms7_0)
  case' ms7_0 => skip
  refine vR [] fun w7 kz7 S => ?_
  refine vT 0 S ?_
  refine vT 1 S ?_
  refine vT 2 S ?_ (hy := by intro wq hb; have q := (hb.hb X2 (by simp)).o; go_simp; try (with_reducible rfl))
  refine vT 4 S ?_
  refine vT 5 S ?_ (hy := by intro wq hb; have q := (hb.hb X3 (by simp)).o; go_simp; try (with_reducible rfl))
  refine vY3 (cC 3 S (h5.out _ (ft.later (bC kk (bC (bC (bC (bC b3 b4) (bC (bA bR _) b5)) b6) kz7)))) fun w8 b8 => ?_) (cA 7 S fun w9 pp6_0 h X4 b9 => ?_) (cA 8 S fun w10 pp6_1 h X5 b10 => ?_)
  replace kz7 := bC kz7 b8
  clear S b8 w7
  revert kz7; revert w8
  exact s7_0.out
  have jX4 := (lZ kz7.size h); replace kz7 := bC kz7 b9
  clear S b9 h w7
  revert kz7; revert jX4; revert X4; revert pp6_0; revert w9
  exact s7_1.out
  have jX5 := (lZ kz7.size h); replace kz7 := bC kz7 b10
  clear S b10 h w7
  revert kz7; revert jX5; revert X5; revert pp6_1; revert w10
  exact s7_2.out
  case' ns7_0 => refine lH ?_
  intro w11 kz7
  have S := Off.ofB kz7
  refine vY3 (cC 6 S (h6.out _ (ft.later (bC kk (bC (bC (bC (bC b3 b4) (bC (bA bR _) b5)) b6) kz7)))) fun w12 b12 => ?_) (cA 7 S fun w13 pp6_0 h X4 b13 => ?_) (cA 8 S fun w14 pp6_1 h X5 b14 => ?_)
  replace kz7 := bC kz7 b12
  clear S b12 w11
  revert kz7; revert w12
  exact s7_3.out
  have jX4 := (lZ kz7.size h); replace kz7 := bC kz7 b13
  clear S b13 h w11
  revert kz7; revert jX4; revert X4; revert pp6_0; revert w13
  exact s7_4.out
  have jX5 := (lZ kz7.size h); replace kz7 := bC kz7 b14
  clear S b14 h w11
  revert kz7; revert jX5; revert X5; revert pp6_1; revert w14
  exact s7_5.out
  case' ns7_1 => refine lH ?_
  intro w15 pp6_0 X4 jX4 kz7
  have S := Off.ofB kz7
  refine vY2 (cC 3 S (h5.out _ (ft.later (bC kk (bC (bC (bC (bC b3 b4) (bC (bA bR _) b5)) b6) kz7)))) fun w16 b16 => s7_4.out w16 pp6_0 (X4.later b16) jX4 (bC kz7 b16)) (cA 8 S fun w17 pp6_1 h X5 b17 => ?_)
  have ndX4_X5 : ¬ (pp6_0 = pp6_1) := (Nat.ne_of_lt (lY X4.lt h)); have jX5 := (lZ kz7.size h); replace X4 := (X4.later b17); replace kz7 := bC kz7 b17
  clear S b17 h w15
  revert kz7; revert ndX4_X5; revert jX5; revert jX4; revert X5; revert X4; revert pp6_1; revert pp6_0; revert w17
  exact s7_6.out
  case' ns7_2 => refine lH ?_
  intro w18 pp6_1 X5 jX5 kz7
  have S := Off.ofB kz7
  refine vY2 (cC 3 S (h5.out _ (ft.later (bC kk (bC (bC (bC (bC b3 b4) (bC (bA bR _) b5)) b6) kz7)))) fun w19 b19 => s7_5.out w19 pp6_1 (X5.later b19) jX5 (bC kz7 b19)) (cA 7 S fun w20 pp6_0 h X4 b20 => s7_6.out w20 pp6_0 pp6_1 X4 (X5.later b20) (lZ kz7.size h) jX5 (Nat.ne_of_gt (lY X5.lt h)) (bC kz7 b20))
  case' ns7_3 => refine lH ?_
  intro w21 kz7
  have S := Off.ofB kz7
  refine vY2 (cA 7 S fun w22 pp6_0 h X4 b22 => ?_) (cA 8 S fun w23 pp6_1 h X5 b23 => ?_)
  have jX4 := (lZ kz7.size h); replace kz7 := bC kz7 b22
  clear S b22 h w21
  revert kz7; revert jX4; revert X4; revert pp6_0; revert w22
  exact s7_7.out
  have jX5 := (lZ kz7.size h); replace kz7 := bC kz7 b23
  clear S b23 h w21
  revert kz7; revert jX5; revert X5; revert pp6_1; revert w23
  exact s7_8.out
  case' ns7_4 => refine lH ?_
  intro w24 pp6_0 X4 jX4 kz7
  have S := Off.ofB kz7
  refine vY2 (cC 6 S (h6.out _ (ft.later (bC kk (bC (bC (bC (bC b3 b4) (bC (bA bR _) b5)) b6) kz7)))) fun w25 b25 => s7_7.out w25 pp6_0 (X4.later b25) jX4 (bC kz7 b25)) (cA 8 S fun w26 pp6_1 h X5 b26 => ?_)
  have ndX4_X5 : ¬ (pp6_0 = pp6_1) := (Nat.ne_of_lt (lY X4.lt h)); have jX5 := (lZ kz7.size h); replace X4 := (X4.later b26); replace kz7 := bC kz7 b26
  clear S b26 h w24
  revert kz7; revert ndX4_X5; revert jX5; revert jX4; revert X5; revert X4; revert pp6_1; revert pp6_0; revert w26
  exact s7_9.out
  case' ns7_5 => refine lH ?_
  intro w27 pp6_1 X5 jX5 kz7
  have S := Off.ofB kz7
  refine vY2 (cC 6 S (h6.out _ (ft.later (bC kk (bC (bC (bC (bC b3 b4) (bC (bA bR _) b5)) b6) kz7)))) fun w28 b28 => s7_8.out w28 pp6_1 (X5.later b28) jX5 (bC kz7 b28)) (cA 7 S fun w29 pp6_0 h X4 b29 => s7_9.out w29 pp6_0 pp6_1 X4 (X5.later b29) (lZ kz7.size h) jX5 (Nat.ne_of_gt (lY X5.lt h)) (bC kz7 b29))
  case' ns7_6 => refine lH ?_
  intro w30 pp6_0 pp6_1 X4 X5 jX4 jX5 ndX4_X5 kz7
  have S := Off.ofB kz7
  refine vY1 (cC 3 S (h5.out _ (ft.later (bC kk (bC (bC (bC (bC b3 b4) (bC (bA bR _) b5)) b6) kz7)))) fun w31 b31 => s7_9.out w31 pp6_0 pp6_1 (X4.later b31) (X5.later b31) jX4 jX5 ndX4_X5 (bC kz7 b31))
  case' ns7_7 => refine lH ?_
  intro w32 pp6_0 X4 jX4 kz7
  have S := Off.ofB kz7
  refine vY1 (cA 8 S fun w33 pp6_1 h X5 b33 => ?_)
  have ndX4_X5 : ¬ (pp6_0 = pp6_1) := (Nat.ne_of_lt (lY X4.lt h)); have jX5 := (lZ kz7.size h); replace X4 := (X4.later b33); replace kz7 := bC kz7 b33
  clear S b33 h w32
  revert kz7; revert ndX4_X5; revert jX5; revert jX4; revert X5; revert X4; revert pp6_1; revert pp6_0; revert w33
  exact s7_10.out
  case' ns7_8 => refine lH ?_
  intro w34 pp6_1 X5 jX5 kz7
  have S := Off.ofB kz7
  refine vY1 (cA 7 S fun w35 pp6_0 h X4 b35 => s7_10.out w35 pp6_0 pp6_1 X4 (X5.later b35) (lZ kz7.size h) jX5 (Nat.ne_of_gt (lY X5.lt h)) (bC kz7 b35))
  case' ns7_9 => refine lH ?_
  intro w36 pp6_0 pp6_1 X4 X5 jX4 jX5 ndX4_X5 kz7
  have S := Off.ofB kz7
  refine vY1 (cC 6 S (h6.out _ (ft.later (bC kk (bC (bC (bC (bC b3 b4) (bC (bA bR _) b5)) b6) kz7)))) fun w37 b37 => s7_10.out w37 pp6_0 pp6_1 (X4.later b37) (X5.later b37) jX4 jX5 ndX4_X5 (bC kz7 b37))
  case' ns7_10 => refine lH ?_
  intro w38 pp6_0 pp6_1 X4 X5 jX4 jX5 ndX4_X5 kz7
  have S := Off.ofB kz7
  refine vY1 (vO 9 fun K hK => ?_)
  have q := X4.o; have mX5 : ¬ (pp6_1 = pp6_0) := (by omega)
  go_simp
  refine vW (fun W => HB W pp6_0 28 #[.int .u64 uh, .int .u64 ul] ∧ HB W pp6_1 28 #[.int .u64 0, .int .u64 0] ∧ Below w6.heap.size w6 W) ⟨((X4.set 0 _).set 1 _), ((X5.other mX5 0 _).other mX5 1 _), ((kz7.setCell (p := ⟨pp6_0, 0, none⟩) jX4 _).setCell (p := ⟨pp6_0, 1, none⟩) jX4 _)⟩ fun w40 hz => ?_
  clear q mX5 X4 X5 S kz7 w38; obtain ⟨X4, X5, kz7⟩ := hz
  refine hK.out _ _ (Off.ofB kz7) fun S => ?_; clear hK K S; refine vP ?_
  revert kz7; revert ndX4_X5; revert jX5; revert jX4; revert X5; revert X4; revert pp6_1; revert pp6_0; revert w40
  exact s7_11.out
  case' ns7_11 => refine lH ?_
  intro w41 pp6_0 pp6_1 X4 X5 jX4 jX5 ndX4_X5 kz7
  have S := Off.ofB kz7
  refine vY1 (vO 10 fun K hK => ?_)
  have q := X5.o; have mX4 : ¬ (pp6_0 = pp6_1) := (by omega)
  go_simp
  refine vW (fun W => HB W pp6_0 28 #[.int .u64 uh, .int .u64 ul] ∧ HB W pp6_1 28 #[.int .u64 yh, .int .u64 yl] ∧ Below w6.heap.size w6 W) ⟨((X4.other mX4 0 _).other mX4 1 _), ((X5.set 0 _).set 1 _), ((kz7.setCell (p := ⟨pp6_1, 0, none⟩) jX5 _).setCell (p := ⟨pp6_1, 1, none⟩) jX5 _)⟩ fun w43 hz => ?_
  clear q mX4 X4 X5 S kz7 w41; obtain ⟨X4, X5, kz7⟩ := hz
  refine hK.out _ _ (Off.ofB kz7) fun S => ?_; clear hK K S; refine vP ?_
  revert kz7; revert ndX4_X5; revert jX5; revert jX4; revert X5; revert X4; revert pp6_1; revert pp6_0; revert w43
  exact s7_12.out
  case' ns7_12 => refine lH ?_
  intro w44 pp6_0 pp6_1 X4 X5 jX4 jX5 ndX4_X5 kz7
  refine vD ?_
  replace X1 := X1.later b6
  have nX1_X4 : w.heap.size + 1 < pp6_0 := by have := X1.lt; omega
  have nX1_X5 : w.heap.size + 1 < pp6_1 := by have := X1.lt; omega
  have nX2_X4 : w4.heap.size < pp6_0 := by have := X2.lt; omega
  have nX2_X5 : w4.heap.size < pp6_1 := by have := X2.lt; omega
  have gX4 : w.heap.size ≤ pp6_0 := by have := (bC kk (bC (bC (bC b3 b4) (bC (bA bR _) b5)) b6)).size; omega
  have gX5 : w.heap.size ≤ pp6_1 := by have := (bC kk (bC (bC (bC b3 b4) (bC (bA bR _) b5)) b6)).size; omega
  replace X1 := X1.later kz7
  have oX1 := X1.o
  go_wp2_with fail
  refine vM (h7.out _ (ft.later (bC kk (bC (bC (bC (bC b3 b4) (bC (bA bR _) b5)) b6) kz7)))) fun w45 b45 => ?_
  clear oX1
  replace X4 := X4.later b45
  have oX4 := X4.o
  go_wp2_with fail
  refine vM (h8.out _) fun w46 b46 => ?_
  replace X5 := X5.later b45
  have nX5_X6 : pp6_1 < w45.heap.size := by have := X5.lt; omega
  have X6 := (HB.newAt (b := w45.heap.size) (by simp) _ _).later b46
  clear oX4
  replace X5 := X5.later (bC (bA bR _) b46)
  have oX5 := X5.o
  have oX6 := X6.o
  go_wp2_with fail
  refine vM (h9.out _) fun w47 b47 => ?_
  clear oX5 oX6
  replace X2 := X2.later (bC (bC (bC kz7 b45) (bC (bA bR _) b46)) b47)
  have oX2 := X2.o
  go_wp2_with fail
  refine vM (h10.out _ (ft.later (bC kk (bC (bC (bC (bC (bC (bC (bC b3 b4) (bC (bA bR _) b5)) b6) kz7) b45) (bC (bA bR _) b46)) b47)))) fun w48 b48 => ?_
  clear oX2
  go_wp2_with fail
  go_ret
  exact ⟨rfl, (bC kk (bC (bC (bC (bC (bC (bC (bC (bC b3 b4) (bC (bA bR _) b5)) b6) kz7) b45) (bC (bA bR _) b46)) b47) b48))⟩
theorem betw22_nor (f m ah al mm c fl ff k0 k1 zh zl xh xl rh rl nh nl uh ul yh yl vh vl : Int) (t ng cy : Bool)
    (h0 : Hid (∀ w, FTab w → Ca 13 #[.int .u8 f, U2 ah al] w (U2 zh zl)))
    (h1 : Hid (∀ w, FTab w → Ca 14 #[.int .u8 f, U2 zh zl] w (.tuple #[.int .u8 c, .bool ng])))
    (h2 : Hid (∀ w, FTab w → Ca 10 #[.int .u8 f, .agg #[.int .u8 mm, .bool t], U2 zh zl] w (.agg #[.int .u64 xh, .int .u64 xl, .int .u8 ff])))
    (h3 : Hid (∀ w, FTab w → Ca 10 #[.int .u8 f, .agg #[.int .u8 4, .bool false], U2 zh zl] w (.agg #[.int .u64 rh, .int .u64 rl, .int .u8 fl])))
    (h4 : Hid (∀ w, Ca 15 #[U2 rh rl, U2 0 1] w (.tuple #[U2 nh nl, .bool cy])))
    (h5 : Hid (∀ w, FTab w → Ca 16 #[.int .u8 f, U2 rh rl] w (U2 uh ul)))
    (h6 : Hid (∀ w, FTab w → Ca 16 #[.int .u8 f, U2 nh nl] w (U2 yh yl)))
    (h7 : Hid (∀ w, FTab w → Ca 17 #[.int .u8 f, U2 zh zl] w (U2 vh vl)))
    (h8 : Hid (∀ w, Ca 18 #[U2 uh ul, U2 vh vl] w (.int .i64 k0)))
    (h9 : Hid (∀ w, Ca 18 #[U2 yh yl, U2 vh vl] w (.int .i64 k1)))
    (h10 : Hid (∀ w, FTab w → Ca 12 #[] w (.bool true))) (m2 : m.tmod 5 = mm) (m3 : m % 5 = mm) (g1 : decide (2 < f) = false) (g2 : (c != 1) = true) (g3 : (c != 2) = false) (a1 : bits .andNot .u8 ff 16 = 0) (l1 : decide (k0 ≤ 0) = true) (l2 : decide (0 < k1) = true) (l3 : (k0 == 0) = (fl == 0)) (w : World) (ft : FTab w) :
    Ca 4 #[.int .u8 f, .agg #[.int .u8 m, .bool t], U2 ah al] w (.bool true) := by
  simp only [Ca, U2] at *
  go_enter Tryz.func4, Tryz.ntmps4
  go_wp2_with fail
  refine vM (h0.out _ (ft.later (bA (bA bR _) _))) fun w1 b1 => ?_
  have gX1 : w.heap.size ≤ w.heap.size + 1 := by omega
  have X0 := ((HB.newAt (b := w.heap.size) (by simp) _ _).alloc _).later b1
  have X1 := (HB.newAt (b := w.heap.size + 1) (by simp) _ _).later b1
  have oX1 := X1.o
  go_wp2_with fail
  refine vM (h1.out _ (ft.later (((bC (bA (bA bR _) _) b1).setCell (p := ⟨w.heap.size + 1, 0, none⟩) gX1 _).setCell (p := ⟨w.heap.size + 1, 1, none⟩) gX1 _))) fun w2 b2 => ?_
  replace X0 := ((X0.other (by omega) 0 _).other (by omega) 1 _).later b2
  replace X1 := ((X1.set 0 _).set 1 _).later b2
  have kk := bC (((bC (bA (bA bR _) _) b1).setCell (p := ⟨w.heap.size + 1, 0, none⟩) gX1 _).setCell (p := ⟨w.heap.size + 1, 1, none⟩) gX1 _) b2
  clear oX1
  have oX0 := X0.o
  have oX1 := X1.o
  go_wp2_with fail
  refine vM (h2.out _ (ft.later kk)) fun w3 b3 => ?_
  clear oX0 oX1
  have hfd1 : ∀ w : World, (Instr.field 31 (.agg #[.int .u64 xh, .int .u64 xl, .int .u8 ff]) 1).run Tryz.prog w = .ok (.int .u8 ff) w := fun _ => by kernel_rfl
  replace X1 := X1.later b3
  have oX1 := X1.o
  go_wp2_with fail
  refine vM (h3.out _ (ft.later (bC kk b3))) fun w4 b4 => ?_
  clear oX1
  go_wp2_with fail
  refine vM (h4.out _) fun w5 b5 => ?_
  replace X1 := X1.later b4
  have nX1_X2 : w.heap.size + 1 < w4.heap.size := by have := X1.lt; omega
  have X2 := (HB.newAt (b := w4.heap.size) (by simp) _ _).later b5
  go_wp2_with fail
  replace X1 := X1.later (bC (bA bR _) b5)
  have nX1_X3 : w.heap.size + 1 < w5.heap.size := by have := X1.lt; omega
  refine vF1 fun w6 b6 X3 => ?_
  replace X2 := X2.later b6
  refine' (have s7_12 : Hid (_ : Prop) := ?ns7_12; ?ms7_12)
  case' ms7_12 => skip
  refine' (have s7_11 : Hid (_ : Prop) := ?ns7_11; ?ms7_11)
  case' ms7_11 => skip
  refine' (have s7_10 : Hid (_ : Prop) := ?ns7_10; ?ms7_10)
  case' ms7_10 => skip
  refine' (have s7_9 : Hid (_ : Prop) := ?ns7_9; ?ms7_9)
  case' ms7_9 => skip
  refine' (have s7_8 : Hid (_ : Prop) := ?ns7_8; ?ms7_8)
  case' ms7_8 => skip
  refine' (have s7_7 : Hid (_ : Prop) := ?ns7_7; ?ms7_7)
  case' ms7_7 => skip
  refine' (have s7_6 : Hid (_ : Prop) := ?ns7_6; ?ms7_6)
  case' ms7_6 => skip
  refine' (have s7_5 : Hid (_ : Prop) := ?ns7_5; ?ms7_5)
  case' ms7_5 => skip
  refine' (have s7_4 : Hid (_ : Prop) := ?ns7_4; ?ms7_4)
  case' ms7_4 => skip
  refine' (have s7_3 : Hid (_ : Prop) := ?ns7_3; ?ms7_3)
  case' ms7_3 => skip
  refine' (have s7_2 : Hid (_ : Prop) := ?ns7_2; ?ms7_2)
  case' ms7_2 => skip
  refine' (have s7_1 : Hid (_ : Prop) := ?ns7_1; ?ms7_1)
  case' ms7_1 => skip
  refine' (have s7_0 : Hid (_ : Prop) := ?ns7_0; ?ms7_0)
  case' ms7_0 => skip
  refine vR [] fun w7 kz7 S => ?_
  refine vT 0 S ?_
  refine vT 1 S ?_
  refine vT 2 S ?_ (hy := by intro wq hb; have q := (hb.hb X2 (by simp)).o; go_simp; try (with_reducible rfl))
  refine vT 4 S ?_
  refine vT 5 S ?_ (hy := by intro wq hb; have q := (hb.hb X3 (by simp)).o; go_simp; try (with_reducible rfl))
  refine vY3 (cC 3 S (h5.out _ (ft.later (bC kk (bC (bC (bC (bC b3 b4) (bC (bA bR _) b5)) b6) kz7)))) fun w8 b8 => ?_) (cA 7 S fun w9 pp6_0 h X4 b9 => ?_) (cA 8 S fun w10 pp6_1 h X5 b10 => ?_)
  replace kz7 := bC kz7 b8
  clear S b8 w7
  revert kz7; revert w8
  exact s7_0.out
  have jX4 := (lZ kz7.size h); replace kz7 := bC kz7 b9
  clear S b9 h w7
  revert kz7; revert jX4; revert X4; revert pp6_0; revert w9
  exact s7_1.out
  have jX5 := (lZ kz7.size h); replace kz7 := bC kz7 b10
  clear S b10 h w7
  revert kz7; revert jX5; revert X5; revert pp6_1; revert w10
  exact s7_2.out
  case' ns7_0 => refine lH ?_
  intro w11 kz7
  have S := Off.ofB kz7
  refine vY3 (cC 6 S (h6.out _ (ft.later (bC kk (bC (bC (bC (bC b3 b4) (bC (bA bR _) b5)) b6) kz7)))) fun w12 b12 => ?_) (cA 7 S fun w13 pp6_0 h X4 b13 => ?_) (cA 8 S fun w14 pp6_1 h X5 b14 => ?_)
  replace kz7 := bC kz7 b12
  clear S b12 w11
  revert kz7; revert w12
  exact s7_3.out
  have jX4 := (lZ kz7.size h); replace kz7 := bC kz7 b13
  clear S b13 h w11
  revert kz7; revert jX4; revert X4; revert pp6_0; revert w13
  exact s7_4.out
  have jX5 := (lZ kz7.size h); replace kz7 := bC kz7 b14
  clear S b14 h w11
  revert kz7; revert jX5; revert X5; revert pp6_1; revert w14
  exact s7_5.out
  case' ns7_1 => refine lH ?_
  intro w15 pp6_0 X4 jX4 kz7
  have S := Off.ofB kz7
  refine vY2 (cC 3 S (h5.out _ (ft.later (bC kk (bC (bC (bC (bC b3 b4) (bC (bA bR _) b5)) b6) kz7)))) fun w16 b16 => s7_4.out w16 pp6_0 (X4.later b16) jX4 (bC kz7 b16)) (cA 8 S fun w17 pp6_1 h X5 b17 => ?_)
  have ndX4_X5 : ¬ (pp6_0 = pp6_1) := (Nat.ne_of_lt (lY X4.lt h)); have jX5 := (lZ kz7.size h); replace X4 := (X4.later b17); replace kz7 := bC kz7 b17
  clear S b17 h w15
  revert kz7; revert ndX4_X5; revert jX5; revert jX4; revert X5; revert X4; revert pp6_1; revert pp6_0; revert w17
  exact s7_6.out
  case' ns7_2 => refine lH ?_
  intro w18 pp6_1 X5 jX5 kz7
  have S := Off.ofB kz7
  refine vY2 (cC 3 S (h5.out _ (ft.later (bC kk (bC (bC (bC (bC b3 b4) (bC (bA bR _) b5)) b6) kz7)))) fun w19 b19 => s7_5.out w19 pp6_1 (X5.later b19) jX5 (bC kz7 b19)) (cA 7 S fun w20 pp6_0 h X4 b20 => s7_6.out w20 pp6_0 pp6_1 X4 (X5.later b20) (lZ kz7.size h) jX5 (Nat.ne_of_gt (lY X5.lt h)) (bC kz7 b20))
  case' ns7_3 => refine lH ?_
  intro w21 kz7
  have S := Off.ofB kz7
  refine vY2 (cA 7 S fun w22 pp6_0 h X4 b22 => ?_) (cA 8 S fun w23 pp6_1 h X5 b23 => ?_)
  have jX4 := (lZ kz7.size h); replace kz7 := bC kz7 b22
  clear S b22 h w21
  revert kz7; revert jX4; revert X4; revert pp6_0; revert w22
  exact s7_7.out
  have jX5 := (lZ kz7.size h); replace kz7 := bC kz7 b23
  clear S b23 h w21
  revert kz7; revert jX5; revert X5; revert pp6_1; revert w23
  exact s7_8.out
  case' ns7_4 => refine lH ?_
  intro w24 pp6_0 X4 jX4 kz7
  have S := Off.ofB kz7
  refine vY2 (cC 6 S (h6.out _ (ft.later (bC kk (bC (bC (bC (bC b3 b4) (bC (bA bR _) b5)) b6) kz7)))) fun w25 b25 => s7_7.out w25 pp6_0 (X4.later b25) jX4 (bC kz7 b25)) (cA 8 S fun w26 pp6_1 h X5 b26 => ?_)
  have ndX4_X5 : ¬ (pp6_0 = pp6_1) := (Nat.ne_of_lt (lY X4.lt h)); have jX5 := (lZ kz7.size h); replace X4 := (X4.later b26); replace kz7 := bC kz7 b26
  clear S b26 h w24
  revert kz7; revert ndX4_X5; revert jX5; revert jX4; revert X5; revert X4; revert pp6_1; revert pp6_0; revert w26
  exact s7_9.out
  case' ns7_5 => refine lH ?_
  intro w27 pp6_1 X5 jX5 kz7
  have S := Off.ofB kz7
  refine vY2 (cC 6 S (h6.out _ (ft.later (bC kk (bC (bC (bC (bC b3 b4) (bC (bA bR _) b5)) b6) kz7)))) fun w28 b28 => s7_8.out w28 pp6_1 (X5.later b28) jX5 (bC kz7 b28)) (cA 7 S fun w29 pp6_0 h X4 b29 => s7_9.out w29 pp6_0 pp6_1 X4 (X5.later b29) (lZ kz7.size h) jX5 (Nat.ne_of_gt (lY X5.lt h)) (bC kz7 b29))
  case' ns7_6 => refine lH ?_
  intro w30 pp6_0 pp6_1 X4 X5 jX4 jX5 ndX4_X5 kz7
  have S := Off.ofB kz7
  refine vY1 (cC 3 S (h5.out _ (ft.later (bC kk (bC (bC (bC (bC b3 b4) (bC (bA bR _) b5)) b6) kz7)))) fun w31 b31 => s7_9.out w31 pp6_0 pp6_1 (X4.later b31) (X5.later b31) jX4 jX5 ndX4_X5 (bC kz7 b31))
  case' ns7_7 => refine lH ?_
  intro w32 pp6_0 X4 jX4 kz7
  have S := Off.ofB kz7
  refine vY1 (cA 8 S fun w33 pp6_1 h X5 b33 => ?_)
  have ndX4_X5 : ¬ (pp6_0 = pp6_1) := (Nat.ne_of_lt (lY X4.lt h)); have jX5 := (lZ kz7.size h); replace X4 := (X4.later b33); replace kz7 := bC kz7 b33
  clear S b33 h w32
  revert kz7; revert ndX4_X5; revert jX5; revert jX4; revert X5; revert X4; revert pp6_1; revert pp6_0; revert w33
  exact s7_10.out
  case' ns7_8 => refine lH ?_
  intro w34 pp6_1 X5 jX5 kz7
  have S := Off.ofB kz7
  refine vY1 (cA 7 S fun w35 pp6_0 h X4 b35 => s7_10.out w35 pp6_0 pp6_1 X4 (X5.later b35) (lZ kz7.size h) jX5 (Nat.ne_of_gt (lY X5.lt h)) (bC kz7 b35))
  case' ns7_9 => refine lH ?_
  intro w36 pp6_0 pp6_1 X4 X5 jX4 jX5 ndX4_X5 kz7
  have S := Off.ofB kz7
  refine vY1 (cC 6 S (h6.out _ (ft.later (bC kk (bC (bC (bC (bC b3 b4) (bC (bA bR _) b5)) b6) kz7)))) fun w37 b37 => s7_10.out w37 pp6_0 pp6_1 (X4.later b37) (X5.later b37) jX4 jX5 ndX4_X5 (bC kz7 b37))
  case' ns7_10 => refine lH ?_
  intro w38 pp6_0 pp6_1 X4 X5 jX4 jX5 ndX4_X5 kz7
  have S := Off.ofB kz7
  refine vY1 (vO 9 fun K hK => ?_)
  have q := X4.o; have mX5 : ¬ (pp6_1 = pp6_0) := (by omega)
  go_simp
  refine vW (fun W => HB W pp6_0 28 #[.int .u64 uh, .int .u64 ul] ∧ HB W pp6_1 28 #[.int .u64 0, .int .u64 0] ∧ Below w6.heap.size w6 W) ⟨((X4.set 0 _).set 1 _), ((X5.other mX5 0 _).other mX5 1 _), ((kz7.setCell (p := ⟨pp6_0, 0, none⟩) jX4 _).setCell (p := ⟨pp6_0, 1, none⟩) jX4 _)⟩ fun w40 hz => ?_
  clear q mX5 X4 X5 S kz7 w38; obtain ⟨X4, X5, kz7⟩ := hz
  refine hK.out _ _ (Off.ofB kz7) fun S => ?_; clear hK K S; refine vP ?_
  revert kz7; revert ndX4_X5; revert jX5; revert jX4; revert X5; revert X4; revert pp6_1; revert pp6_0; revert w40
  exact s7_11.out
  case' ns7_11 => refine lH ?_
  intro w41 pp6_0 pp6_1 X4 X5 jX4 jX5 ndX4_X5 kz7
  have S := Off.ofB kz7
  refine vY1 (vO 10 fun K hK => ?_)
  have q := X5.o; have mX4 : ¬ (pp6_0 = pp6_1) := (by omega)
  go_simp
  refine vW (fun W => HB W pp6_0 28 #[.int .u64 uh, .int .u64 ul] ∧ HB W pp6_1 28 #[.int .u64 yh, .int .u64 yl] ∧ Below w6.heap.size w6 W) ⟨((X4.other mX4 0 _).other mX4 1 _), ((X5.set 0 _).set 1 _), ((kz7.setCell (p := ⟨pp6_1, 0, none⟩) jX5 _).setCell (p := ⟨pp6_1, 1, none⟩) jX5 _)⟩ fun w43 hz => ?_
  clear q mX4 X4 X5 S kz7 w41; obtain ⟨X4, X5, kz7⟩ := hz
  refine hK.out _ _ (Off.ofB kz7) fun S => ?_; clear hK K S; refine vP ?_
  revert kz7; revert ndX4_X5; revert jX5; revert jX4; revert X5; revert X4; revert pp6_1; revert pp6_0; revert w43
  exact s7_12.out
  case' ns7_12 => refine lH ?_
  intro w44 pp6_0 pp6_1 X4 X5 jX4 jX5 ndX4_X5 kz7
  refine vD ?_
  replace X1 := X1.later b6
  have nX1_X4 : w.heap.size + 1 < pp6_0 := by have := X1.lt; omega
  have nX1_X5 : w.heap.size + 1 < pp6_1 := by have := X1.lt; omega
  have nX2_X4 : w4.heap.size < pp6_0 := by have := X2.lt; omega
  have nX2_X5 : w4.heap.size < pp6_1 := by have := X2.lt; omega
  have gX4 : w.heap.size ≤ pp6_0 := by have := (bC kk (bC (bC (bC b3 b4) (bC (bA bR _) b5)) b6)).size; omega
  have gX5 : w.heap.size ≤ pp6_1 := by have := (bC kk (bC (bC (bC b3 b4) (bC (bA bR _) b5)) b6)).size; omega
  replace X1 := X1.later kz7
  have oX1 := X1.o
  go_wp2_with fail
  refine vM (h7.out _ (ft.later (bC kk (bC (bC (bC (bC b3 b4) (bC (bA bR _) b5)) b6) kz7)))) fun w45 b45 => ?_
  clear oX1
  replace X4 := X4.later b45
  have oX4 := X4.o
  go_wp2_with fail
  refine vM (h8.out _) fun w46 b46 => ?_
  replace X5 := X5.later b45
  have nX5_X6 : pp6_1 < w45.heap.size := by have := X5.lt; omega
  have X6 := (HB.newAt (b := w45.heap.size) (by simp) _ _).later b46
  clear oX4
  replace X5 := X5.later (bC (bA bR _) b46)
  have oX5 := X5.o
  have oX6 := X6.o
  go_wp2_with fail
  refine vM (h9.out _) fun w47 b47 => ?_
  clear oX5 oX6
  replace X2 := X2.later (bC (bC (bC kz7 b45) (bC (bA bR _) b46)) b47)
  have oX2 := X2.o
  go_wp2_with fail
  refine vM (h10.out _ (ft.later (bC kk (bC (bC (bC (bC (bC (bC (bC b3 b4) (bC (bA bR _) b5)) b6) kz7) b45) (bC (bA bR _) b46)) b47)))) fun w48 b48 => ?_
  clear oX2
  go_wp2_with fail
  go_ret
  exact ⟨rfl, (bC kk (bC (bC (bC (bC (bC (bC (bC (bC b3 b4) (bC (bA bR _) b5)) b6) kz7) b45) (bC (bA bR _) b46)) b47) b48))⟩
end Go.Proofs.YtbighggnfkdncaaGreatDoor
