import Derived.Test.YtbighggnfkdncaaGreatDoorRest0
set_option maxHeartbeats 4000000
set_option linter.unusedVariables false
set_option linter.unusedSimpArgs false
set_option maxRecDepth 100000
namespace Go.Proofs.YtbighggnfkdncaaGreatDoor
open Go.RowKit
attribute [local go_sem ↓] Go.wp_at_zero Go.wp_at_succ
theorem four22_no1 (f m ah al mm ex e2 em em2 xh xl qh ql yh yl rh rl sh sl fl af : Int) (t ng : Bool)
    (h0 : Hid (∀ w, FTab w → Ca 13 #[.int .u8 f, U2 ah al] w (U2 xh xl)))
    (h1 : Hid (∀ w, FTab w → Ca 24 #[.int .u8 f, U2 xh xl] w (.tuple #[.bool ng, .int .i64 ex, U2 qh ql])))
    (h2 : Hid (∀ w, FTab w → Ca 20 #[.int .u8 f] w (.bool false)))
    (h4 : Hid (∀ w, FTab w → Ca 12 #[] w (.bool true))) (m2 : m.tmod 5 = mm) (m3 : m % 5 = mm) (w1 : IntKind.i64.wrap (ex + 2) = e2) (w1x : wrap64 (ex + 2) = e2) (w2 : IntKind.i64.wrap (2 * em) = em2) (w2x : wrap64 (2 * em) = em2) (w : World) (ft : FTab w) :
    Ca 7 #[.int .u8 f, .agg #[.int .u8 m, .bool t], U2 ah al] w (.bool true) := by
  simp only [Ca, U2] at *
  go_enter Tryz.func7, Tryz.ntmps7
  go_wp2_with fail
  refine vM (h0.out _ (ft.later (bA (bA bR _) _))) fun w1 b1 => ?_
  have gX1 : w.heap.size ≤ w.heap.size + 1 := by omega
  have X1 := (HB.newAt (b := w.heap.size + 1) (by simp) _ _).later b1
  have oX1 := X1.o
  go_wp2_with fail
  refine vM (h1.out _ (ft.later (((bC (bA (bA bR _) _) b1).setCell (p := ⟨w.heap.size + 1, 0, none⟩) gX1 _).setCell (p := ⟨w.heap.size + 1, 1, none⟩) gX1 _))) fun w2 b2 => ?_
  have kk := bC (((bC (bA (bA bR _) _) b1).setCell (p := ⟨w.heap.size + 1, 0, none⟩) gX1 _).setCell (p := ⟨w.heap.size + 1, 1, none⟩) gX1 _) b2
  clear oX1
  go_wp2_with fail
  refine vM (h2.out _ (ft.later (bA kk _))) fun w3 b3 => ?_
  go_wp2_with fail
  refine vM (h4.out _ (ft.later (bC kk (bC (bA bR _) b3)))) fun w4 b4 => ?_
  go_wp2_with fail
  go_ret
  exact ⟨rfl, (bC kk (bC (bC (bA bR _) b3) b4))⟩
theorem four22_no2 (f m ah al mm ex e2 em em2 xh xl qh ql yh yl rh rl sh sl fl af : Int) (t ng : Bool)
    (h0 : Hid (∀ w, FTab w → Ca 13 #[.int .u8 f, U2 ah al] w (U2 xh xl)))
    (h1 : Hid (∀ w, FTab w → Ca 24 #[.int .u8 f, U2 xh xl] w (.tuple #[.bool ng, .int .i64 ex, U2 qh ql])))
    (h2 : Hid (∀ w, FTab w → Ca 20 #[.int .u8 f] w (.bool true)))
    (h4 : Hid (∀ w, FTab w → Ca 12 #[] w (.bool true))) (m2 : m.tmod 5 = mm) (m3 : m % 5 = mm) (w1 : IntKind.i64.wrap (ex + 2) = e2) (w1x : wrap64 (ex + 2) = e2) (w2 : IntKind.i64.wrap (2 * em) = em2) (w2x : wrap64 (2 * em) = em2) (g1 : decide (ex < 1) = true) (w : World) (ft : FTab w) :
    Ca 7 #[.int .u8 f, .agg #[.int .u8 m, .bool t], U2 ah al] w (.bool true) := by
  simp only [Ca, U2] at *
  go_enter Tryz.func7, Tryz.ntmps7
  go_wp2_with fail
  refine vM (h0.out _ (ft.later (bA (bA bR _) _))) fun w1 b1 => ?_
  have gX1 : w.heap.size ≤ w.heap.size + 1 := by omega
  have X1 := (HB.newAt (b := w.heap.size + 1) (by simp) _ _).later b1
  have oX1 := X1.o
  go_wp2_with fail
  refine vM (h1.out _ (ft.later (((bC (bA (bA bR _) _) b1).setCell (p := ⟨w.heap.size + 1, 0, none⟩) gX1 _).setCell (p := ⟨w.heap.size + 1, 1, none⟩) gX1 _))) fun w2 b2 => ?_
  have kk := bC (((bC (bA (bA bR _) _) b1).setCell (p := ⟨w.heap.size + 1, 0, none⟩) gX1 _).setCell (p := ⟨w.heap.size + 1, 1, none⟩) gX1 _) b2
  clear oX1
  go_wp2_with fail
  refine vM (h2.out _ (ft.later (bA kk _))) fun w3 b3 => ?_
  go_wp2_with fail
  refine vM (h4.out _ (ft.later (bC kk (bC (bA bR _) b3)))) fun w4 b4 => ?_
  go_wp2_with fail
  go_ret
  exact ⟨rfl, (bC kk (bC (bC (bA bR _) b3) b4))⟩
theorem four22_no3 (f m ah al mm ex e2 em em2 xh xl qh ql yh yl rh rl sh sl fl af : Int) (t ng : Bool)
    (h0 : Hid (∀ w, FTab w → Ca 13 #[.int .u8 f, U2 ah al] w (U2 xh xl)))
    (h1 : Hid (∀ w, FTab w → Ca 24 #[.int .u8 f, U2 xh xl] w (.tuple #[.bool ng, .int .i64 ex, U2 qh ql])))
    (h2 : Hid (∀ w, FTab w → Ca 20 #[.int .u8 f] w (.bool true)))
    (h3 : Hid (∀ w, FTab w → Ca 25 #[.int .u8 f] w (.int .i64 em)))
    (h4 : Hid (∀ w, FTab w → Ca 12 #[] w (.bool true))) (m2 : m.tmod 5 = mm) (m3 : m % 5 = mm) (w1 : IntKind.i64.wrap (ex + 2) = e2) (w1x : wrap64 (ex + 2) = e2) (w2 : IntKind.i64.wrap (2 * em) = em2) (w2x : wrap64 (2 * em) = em2) (g1 : decide (ex < 1) = false) (g2 : decide (em2 < e2) = true) (w : World) (ft : FTab w) :
    Ca 7 #[.int .u8 f, .agg #[.int .u8 m, .bool t], U2 ah al] w (.bool true) := by
  simp only [Ca, U2] at *
  go_enter Tryz.func7, Tryz.ntmps7
  go_wp2_with fail
  refine vM (h0.out _ (ft.later (bA (bA bR _) _))) fun w1 b1 => ?_
  have gX1 : w.heap.size ≤ w.heap.size + 1 := by omega
  have X1 := (HB.newAt (b := w.heap.size + 1) (by simp) _ _).later b1
  have oX1 := X1.o
  go_wp2_with fail
  refine vM (h1.out _ (ft.later (((bC (bA (bA bR _) _) b1).setCell (p := ⟨w.heap.size + 1, 0, none⟩) gX1 _).setCell (p := ⟨w.heap.size + 1, 1, none⟩) gX1 _))) fun w2 b2 => ?_
  have kk := bC (((bC (bA (bA bR _) _) b1).setCell (p := ⟨w.heap.size + 1, 0, none⟩) gX1 _).setCell (p := ⟨w.heap.size + 1, 1, none⟩) gX1 _) b2
  clear oX1
  go_wp2_with fail
  refine vM (h2.out _ (ft.later (bA kk _))) fun w3 b3 => ?_
  go_wp2_with fail
  refine vM (h3.out _ (ft.later (bC kk (bC (bA bR _) b3)))) fun w4 b4 => ?_
  go_wp2_with fail
  refine vM (h4.out _ (ft.later (bC kk (bC (bC (bA bR _) b3) b4)))) fun w5 b5 => ?_
  go_wp2_with fail
  go_ret
  exact ⟨rfl, (bC kk (bC (bC (bC (bA bR _) b3) b4) b5))⟩
theorem four22_main (f m ah al mm ex e2 em em2 xh xl qh ql yh yl rh rl sh sl fl af : Int) (t ng : Bool)
    (h0 : Hid (∀ w, FTab w → Ca 13 #[.int .u8 f, U2 ah al] w (U2 xh xl)))
    (h1 : Hid (∀ w, FTab w → Ca 24 #[.int .u8 f, U2 xh xl] w (.tuple #[.bool ng, .int .i64 ex, U2 qh ql])))
    (h2 : Hid (∀ w, FTab w → Ca 20 #[.int .u8 f] w (.bool true)))
    (h3 : Hid (∀ w, FTab w → Ca 25 #[.int .u8 f] w (.int .i64 em)))
    (h4 : Hid (∀ w, FTab w → Ca 10 #[.int .u8 f, .agg #[.int .u8 mm, .bool t], U2 xh xl] w (.agg #[.int .u64 rh, .int .u64 rl, .int .u8 fl])))
    (h5 : Hid (∀ w, FTab w → Ca 26 #[.int .u8 f, .bool false, .int .i64 e2, U2 qh ql] w (U2 yh yl)))
    (h6 : Hid (∀ w, FTab w → Ca 10 #[.int .u8 f, .agg #[.int .u8 mm, .bool t], U2 yh yl] w (.agg #[.int .u64 sh, .int .u64 sl, .int .u8 fl])))
    (h7 : Hid (∀ w, FTab w → Ca 27 #[.int .u8 f, .agg #[.int .u8 mm, .bool t], U2 rh rl, U2 rh rl] w (.agg #[.int .u64 sh, .int .u64 sl, .int .u8 af])))
    (h8 : Hid (∀ w, FTab w → Ca 12 #[] w (.bool true))) (m2 : m.tmod 5 = mm) (m3 : m % 5 = mm) (w1 : IntKind.i64.wrap (ex + 2) = e2) (w1x : wrap64 (ex + 2) = e2) (w2 : IntKind.i64.wrap (2 * em) = em2) (w2x : wrap64 (2 * em) = em2) (g1 : decide (ex < 1) = false) (g2 : decide (em2 < e2) = false) (w : World) (ft : FTab w) :
    Ca 7 #[.int .u8 f, .agg #[.int .u8 m, .bool t], U2 ah al] w (.bool true) := by
  simp only [Ca, U2] at *
  have EQ := eqb22 sh sl
  go_enter Tryz.func7, Tryz.ntmps7
  go_wp2_with fail
  refine vM (h0.out _ (ft.later (bA (bA bR _) _))) fun w1 b1 => ?_
  have gX1 : w.heap.size ≤ w.heap.size + 1 := by omega
  have X0 := ((HB.newAt (b := w.heap.size) (by simp) _ _).alloc _).later b1
  have X1 := (HB.newAt (b := w.heap.size + 1) (by simp) _ _).later b1
  have oX1 := X1.o
  go_wp2_with fail
  refine vM (h1.out _ (ft.later (((bC (bA (bA bR _) _) b1).setCell (p := ⟨w.heap.size + 1, 0, none⟩) gX1 _).setCell (p := ⟨w.heap.size + 1, 1, none⟩) gX1 _))) fun w2 b2 => ?_
  replace X0 := ((X0.other (by omega) 0 _).other (by omega) 1 _).later b2
  replace X1 := ((X1.set 0 _).set 1 _).later b2
  have kk := bC (((bC (bA (bA bR _) _) b1).setCell (p := ⟨w.heap.size + 1, 0, none⟩) gX1 _).setCell (p := ⟨w.heap.size + 1, 1, none⟩) gX1 _) b2
  clear oX1
  go_wp2_with fail
  refine vM (h2.out _ (ft.later (bA kk _))) fun w3 b3 => ?_
  have nX1_X2 : w.heap.size + 1 < w2.heap.size := by have := X1.lt; omega
  have X2 := (HB.newAt (b := w2.heap.size) (by simp) _ _).later b3
  go_wp2_with fail
  refine vM (h3.out _ (ft.later (bC kk (bC (bA bR _) b3)))) fun w4 b4 => ?_
  replace X0 := X0.later (bC (bC (bA bR _) b3) b4)
  have oX0 := X0.o
  replace X1 := X1.later (bC (bC (bA bR _) b3) b4)
  have oX1 := X1.o
  go_wp2_with fail
  refine vM (h4.out _ (ft.later (bC kk (bC (bC (bA bR _) b3) b4)))) fun w5 b5 => ?_
  clear oX0 oX1
  go_wp2_with fail
  refine vF1 fun w6 b6 X3 => ?_
  replace X0 := X0.later (bC b5 b6)
  replace X2 := X2.later (bC (bC b4 b5) b6)
  refine' (have s7_5 : Hid (_ : Prop) := ?ns7_5; ?ms7_5)
  case' ms7_5 => skip
  refine' (have s7_4 : Hid (_ : Prop) := ?ns7_4; ?ms7_4)
  case' ms7_4 => skip
  refine' (have s7_3 : Hid (_ : Prop) := ?ns7_3; ?ms7_3)
  case' ms7_3 => skip
  refine' (have s7_2 : Hid (_ : Prop) := ?ns7_2; ?ms7_2)
  case' ms7_2 => skip
  refine' (have s7_1 : Hid (_ : Prop) := ?ns7_1; ?ms7_1)
  case' ms7_1 => skip
  refine' (have s7_0 : Hid (_ : Prop) := ?ns7_0; ?ms7_0)
  case' ms7_0 => skip
  refine vR [] fun w7 kz7 S => ?_
  refine vT 0 S ?_
  refine vT 1 S ?_ (hy := by intro wq hb; have q := (hb.hb X0 (by simp)).o; go_simp; try (with_reducible rfl))
  refine vT 2 S ?_
  refine vT 3 S ?_
  refine vT 4 S ?_
  refine vT 5 S ?_ (hy := by intro wq hb; have q := (hb.hb X2 (by simp)).o; go_simp; try (with_reducible rfl))
  refine vY2 (cC 6 S (h5.out _ (ft.later (bC kk (bC (bC (bC (bC (bC (bA bR _) b3) b4) b5) b6) kz7)))) fun w8 b8 => ?_) (cA 8 S fun w9 pp6_0 h X4 b9 => ?_)
  replace kz7 := bC kz7 b8
  clear S b8 w7
  revert kz7; revert w8
  exact s7_0.out
  have jX4 := (lZ kz7.size h); replace kz7 := bC kz7 b9
  clear S b9 h w7
  revert kz7; revert jX4; revert X4; revert pp6_0; revert w9
  exact s7_1.out
  case' ns7_0 => refine lH ?_
  intro w10 kz7
  have S := Off.ofB kz7
  refine vY2 (cC 7 S (h6.out _ (ft.later (bC kk (bC (bC (bC (bC (bC (bA bR _) b3) b4) b5) b6) kz7)))) fun w11 b11 => ?_) (cA 8 S fun w12 pp6_0 h X4 b12 => ?_)
  replace kz7 := bC kz7 b11
  clear S b11 w10
  revert kz7; revert w11
  exact s7_2.out
  have jX4 := (lZ kz7.size h); replace kz7 := bC kz7 b12
  clear S b12 h w10
  revert kz7; revert jX4; revert X4; revert pp6_0; revert w12
  exact s7_3.out
  case' ns7_1 => refine lH ?_
  intro w13 pp6_0 X4 jX4 kz7
  have S := Off.ofB kz7
  refine vY1 (cC 6 S (h5.out _ (ft.later (bC kk (bC (bC (bC (bC (bC (bA bR _) b3) b4) b5) b6) kz7)))) fun w14 b14 => s7_3.out w14 pp6_0 (X4.later b14) jX4 (bC kz7 b14))
  case' ns7_2 => refine lH ?_
  intro w15 kz7
  have S := Off.ofB kz7
  refine vY1 (cA 8 S fun w16 pp6_0 h X4 b16 => ?_)
  have jX4 := (lZ kz7.size h); replace kz7 := bC kz7 b16
  clear S b16 h w15
  revert kz7; revert jX4; revert X4; revert pp6_0; revert w16
  exact s7_4.out
  case' ns7_3 => refine lH ?_
  intro w17 pp6_0 X4 jX4 kz7
  have S := Off.ofB kz7
  refine vY1 (cC 7 S (h6.out _ (ft.later (bC kk (bC (bC (bC (bC (bC (bA bR _) b3) b4) b5) b6) kz7)))) fun w18 b18 => s7_4.out w18 pp6_0 (X4.later b18) jX4 (bC kz7 b18))
  case' ns7_4 => refine lH ?_
  intro w19 pp6_0 X4 jX4 kz7
  have S := Off.ofB kz7
  refine vY1 (vO 9 fun K hK => ?_)
  have q := X4.o
  go_simp
  refine vW (fun W => HB W pp6_0 31 #[.int .u64 sh, .int .u64 sl, .int .u8 fl] ∧ Below w6.heap.size w6 W) ⟨(((X4.set 0 _).set 1 _).set 2 _), (((kz7.setCell (p := ⟨pp6_0, 0, none⟩) jX4 _).setCell (p := ⟨pp6_0, 1, none⟩) jX4 _).setCell (p := ⟨pp6_0, 2, none⟩) jX4 _)⟩ fun w21 hz => ?_
  clear q X4 S kz7 w19; obtain ⟨X4, kz7⟩ := hz
  refine hK.out _ _ (Off.ofB kz7) fun S => ?_; clear hK K S; refine vP ?_
  revert kz7; revert jX4; revert X4; revert pp6_0; revert w21
  exact s7_5.out
  case' ns7_5 => refine lH ?_
  intro w22 pp6_0 X4 jX4 kz7
  refine vD ?_
  have nX0_X4 : w.heap.size < pp6_0 := by have := X0.lt; omega
  have nX3_X4 : w5.heap.size < pp6_0 := by have := X3.lt; omega
  have gX4 : w.heap.size ≤ pp6_0 := by have := (bC kk (bC (bC (bC (bC (bA bR _) b3) b4) b5) b6)).size; omega
  replace X0 := X0.later kz7
  have oX0 := X0.o
  replace X3 := X3.later kz7
  have oX3 := X3.o
  go_wp2_with fail
  refine vM (h7.out _ (ft.later (bC kk (bC (bC (bC (bC (bC (bA bR _) b3) b4) b5) b6) kz7)))) fun w23 b23 => ?_
  clear oX0 oX3
  replace X4 := X4.later b23
  have oX4 := X4.o
  replace X3 := X3.later b23
  have oX3 := X3.o
  go_wp2_with fail
  refine vM (h8.out _ (ft.later (bA (bC kk (bC (bC (bC (bC (bC (bC (bA bR _) b3) b4) b5) b6) kz7) b23)) _))) fun w24 b24 => ?_
  clear oX4 oX3
  go_wp2_with fail
  go_ret
  exact ⟨rfl, (bC kk (bC (bC (bC (bC (bC (bC (bC (bA bR _) b3) b4) b5) b6) kz7) b23) (bC (bA bR _) b24)))⟩
end Go.Proofs.YtbighggnfkdncaaGreatDoor
