import Derived.Test.YtjdjonekoodalaaGreatDoorGdA
import Derived.Test.YtjdjonekoodalaaGreatDoorGoA
import Derived.Test.YtjdjonekoodalaaGreatDoorGqB
set_option maxHeartbeats 4000000
set_option linter.unusedVariables false
set_option linter.unusedSimpArgs false
set_option maxRecDepth 100000
namespace Go.Proofs.YtjdjonekoodalaaGreatDoor
open Go.RowKit
attribute [local go_sem ↓] Go.wp_at_zero Go.wp_at_succ
theorem step23_no1 (f ah al bh bl d sf tf xh xl yh yl sh sl rh rl qh ql zh zl th tl vh vl : Int) (n : Bool)
    (h0 : Hid (∀ w, FTab w → Ca 14 #[.int .u8 f, U2 bh bl] w (.tuple #[.int .u8 d, .bool n])))
    (h1 : Hid (∀ w, FTab w → Ca 15 #[.int .u8 f] w (.bool false)))
    (h3 : Hid (∀ w, FTab w → Ca 11 #[] w (.bool true))) (w : World) (ft : FTab w) :
    Ca 7 #[.int .u8 f, U2 ah al, U2 bh bl] w (.bool true) := by
  simp only [Ca, U2] at *
  go_enter Tryz.func7, Tryz.ntmps7
  go_wp2_with fail
  refine vM (h0.out _ (ft.later (bA (bA bR _) _))) fun w1 b1 => ?_
  go_wp2_with fail
  refine vM (h1.out _ (ft.later (bC (bA (bA bR _) _) b1))) fun w2 b2 => ?_
  go_wp2_with fail
  refine vM (h3.out _ (ft.later (bC (bC (bA (bA bR _) _) b1) b2))) fun w3 b3 => ?_
  go_wp2_with fail
  go_ret
  exact ⟨rfl, (bC (bC (bC (bA (bA bR _) _) b1) b2) b3)⟩
theorem step23_no2 (f ah al bh bl d sf tf xh xl yh yl sh sl rh rl qh ql zh zl th tl vh vl : Int) (n : Bool)
    (h0 : Hid (∀ w, FTab w → Ca 14 #[.int .u8 f, U2 bh bl] w (.tuple #[.int .u8 d, .bool n])))
    (h1 : Hid (∀ w, FTab w → Ca 15 #[.int .u8 f] w (.bool true)))
    (h2 : Hid (∀ w, FTab w → Ca 16 #[.int .u8 f, U2 ah al] w (.bool false)))
    (h3 : Hid (∀ w, FTab w → Ca 11 #[] w (.bool true))) (w : World) (ft : FTab w) :
    Ca 7 #[.int .u8 f, U2 ah al, U2 bh bl] w (.bool true) := by
  simp only [Ca, U2] at *
  go_enter Tryz.func7, Tryz.ntmps7
  go_wp2_with fail
  refine vM (h0.out _ (ft.later (bA (bA bR _) _))) fun w1 b1 => ?_
  have X0 := ((HB.newAt (b := w.heap.size) (by simp) _ _).alloc _).later b1
  go_wp2_with fail
  refine vM (h1.out _ (ft.later (bC (bA (bA bR _) _) b1))) fun w2 b2 => ?_
  replace X0 := X0.later b2
  have oX0 := X0.o
  go_wp2_with fail
  refine vM (h2.out _ (ft.later (bC (bC (bA (bA bR _) _) b1) b2))) fun w3 b3 => ?_
  clear oX0
  go_wp2_with fail
  refine vM (h3.out _ (ft.later (bC (bC (bC (bA (bA bR _) _) b1) b2) b3))) fun w4 b4 => ?_
  go_wp2_with fail
  go_ret
  exact ⟨rfl, (bC (bC (bC (bC (bA (bA bR _) _) b1) b2) b3) b4)⟩
theorem step23_no3 (f ah al bh bl d sf tf xh xl yh yl sh sl rh rl qh ql zh zl th tl vh vl : Int) (n : Bool)
    (h0 : Hid (∀ w, FTab w → Ca 14 #[.int .u8 f, U2 bh bl] w (.tuple #[.int .u8 d, .bool n])))
    (h1 : Hid (∀ w, FTab w → Ca 15 #[.int .u8 f] w (.bool true)))
    (h2 : Hid (∀ w, FTab w → Ca 16 #[.int .u8 f, U2 ah al] w (.bool true)))
    (h3 : Hid (∀ w, FTab w → Ca 11 #[] w (.bool true))) (g1 : (d != 1) = true) (g2 : (d != 2) = true) (w : World) (ft : FTab w) :
    Ca 7 #[.int .u8 f, U2 ah al, U2 bh bl] w (.bool true) := by
  simp only [Ca, U2] at *
  go_enter Tryz.func7, Tryz.ntmps7
  go_wp2_with fail
  refine vM (h0.out _ (ft.later (bA (bA bR _) _))) fun w1 b1 => ?_
  have X0 := ((HB.newAt (b := w.heap.size) (by simp) _ _).alloc _).later b1
  go_wp2_with fail
  refine vM (h1.out _ (ft.later (bC (bA (bA bR _) _) b1))) fun w2 b2 => ?_
  replace X0 := X0.later b2
  have oX0 := X0.o
  go_wp2_with fail
  refine vM (h2.out _ (ft.later (bC (bC (bA (bA bR _) _) b1) b2))) fun w3 b3 => ?_
  clear oX0
  go_wp2_with fail
  refine vM (h3.out _ (ft.later (bC (bC (bC (bA (bA bR _) _) b1) b2) b3))) fun w4 b4 => ?_
  go_wp2_with fail
  go_ret
  exact ⟨rfl, (bC (bC (bC (bC (bA (bA bR _) _) b1) b2) b3) b4)⟩
theorem step23_sub (f ah al bh bl d sf tf xh xl yh yl sh sl rh rl qh ql zh zl th tl vh vl : Int) (n : Bool)
    (h0 : Hid (∀ w, FTab w → Ca 14 #[.int .u8 f, U2 bh bl] w (.tuple #[.int .u8 d, .bool n])))
    (h1 : Hid (∀ w, FTab w → Ca 15 #[.int .u8 f] w (.bool true)))
    (h2 : Hid (∀ w, FTab w → Ca 16 #[.int .u8 f, U2 ah al] w (.bool true)))
    (h3 : Hid (∀ w, FTab w → Ca 17 #[.int .u8 f, U2 ah al] w (U2 xh xl)))
    (h4 : Hid (∀ w, FTab w → Ca 17 #[.int .u8 f, U2 bh bl] w (U2 yh yl)))
    (h5 : Hid (∀ w, FTab w → Ca 18 #[.int .u8 f, .agg #[.int .u8 0, .bool false], U2 xh xl, U2 yh yl] w (.agg #[.int .u64 sh, .int .u64 sl, .int .u8 sf]))) (g2 : (d != 1) = false)
    (HH : (((sf != 0) = true) ∧ Hid (∀ w, FTab w → Ca 11 #[] w (.bool true))) ∨ (((sf != 0) = false) ∧ (∀ w, (binOp .eql 25 (U2 th tl) (U2 yh yl)).run Tryz.prog w = .ok (.bool true) w) ∧ ((tf == 0) = true) ∧ (∀ w, (binOp .eql 25 (U2 qh ql) (U2 vh vl)).run Tryz.prog w = .ok (.bool true) w) ∧ Hid (∀ w, FTab w → Ca 12 #[.int .u8 f, U2 xh xl, U2 yh yl] w (.agg #[.int .u64 rh, .int .u64 rl, .int .u8 0])) ∧ Hid (∀ w, FTab w → Ca 12 #[.int .u8 f, U2 sh sl, U2 yh yl] w (.agg #[.int .u64 qh, .int .u64 ql, .int .u8 0])) ∧ Hid (∀ w, FTab w → Ca 17 #[.int .u8 f, U2 rh rl] w (U2 zh zl)) ∧ Hid (∀ w, FTab w → Ca 18 #[.int .u8 f, .agg #[.int .u8 0, .bool false], U2 zh zl, U2 zh zl] w (.agg #[.int .u64 th, .int .u64 tl, .int .u8 tf])) ∧ Hid (∀ w, FTab w → Ca 23 #[.int .u8 f, U2 rh rl] w (U2 vh vl)) ∧ Hid (∀ w, FTab w → Ca 11 #[] w (.bool true))) ∨ (((sf != 0) = false) ∧ (∀ w, (binOp .eql 25 (U2 th tl) (U2 yh yl)).run Tryz.prog w = .ok (.bool true) w) ∧ ((tf == 0) = false) ∧ (∀ w, (binOp .eql 30 (.agg #[.int .u64 rh, .int .u64 rl, .int .u8 0]) (.agg #[.int .u64 qh, .int .u64 ql, .int .u8 0])).run Tryz.prog w = .ok (.bool true) w) ∧ Hid (∀ w, FTab w → Ca 12 #[.int .u8 f, U2 xh xl, U2 yh yl] w (.agg #[.int .u64 rh, .int .u64 rl, .int .u8 0])) ∧ Hid (∀ w, FTab w → Ca 12 #[.int .u8 f, U2 sh sl, U2 yh yl] w (.agg #[.int .u64 qh, .int .u64 ql, .int .u8 0])) ∧ Hid (∀ w, FTab w → Ca 17 #[.int .u8 f, U2 rh rl] w (U2 zh zl)) ∧ Hid (∀ w, FTab w → Ca 18 #[.int .u8 f, .agg #[.int .u8 0, .bool false], U2 zh zl, U2 zh zl] w (.agg #[.int .u64 th, .int .u64 tl, .int .u8 tf])) ∧ Hid (∀ w, FTab w → Ca 11 #[] w (.bool true))) ∨ (((sf != 0) = false) ∧ (∀ w, (binOp .eql 25 (U2 th tl) (U2 yh yl)).run Tryz.prog w = .ok (.bool false) w) ∧ (∀ w, (binOp .eql 30 (.agg #[.int .u64 rh, .int .u64 rl, .int .u8 0]) (.agg #[.int .u64 qh, .int .u64 ql, .int .u8 0])).run Tryz.prog w = .ok (.bool true) w) ∧ Hid (∀ w, FTab w → Ca 12 #[.int .u8 f, U2 xh xl, U2 yh yl] w (.agg #[.int .u64 rh, .int .u64 rl, .int .u8 0])) ∧ Hid (∀ w, FTab w → Ca 12 #[.int .u8 f, U2 sh sl, U2 yh yl] w (.agg #[.int .u64 qh, .int .u64 ql, .int .u8 0])) ∧ Hid (∀ w, FTab w → Ca 17 #[.int .u8 f, U2 rh rl] w (U2 zh zl)) ∧ Hid (∀ w, FTab w → Ca 18 #[.int .u8 f, .agg #[.int .u8 0, .bool false], U2 zh zl, U2 zh zl] w (.agg #[.int .u64 th, .int .u64 tl, .int .u8 tf])) ∧ Hid (∀ w, FTab w → Ca 11 #[] w (.bool true)))) (w : World) (ft : FTab w) :
    Ca 7 #[.int .u8 f, U2 ah al, U2 bh bl] w (.bool true) := by
  simp only [Ca, U2] at *
  go_enter Tryz.func7, Tryz.ntmps7
  go_wp2_with fail
  refine vM (h0.out _ (ft.later (bA (bA bR _) _))) fun w1 b1 => ?_
  have gX0 : w.heap.size ≤ w.heap.size := by omega
  have gX1 : w.heap.size ≤ w.heap.size + 1 := by omega
  have X0 := ((HB.newAt (b := w.heap.size) (by simp) _ _).alloc _).later b1
  have X1 := (HB.newAt (b := w.heap.size + 1) (by simp) _ _).later b1
  go_wp2_with fail
  refine vM (h1.out _ (ft.later (bC (bA (bA bR _) _) b1))) fun w2 b2 => ?_
  replace X0 := X0.later b2
  have oX0 := X0.o
  go_wp2_with fail
  refine vM (h2.out _ (ft.later (bC (bC (bA (bA bR _) _) b1) b2))) fun w3 b3 => ?_
  clear oX0
  go_wp2_with fail
  replace X0 := X0.later b3
  replace X1 := X1.later (bC b2 b3)
  refine' (have tl4 : Hid (_ : Prop) := ?ntl4; ?mtl4)
  case' mtl4 => skip
  refine vR [w.heap.size, w.heap.size + 1] fun w4 b4 S4 => ?_
  refine vT 0 S4 ?_
  refine vT 3 S4 ?_
  replace X0 := X0.later b4
  replace X1 := X1.later b4
  have oX0 := X0.o
  have oX1 := X1.o
  refine vY2 (cV 1 S4 ?_) (cV 4 S4 ?_)
  · skip
    clear oX0 oX1
    have oX1 := X1.o
    refine vY2 (vC 2 S4 (h3.out _ (ft.later (bC (bC (bC (bC (bA (bA bR _) _) b1) b2) b3) b4))) (fun _ _ => Off.later) fun w5 b5 S5 => ?_) (cV 4 S4 ?_)
    · skip
      clear oX1
      replace X0 := X0.later b5
      replace X1 := X1.later b5
      have oX1 := X1.o
      refine vY1 (cV 4 S5 ?_)
      clear oX1
      have kz := (bC b4 b5)
      clear b4 S4 b5
      revert S5
      revert kz
      revert X1
      revert X0
      revert w5
      exact tl4.out
    · skip
      clear oX1
      refine vY1 (vC 2 S4 (h3.out _ (ft.later (bC (bC (bC (bC (bA (bA bR _) _) b1) b2) b3) b4))) (fun _ _ => Off.later) fun w6 b6 S6 => ?_)
      replace X0 := X0.later b6
      replace X1 := X1.later b6
      have kz := (bC b4 b6)
      clear b4 S4 b6
      revert S6
      revert kz
      revert X1
      revert X0
      revert w6
      exact tl4.out
  · skip
    clear oX0 oX1
    have oX0 := X0.o
    refine vY1 (cV 1 S4 ?_)
    clear oX0
    refine vY1 (vC 2 S4 (h3.out _ (ft.later (bC (bC (bC (bC (bA (bA bR _) _) b1) b2) b3) b4))) (fun _ _ => Off.later) fun w7 b7 S7 => ?_)
    replace X0 := X0.later b7
    replace X1 := X1.later b7
    have kz := (bC b4 b7)
    clear b4 S4 b7
    revert S7
    revert kz
    revert X1
    revert X0
    revert w7
    exact tl4.out
  case' ntl4 => refine lH ?_
  intro w8 X0 X1 b8 S8
  refine vY1 (vC 5 S8 (h4.out _ (ft.later (bC (bC (bC (bC (bA (bA bR _) _) b1) b2) b3) b8))) (fun _ _ => Off.later) fun w9 b9 S9 => ?_)
  refine vY1 (vO 6 fun K hK => ?_)
  replace X0 := X0.later b9
  replace X1 := X1.later b9
  have oX0 := X0.o
  go_simp
  refine hK.out _ _ (Off.set (by simp) (Off.set (by simp) S9)) fun S10 => ?_
  clear hK K
  refine vP ?_
  refine vY1 (vO 7 fun K hK => ?_)
  have oX1 := X1.o
  have mX1_X0 : ¬ (w.heap.size + 1 = w.heap.size) := by omega
  have mX0_X1 : ¬ (w.heap.size = w.heap.size + 1) := by omega
  go_simp
  refine hK.out _ _ (Off.set (by simp) (Off.set (by simp) S10)) fun S11 => ?_
  clear hK K
  refine vP ?_
  refine vD ?_
  go_wp2_with fail
  refine vM (h5.out _ (ft.later (((((bC (bC (bC (bC (bC (bA (bA bR _) _) b1) b2) b3) b8) b9).setCell (p := ⟨w.heap.size, 0, none⟩) gX0 _).setCell (p := ⟨w.heap.size, 1, none⟩) gX0 _).setCell (p := ⟨w.heap.size + 1, 0, none⟩) gX1 _).setCell (p := ⟨w.heap.size + 1, 1, none⟩) gX1 _))) fun w12 b12 => ?_
  replace X0 := ((((X0.set 0 _).set 1 _).other (by omega) 0 _).other (by omega) 1 _).later b12
  replace X1 := ((((X1.other (by omega) 0 _).other (by omega) 1 _).set 0 _).set 1 _).later b12
  have kk := bC (((((bC (bC (bC (bC (bC (bA (bA bR _) _) b1) b2) b3) b8) b9).setCell (p := ⟨w.heap.size, 0, none⟩) gX0 _).setCell (p := ⟨w.heap.size, 1, none⟩) gX0 _).setCell (p := ⟨w.heap.size + 1, 0, none⟩) gX1 _).setCell (p := ⟨w.heap.size + 1, 1, none⟩) gX1 _) b12
  rcases HH with ⟨g5, h6⟩ | ⟨g5, EB, g6, EV, h6, h7, h8, h9, h10, h11⟩ | ⟨g5, EB, g6, EV, h6, h7, h8, h9, h10⟩ | ⟨g5, EB, EV, h6, h7, h8, h9, h10⟩
  · clear oX0 oX1 mX1_X0 mX0_X1
    go_wp2_with fail
    refine vM (h6.out _ (ft.later (bA kk _))) fun w13 b13 => ?_
    go_wp2_with fail
    go_ret
    exact ⟨rfl, (bC kk (bC (bA bR _) b13))⟩
  · clear oX0 oX1 mX1_X0 mX0_X1
    go_wp2_with fail
    have nX0_X2 : w.heap.size < w12.heap.size := by have := X0.lt; omega
    have nX1_X2 : w.heap.size + 1 < w12.heap.size := by have := X1.lt; omega
    refine vF1 fun w13 b13 X2 => ?_
    replace X0 := X0.later b13
    replace X1 := X1.later b13
    refine' (have s14b_12 : Hid (_ : Prop) := ?ns14b_12; ?ms14b_12)
    case' ms14b_12 => skip
    refine' (have s14b_11 : Hid (_ : Prop) := ?ns14b_11; ?ms14b_11)
    case' ms14b_11 => skip
    refine' (have s14b_10 : Hid (_ : Prop) := ?ns14b_10; ?ms14b_10)
    case' ms14b_10 => skip
    refine' (have s14b_9 : Hid (_ : Prop) := ?ns14b_9; ?ms14b_9)
    case' ms14b_9 => skip
    refine' (have s14b_8 : Hid (_ : Prop) := ?ns14b_8; ?ms14b_8)
    case' ms14b_8 => skip
    refine' (have s14b_7 : Hid (_ : Prop) := ?ns14b_7; ?ms14b_7)
    case' ms14b_7 => skip
    refine' (have s14b_6 : Hid (_ : Prop) := ?ns14b_6; ?ms14b_6)
    case' ms14b_6 => skip
    refine' (have s14b_5 : Hid (_ : Prop) := ?ns14b_5; ?ms14b_5)
    case' ms14b_5 => skip
    refine' (have s14b_4 : Hid (_ : Prop) := ?ns14b_4; ?ms14b_4)
    case' ms14b_4 => skip
    refine' (have s14b_3 : Hid (_ : Prop) := ?ns14b_3; ?ms14b_3)
    case' ms14b_3 => skip
    refine' (have s14b_2 : Hid (_ : Prop) := ?ns14b_2; ?ms14b_2)
    case' ms14b_2 => skip
    refine' (have s14b_1 : Hid (_ : Prop) := ?ns14b_1; ?ms14b_1)
    case' ms14b_1 => skip
    refine' (have s14b_0 : Hid (_ : Prop) := ?ns14b_0; ?ms14b_0)
    case' ms14b_0 => skip
    refine vR [] fun w14 kz14 S => ?_
    refine vT 0 S ?_
    refine vT 1 S ?_ (hy := by intro wq hb; have q := (hb.hb X0 (by simp)).o; go_simp; try (with_reducible rfl))
    refine vT 2 S ?_ (hy := by intro wq hb; have q := (hb.hb X1 (by simp)).o; go_simp; try (with_reducible rfl))
    refine vT 4 S ?_
    refine vT 5 S ?_
    refine vT 6 S ?_ (hy := by intro wq hb; have q := (hb.hb X2 (by simp)).o; go_simp; try (with_reducible rfl))
    refine vT 7 S ?_ (hy := by intro wq hb; have q := (hb.hb X1 (by simp)).o; go_simp; try (with_reducible rfl))
    refine vY3 (cC 3 S (h6.out _ (ft.later (bC kk (bC b13 kz14)))) fun w15 b15 => ?_) (cA 9 S fun w16 pp13_0 h X3 b16 => ?_) (cA 10 S fun w17 pp13_1 h X4 b17 => ?_)
    replace kz14 := bC kz14 b15
    clear S b15 w14
    revert kz14; revert w15
    exact s14b_0.out
    have jX3 := (lZ kz14.size h); replace kz14 := bC kz14 b16
    clear S b16 h w14
    revert kz14; revert jX3; revert X3; revert pp13_0; revert w16
    exact s14b_1.out
    have jX4 := (lZ kz14.size h); replace kz14 := bC kz14 b17
    clear S b17 h w14
    revert kz14; revert jX4; revert X4; revert pp13_1; revert w17
    exact s14b_2.out
    case' ns14b_0 => refine lH ?_
    intro w18 kz14
    have S := Off.ofB kz14
    refine vY3 (cC 8 S (h7.out _ (ft.later (bC kk (bC b13 kz14)))) fun w19 b19 => ?_) (cA 9 S fun w20 pp13_0 h X3 b20 => ?_) (cA 10 S fun w21 pp13_1 h X4 b21 => ?_)
    replace kz14 := bC kz14 b19
    clear S b19 w18
    revert kz14; revert w19
    exact s14b_3.out
    have jX3 := (lZ kz14.size h); replace kz14 := bC kz14 b20
    clear S b20 h w18
    revert kz14; revert jX3; revert X3; revert pp13_0; revert w20
    exact s14b_4.out
    have jX4 := (lZ kz14.size h); replace kz14 := bC kz14 b21
    clear S b21 h w18
    revert kz14; revert jX4; revert X4; revert pp13_1; revert w21
    exact s14b_5.out
    case' ns14b_1 => refine lH ?_
    intro w22 pp13_0 X3 jX3 kz14
    have S := Off.ofB kz14
    refine vY2 (cC 3 S (h6.out _ (ft.later (bC kk (bC b13 kz14)))) fun w23 b23 => s14b_4.out w23 pp13_0 (X3.later b23) jX3 (bC kz14 b23)) (cA 10 S fun w24 pp13_1 h X4 b24 => ?_)
    have ndX3_X4 : ¬ (pp13_0 = pp13_1) := (Nat.ne_of_lt (lY X3.lt h)); have jX4 := (lZ kz14.size h); replace X3 := (X3.later b24); replace kz14 := bC kz14 b24
    clear S b24 h w22
    revert kz14; revert ndX3_X4; revert jX4; revert jX3; revert X4; revert X3; revert pp13_1; revert pp13_0; revert w24
    exact s14b_6.out
    case' ns14b_2 => refine lH ?_
    intro w25 pp13_1 X4 jX4 kz14
    have S := Off.ofB kz14
    refine vY2 (cC 3 S (h6.out _ (ft.later (bC kk (bC b13 kz14)))) fun w26 b26 => s14b_5.out w26 pp13_1 (X4.later b26) jX4 (bC kz14 b26)) (cA 9 S fun w27 pp13_0 h X3 b27 => s14b_6.out w27 pp13_0 pp13_1 X3 (X4.later b27) (lZ kz14.size h) jX4 (Nat.ne_of_gt (lY X4.lt h)) (bC kz14 b27))
    case' ns14b_3 => refine lH ?_
    intro w28 kz14
    have S := Off.ofB kz14
    refine vY2 (cA 9 S fun w29 pp13_0 h X3 b29 => ?_) (cA 10 S fun w30 pp13_1 h X4 b30 => ?_)
    have jX3 := (lZ kz14.size h); replace kz14 := bC kz14 b29
    clear S b29 h w28
    revert kz14; revert jX3; revert X3; revert pp13_0; revert w29
    exact s14b_7.out
    have jX4 := (lZ kz14.size h); replace kz14 := bC kz14 b30
    clear S b30 h w28
    revert kz14; revert jX4; revert X4; revert pp13_1; revert w30
    exact s14b_8.out
    case' ns14b_4 => refine lH ?_
    intro w31 pp13_0 X3 jX3 kz14
    have S := Off.ofB kz14
    refine vY2 (cC 8 S (h7.out _ (ft.later (bC kk (bC b13 kz14)))) fun w32 b32 => s14b_7.out w32 pp13_0 (X3.later b32) jX3 (bC kz14 b32)) (cA 10 S fun w33 pp13_1 h X4 b33 => ?_)
    have ndX3_X4 : ¬ (pp13_0 = pp13_1) := (Nat.ne_of_lt (lY X3.lt h)); have jX4 := (lZ kz14.size h); replace X3 := (X3.later b33); replace kz14 := bC kz14 b33
    clear S b33 h w31
    revert kz14; revert ndX3_X4; revert jX4; revert jX3; revert X4; revert X3; revert pp13_1; revert pp13_0; revert w33
    exact s14b_9.out
    case' ns14b_5 => refine lH ?_
    intro w34 pp13_1 X4 jX4 kz14
    have S := Off.ofB kz14
    refine vY2 (cC 8 S (h7.out _ (ft.later (bC kk (bC b13 kz14)))) fun w35 b35 => s14b_8.out w35 pp13_1 (X4.later b35) jX4 (bC kz14 b35)) (cA 9 S fun w36 pp13_0 h X3 b36 => s14b_9.out w36 pp13_0 pp13_1 X3 (X4.later b36) (lZ kz14.size h) jX4 (Nat.ne_of_gt (lY X4.lt h)) (bC kz14 b36))
    case' ns14b_6 => refine lH ?_
    intro w37 pp13_0 pp13_1 X3 X4 jX3 jX4 ndX3_X4 kz14
    have S := Off.ofB kz14
    refine vY1 (cC 3 S (h6.out _ (ft.later (bC kk (bC b13 kz14)))) fun w38 b38 => s14b_9.out w38 pp13_0 pp13_1 (X3.later b38) (X4.later b38) jX3 jX4 ndX3_X4 (bC kz14 b38))
    case' ns14b_7 => refine lH ?_
    intro w39 pp13_0 X3 jX3 kz14
    have S := Off.ofB kz14
    refine vY1 (cA 10 S fun w40 pp13_1 h X4 b40 => ?_)
    have ndX3_X4 : ¬ (pp13_0 = pp13_1) := (Nat.ne_of_lt (lY X3.lt h)); have jX4 := (lZ kz14.size h); replace X3 := (X3.later b40); replace kz14 := bC kz14 b40
    clear S b40 h w39
    revert kz14; revert ndX3_X4; revert jX4; revert jX3; revert X4; revert X3; revert pp13_1; revert pp13_0; revert w40
    exact s14b_10.out
    case' ns14b_8 => refine lH ?_
    intro w41 pp13_1 X4 jX4 kz14
    have S := Off.ofB kz14
    refine vY1 (cA 9 S fun w42 pp13_0 h X3 b42 => s14b_10.out w42 pp13_0 pp13_1 X3 (X4.later b42) (lZ kz14.size h) jX4 (Nat.ne_of_gt (lY X4.lt h)) (bC kz14 b42))
    case' ns14b_9 => refine lH ?_
    intro w43 pp13_0 pp13_1 X3 X4 jX3 jX4 ndX3_X4 kz14
    have S := Off.ofB kz14
    refine vY1 (cC 8 S (h7.out _ (ft.later (bC kk (bC b13 kz14)))) fun w44 b44 => s14b_10.out w44 pp13_0 pp13_1 (X3.later b44) (X4.later b44) jX3 jX4 ndX3_X4 (bC kz14 b44))
    case' ns14b_10 => refine lH ?_
    intro w45 pp13_0 pp13_1 X3 X4 jX3 jX4 ndX3_X4 kz14
    have S := Off.ofB kz14
    refine vY1 (vO 11 fun K hK => ?_)
    have q := X3.o; have mX4 : ¬ (pp13_1 = pp13_0) := (by omega)
    go_simp
    refine vW (fun W => HB W pp13_0 30 #[.int .u64 rh, .int .u64 rl, .int .u8 0] ∧ HB W pp13_1 30 #[.int .u64 0, .int .u64 0, .int .u8 0] ∧ Below w13.heap.size w13 W) ⟨(((X3.set 0 _).set 1 _).set 2 _), (((X4.other mX4 0 _).other mX4 1 _).other mX4 2 _), (((kz14.setCell (p := ⟨pp13_0, 0, none⟩) jX3 _).setCell (p := ⟨pp13_0, 1, none⟩) jX3 _).setCell (p := ⟨pp13_0, 2, none⟩) jX3 _)⟩ fun w47 hz => ?_
    clear q mX4 X3 X4 S kz14 w45; obtain ⟨X3, X4, kz14⟩ := hz
    refine hK.out _ _ (Off.ofB kz14) fun S => ?_; clear hK K S; refine vP ?_
    revert kz14; revert ndX3_X4; revert jX4; revert jX3; revert X4; revert X3; revert pp13_1; revert pp13_0; revert w47
    exact s14b_11.out
    case' ns14b_11 => refine lH ?_
    intro w48 pp13_0 pp13_1 X3 X4 jX3 jX4 ndX3_X4 kz14
    have S := Off.ofB kz14
    refine vY1 (vO 12 fun K hK => ?_)
    have q := X4.o; have mX3 : ¬ (pp13_0 = pp13_1) := (by omega)
    go_simp
    refine vW (fun W => HB W pp13_0 30 #[.int .u64 rh, .int .u64 rl, .int .u8 0] ∧ HB W pp13_1 30 #[.int .u64 qh, .int .u64 ql, .int .u8 0] ∧ Below w13.heap.size w13 W) ⟨(((X3.other mX3 0 _).other mX3 1 _).other mX3 2 _), (((X4.set 0 _).set 1 _).set 2 _), (((kz14.setCell (p := ⟨pp13_1, 0, none⟩) jX4 _).setCell (p := ⟨pp13_1, 1, none⟩) jX4 _).setCell (p := ⟨pp13_1, 2, none⟩) jX4 _)⟩ fun w50 hz => ?_
    clear q mX3 X3 X4 S kz14 w48; obtain ⟨X3, X4, kz14⟩ := hz
    refine hK.out _ _ (Off.ofB kz14) fun S => ?_; clear hK K S; refine vP ?_
    revert kz14; revert ndX3_X4; revert jX4; revert jX3; revert X4; revert X3; revert pp13_1; revert pp13_0; revert w50
    exact s14b_12.out
    case' ns14b_12 => refine lH ?_
    intro w51 pp13_0 pp13_1 X3 X4 jX3 jX4 ndX3_X4 kz14
    refine vD ?_
    have nX1_X3 : w.heap.size + 1 < pp13_0 := by have := X1.lt; omega
    have nX1_X4 : w.heap.size + 1 < pp13_1 := by have := X1.lt; omega
    have gX3 : w.heap.size ≤ pp13_0 := by have := (bC kk b13).size; omega
    have gX4 : w.heap.size ≤ pp13_1 := by have := (bC kk b13).size; omega
    have oX3 := X3.o
    go_wp2_with fail
    refine vM (h8.out _ (ft.later (bC kk (bC b13 kz14)))) fun w52 b52 => ?_
    clear oX3
    go_wp2_with fail
    refine vM (h9.out _ (ft.later (bA (bC kk (bC (bC b13 kz14) b52)) _))) fun w53 b53 => ?_
    replace X1 := X1.later (bC (bC kz14 b52) (bC (bA bR _) b53))
    have oX1 := X1.o
    go_wp2_with fail
    refine vF1 fun w54 b54 _ => ?_
    clear oX1
    replace X3 := X3.later (bC (bC b52 (bC (bA bR _) b53)) b54)
    replace X4 := X4.later (bC (bC b52 (bC (bA bR _) b53)) b54)
    refine vR [] fun w55 b55 S55 => ?_
    refine vT 0 S55 ?_
    refine vT 1 S55 ?_ (hy := by intro wq hb; have q := (hb.hb X4 (by simp)).o; go_simp; try (with_reducible rfl))
    refine vT 2 S55 ?_
    refine vT 3 S55 ?_
    refine vT 4 S55 ?_ (hy := by intro wq hb; have q := (hb.hb X3 (by simp)).o; go_simp; try (with_reducible rfl))
    refine vY1 (vC 5 S55 (h10.out _ (ft.later (bC kk (bC (bC (bC (bC (bC b13 kz14) b52) (bC (bA bR _) b53)) b54) b55)))) (fun _ _ => Off.later) fun w56 b56 S56 => ?_)
    refine vT 6 S56 ?_
    refine vT 7 S56 ?_
    refine vY1 (vC 8 S56 (h11.out _ (ft.later (bC kk (bC (bC (bC (bC (bC (bC b13 kz14) b52) (bC (bA bR _) b53)) b54) b55) b56)))) (fun _ _ => Off.later) fun w57 b57 S57 => ?_)
    refine vT 9 S57 ?_
    refine vT 10 S57 ?_
    refine vD ?_
    go_wp2_with fail
    go_ret
    exact ⟨rfl, (bC kk (bC (bC (bC (bC (bC (bC (bC b13 kz14) b52) (bC (bA bR _) b53)) b54) b55) b56) b57))⟩
  · clear oX0 oX1 mX1_X0 mX0_X1
    go_wp2_with fail
    have nX0_X2 : w.heap.size < w12.heap.size := by have := X0.lt; omega
    have nX1_X2 : w.heap.size + 1 < w12.heap.size := by have := X1.lt; omega
    refine vF1 fun w13 b13 X2 => ?_
    replace X0 := X0.later b13
    replace X1 := X1.later b13
    refine' (have s14c_12 : Hid (_ : Prop) := ?ns14c_12; ?ms14c_12)
    case' ms14c_12 => skip
    refine' (have s14c_11 : Hid (_ : Prop) := ?ns14c_11; ?ms14c_11)
    case' ms14c_11 => skip
    refine' (have s14c_10 : Hid (_ : Prop) := ?ns14c_10; ?ms14c_10)
    case' ms14c_10 => skip
    refine' (have s14c_9 : Hid (_ : Prop) := ?ns14c_9; ?ms14c_9)
    case' ms14c_9 => skip
    refine' (have s14c_8 : Hid (_ : Prop) := ?ns14c_8; ?ms14c_8)
    case' ms14c_8 => skip
    refine' (have s14c_7 : Hid (_ : Prop) := ?ns14c_7; ?ms14c_7)
    case' ms14c_7 => skip
    refine' (have s14c_6 : Hid (_ : Prop) := ?ns14c_6; ?ms14c_6)
    case' ms14c_6 => skip
    refine' (have s14c_5 : Hid (_ : Prop) := ?ns14c_5; ?ms14c_5)
    case' ms14c_5 => skip
    refine' (have s14c_4 : Hid (_ : Prop) := ?ns14c_4; ?ms14c_4)
    case' ms14c_4 => skip
    refine' (have s14c_3 : Hid (_ : Prop) := ?ns14c_3; ?ms14c_3)
    case' ms14c_3 => skip
    refine' (have s14c_2 : Hid (_ : Prop) := ?ns14c_2; ?ms14c_2)
    case' ms14c_2 => skip
    refine' (have s14c_1 : Hid (_ : Prop) := ?ns14c_1; ?ms14c_1)
    case' ms14c_1 => skip
    refine' (have s14c_0 : Hid (_ : Prop) := ?ns14c_0; ?ms14c_0)
    case' ms14c_0 => skip
    refine vR [] fun w14 kz14 S => ?_
    refine vT 0 S ?_
    refine vT 1 S ?_ (hy := by intro wq hb; have q := (hb.hb X0 (by simp)).o; go_simp; try (with_reducible rfl))
    refine vT 2 S ?_ (hy := by intro wq hb; have q := (hb.hb X1 (by simp)).o; go_simp; try (with_reducible rfl))
    refine vT 4 S ?_
    refine vT 5 S ?_
    refine vT 6 S ?_ (hy := by intro wq hb; have q := (hb.hb X2 (by simp)).o; go_simp; try (with_reducible rfl))
    refine vT 7 S ?_ (hy := by intro wq hb; have q := (hb.hb X1 (by simp)).o; go_simp; try (with_reducible rfl))
    refine vY3 (cC 3 S (h6.out _ (ft.later (bC kk (bC b13 kz14)))) fun w15 b15 => ?_) (cA 9 S fun w16 pp13_0 h X3 b16 => ?_) (cA 10 S fun w17 pp13_1 h X4 b17 => ?_)
    replace kz14 := bC kz14 b15
    clear S b15 w14
    revert kz14; revert w15
    exact s14c_0.out
    have jX3 := (lZ kz14.size h); replace kz14 := bC kz14 b16
    clear S b16 h w14
    revert kz14; revert jX3; revert X3; revert pp13_0; revert w16
    exact s14c_1.out
    have jX4 := (lZ kz14.size h); replace kz14 := bC kz14 b17
    clear S b17 h w14
    revert kz14; revert jX4; revert X4; revert pp13_1; revert w17
    exact s14c_2.out
    case' ns14c_0 => refine lH ?_
    intro w18 kz14
    have S := Off.ofB kz14
    refine vY3 (cC 8 S (h7.out _ (ft.later (bC kk (bC b13 kz14)))) fun w19 b19 => ?_) (cA 9 S fun w20 pp13_0 h X3 b20 => ?_) (cA 10 S fun w21 pp13_1 h X4 b21 => ?_)
    replace kz14 := bC kz14 b19
    clear S b19 w18
    revert kz14; revert w19
    exact s14c_3.out
    have jX3 := (lZ kz14.size h); replace kz14 := bC kz14 b20
    clear S b20 h w18
    revert kz14; revert jX3; revert X3; revert pp13_0; revert w20
    exact s14c_4.out
    have jX4 := (lZ kz14.size h); replace kz14 := bC kz14 b21
    clear S b21 h w18
    revert kz14; revert jX4; revert X4; revert pp13_1; revert w21
    exact s14c_5.out
    case' ns14c_1 => refine lH ?_
    intro w22 pp13_0 X3 jX3 kz14
    have S := Off.ofB kz14
    refine vY2 (cC 3 S (h6.out _ (ft.later (bC kk (bC b13 kz14)))) fun w23 b23 => s14c_4.out w23 pp13_0 (X3.later b23) jX3 (bC kz14 b23)) (cA 10 S fun w24 pp13_1 h X4 b24 => ?_)
    have ndX3_X4 : ¬ (pp13_0 = pp13_1) := (Nat.ne_of_lt (lY X3.lt h)); have jX4 := (lZ kz14.size h); replace X3 := (X3.later b24); replace kz14 := bC kz14 b24
    clear S b24 h w22
    revert kz14; revert ndX3_X4; revert jX4; revert jX3; revert X4; revert X3; revert pp13_1; revert pp13_0; revert w24
    exact s14c_6.out
    case' ns14c_2 => refine lH ?_
    intro w25 pp13_1 X4 jX4 kz14
    have S := Off.ofB kz14
    refine vY2 (cC 3 S (h6.out _ (ft.later (bC kk (bC b13 kz14)))) fun w26 b26 => s14c_5.out w26 pp13_1 (X4.later b26) jX4 (bC kz14 b26)) (cA 9 S fun w27 pp13_0 h X3 b27 => s14c_6.out w27 pp13_0 pp13_1 X3 (X4.later b27) (lZ kz14.size h) jX4 (Nat.ne_of_gt (lY X4.lt h)) (bC kz14 b27))
    case' ns14c_3 => refine lH ?_
    intro w28 kz14
    have S := Off.ofB kz14
    refine vY2 (cA 9 S fun w29 pp13_0 h X3 b29 => ?_) (cA 10 S fun w30 pp13_1 h X4 b30 => ?_)
    have jX3 := (lZ kz14.size h); replace kz14 := bC kz14 b29
    clear S b29 h w28
    revert kz14; revert jX3; revert X3; revert pp13_0; revert w29
    exact s14c_7.out
    have jX4 := (lZ kz14.size h); replace kz14 := bC kz14 b30
    clear S b30 h w28
    revert kz14; revert jX4; revert X4; revert pp13_1; revert w30
    exact s14c_8.out
    case' ns14c_4 => refine lH ?_
    intro w31 pp13_0 X3 jX3 kz14
    have S := Off.ofB kz14
    refine vY2 (cC 8 S (h7.out _ (ft.later (bC kk (bC b13 kz14)))) fun w32 b32 => s14c_7.out w32 pp13_0 (X3.later b32) jX3 (bC kz14 b32)) (cA 10 S fun w33 pp13_1 h X4 b33 => ?_)
    have ndX3_X4 : ¬ (pp13_0 = pp13_1) := (Nat.ne_of_lt (lY X3.lt h)); have jX4 := (lZ kz14.size h); replace X3 := (X3.later b33); replace kz14 := bC kz14 b33
    clear S b33 h w31
    revert kz14; revert ndX3_X4; revert jX4; revert jX3; revert X4; revert X3; revert pp13_1; revert pp13_0; revert w33
    exact s14c_9.out
    case' ns14c_5 => refine lH ?_
    intro w34 pp13_1 X4 jX4 kz14
    have S := Off.ofB kz14
    refine vY2 (cC 8 S (h7.out _ (ft.later (bC kk (bC b13 kz14)))) fun w35 b35 => s14c_8.out w35 pp13_1 (X4.later b35) jX4 (bC kz14 b35)) (cA 9 S fun w36 pp13_0 h X3 b36 => s14c_9.out w36 pp13_0 pp13_1 X3 (X4.later b36) (lZ kz14.size h) jX4 (Nat.ne_of_gt (lY X4.lt h)) (bC kz14 b36))
    case' ns14c_6 => refine lH ?_
    intro w37 pp13_0 pp13_1 X3 X4 jX3 jX4 ndX3_X4 kz14
    have S := Off.ofB kz14
    refine vY1 (cC 3 S (h6.out _ (ft.later (bC kk (bC b13 kz14)))) fun w38 b38 => s14c_9.out w38 pp13_0 pp13_1 (X3.later b38) (X4.later b38) jX3 jX4 ndX3_X4 (bC kz14 b38))
    case' ns14c_7 => refine lH ?_
    intro w39 pp13_0 X3 jX3 kz14
    have S := Off.ofB kz14
    refine vY1 (cA 10 S fun w40 pp13_1 h X4 b40 => ?_)
    have ndX3_X4 : ¬ (pp13_0 = pp13_1) := (Nat.ne_of_lt (lY X3.lt h)); have jX4 := (lZ kz14.size h); replace X3 := (X3.later b40); replace kz14 := bC kz14 b40
    clear S b40 h w39
    revert kz14; revert ndX3_X4; revert jX4; revert jX3; revert X4; revert X3; revert pp13_1; revert pp13_0; revert w40
    exact s14c_10.out
    case' ns14c_8 => refine lH ?_
    intro w41 pp13_1 X4 jX4 kz14
    have S := Off.ofB kz14
    refine vY1 (cA 9 S fun w42 pp13_0 h X3 b42 => s14c_10.out w42 pp13_0 pp13_1 X3 (X4.later b42) (lZ kz14.size h) jX4 (Nat.ne_of_gt (lY X4.lt h)) (bC kz14 b42))
    case' ns14c_9 => refine lH ?_
    intro w43 pp13_0 pp13_1 X3 X4 jX3 jX4 ndX3_X4 kz14
    have S := Off.ofB kz14
    refine vY1 (cC 8 S (h7.out _ (ft.later (bC kk (bC b13 kz14)))) fun w44 b44 => s14c_10.out w44 pp13_0 pp13_1 (X3.later b44) (X4.later b44) jX3 jX4 ndX3_X4 (bC kz14 b44))
    case' ns14c_10 => refine lH ?_
    intro w45 pp13_0 pp13_1 X3 X4 jX3 jX4 ndX3_X4 kz14
    have S := Off.ofB kz14
    refine vY1 (vO 11 fun K hK => ?_)
    have q := X3.o; have mX4 : ¬ (pp13_1 = pp13_0) := (by omega)
    go_simp
    refine vW (fun W => HB W pp13_0 30 #[.int .u64 rh, .int .u64 rl, .int .u8 0] ∧ HB W pp13_1 30 #[.int .u64 0, .int .u64 0, .int .u8 0] ∧ Below w13.heap.size w13 W) ⟨(((X3.set 0 _).set 1 _).set 2 _), (((X4.other mX4 0 _).other mX4 1 _).other mX4 2 _), (((kz14.setCell (p := ⟨pp13_0, 0, none⟩) jX3 _).setCell (p := ⟨pp13_0, 1, none⟩) jX3 _).setCell (p := ⟨pp13_0, 2, none⟩) jX3 _)⟩ fun w47 hz => ?_
    clear q mX4 X3 X4 S kz14 w45; obtain ⟨X3, X4, kz14⟩ := hz
    refine hK.out _ _ (Off.ofB kz14) fun S => ?_; clear hK K S; refine vP ?_
    revert kz14; revert ndX3_X4; revert jX4; revert jX3; revert X4; revert X3; revert pp13_1; revert pp13_0; revert w47
    exact s14c_11.out
    case' ns14c_11 => refine lH ?_
    intro w48 pp13_0 pp13_1 X3 X4 jX3 jX4 ndX3_X4 kz14
    have S := Off.ofB kz14
    refine vY1 (vO 12 fun K hK => ?_)
    have q := X4.o; have mX3 : ¬ (pp13_0 = pp13_1) := (by omega)
    go_simp
    refine vW (fun W => HB W pp13_0 30 #[.int .u64 rh, .int .u64 rl, .int .u8 0] ∧ HB W pp13_1 30 #[.int .u64 qh, .int .u64 ql, .int .u8 0] ∧ Below w13.heap.size w13 W) ⟨(((X3.other mX3 0 _).other mX3 1 _).other mX3 2 _), (((X4.set 0 _).set 1 _).set 2 _), (((kz14.setCell (p := ⟨pp13_1, 0, none⟩) jX4 _).setCell (p := ⟨pp13_1, 1, none⟩) jX4 _).setCell (p := ⟨pp13_1, 2, none⟩) jX4 _)⟩ fun w50 hz => ?_
    clear q mX3 X3 X4 S kz14 w48; obtain ⟨X3, X4, kz14⟩ := hz
    refine hK.out _ _ (Off.ofB kz14) fun S => ?_; clear hK K S; refine vP ?_
    revert kz14; revert ndX3_X4; revert jX4; revert jX3; revert X4; revert X3; revert pp13_1; revert pp13_0; revert w50
    exact s14c_12.out
    case' ns14c_12 => refine lH ?_
    intro w51 pp13_0 pp13_1 X3 X4 jX3 jX4 ndX3_X4 kz14
    refine vD ?_
    have nX1_X3 : w.heap.size + 1 < pp13_0 := by have := X1.lt; omega
    have nX1_X4 : w.heap.size + 1 < pp13_1 := by have := X1.lt; omega
    have gX3 : w.heap.size ≤ pp13_0 := by have := (bC kk b13).size; omega
    have gX4 : w.heap.size ≤ pp13_1 := by have := (bC kk b13).size; omega
    have oX3 := X3.o
    go_wp2_with fail
    refine vM (h8.out _ (ft.later (bC kk (bC b13 kz14)))) fun w52 b52 => ?_
    clear oX3
    go_wp2_with fail
    refine vM (h9.out _ (ft.later (bA (bC kk (bC (bC b13 kz14) b52)) _))) fun w53 b53 => ?_
    replace X1 := X1.later (bC (bC kz14 b52) (bC (bA bR _) b53))
    have oX1 := X1.o
    replace X3 := X3.later (bC b52 (bC (bA bR _) b53))
    have oX3 := X3.o
    replace X4 := X4.later (bC b52 (bC (bA bR _) b53))
    have oX4 := X4.o
    go_wp2_with fail
    refine vM (h10.out _ (ft.later (bA (bC kk (bC (bC (bC b13 kz14) b52) (bC (bA bR _) b53))) _))) fun w54 b54 => ?_
    clear oX1 oX3 oX4
    go_wp2_with fail
    go_ret
    exact ⟨rfl, (bC kk (bC (bC (bC (bC b13 kz14) b52) (bC (bA bR _) b53)) (bC (bA bR _) b54)))⟩
  · clear oX0 oX1 mX1_X0 mX0_X1
    go_wp2_with fail
    have nX0_X2 : w.heap.size < w12.heap.size := by have := X0.lt; omega
    have nX1_X2 : w.heap.size + 1 < w12.heap.size := by have := X1.lt; omega
    refine vF1 fun w13 b13 X2 => ?_
    replace X0 := X0.later b13
    replace X1 := X1.later b13
    refine' (have s14d_12 : Hid (_ : Prop) := ?ns14d_12; ?ms14d_12)
    case' ms14d_12 => skip
    refine' (have s14d_11 : Hid (_ : Prop) := ?ns14d_11; ?ms14d_11)
    case' ms14d_11 => skip
    refine' (have s14d_10 : Hid (_ : Prop) := ?ns14d_10; ?ms14d_10)
    case' ms14d_10 => skip
    refine' (have s14d_9 : Hid (_ : Prop) := ?ns14d_9; ?ms14d_9)
    case' ms14d_9 => skip
    refine' (have s14d_8 : Hid (_ : Prop) := ?ns14d_8; ?ms14d_8)
    case' ms14d_8 => skip
    refine' (have s14d_7 : Hid (_ : Prop) := ?ns14d_7; ?ms14d_7)
    case' ms14d_7 => skip
    refine' (have s14d_6 : Hid (_ : Prop) := ?ns14d_6; ?ms14d_6)
    case' ms14d_6 => skip
    refine' (have s14d_5 : Hid (_ : Prop) := ?ns14d_5; ?ms14d_5)
    case' ms14d_5 => skip
    refine' (have s14d_4 : Hid (_ : Prop) := ?ns14d_4; ?ms14d_4)
    case' ms14d_4 => skip
    refine' (have s14d_3 : Hid (_ : Prop) := ?ns14d_3; ?ms14d_3)
    case' ms14d_3 => skip
    refine' (have s14d_2 : Hid (_ : Prop) := ?ns14d_2; ?ms14d_2)
    case' ms14d_2 => skip
    refine' (have s14d_1 : Hid (_ : Prop) := ?ns14d_1; ?ms14d_1)
    case' ms14d_1 => skip
    refine' (have s14d_0 : Hid (_ : Prop) := ?ns14d_0; ?ms14d_0)
    case' ms14d_0 => skip
    refine vR [] fun w14 kz14 S => ?_
    refine vT 0 S ?_
    refine vT 1 S ?_ (hy := by intro wq hb; have q := (hb.hb X0 (by simp)).o; go_simp; try (with_reducible rfl))
    refine vT 2 S ?_ (hy := by intro wq hb; have q := (hb.hb X1 (by simp)).o; go_simp; try (with_reducible rfl))
    refine vT 4 S ?_
    refine vT 5 S ?_
    refine vT 6 S ?_ (hy := by intro wq hb; have q := (hb.hb X2 (by simp)).o; go_simp; try (with_reducible rfl))
    refine vT 7 S ?_ (hy := by intro wq hb; have q := (hb.hb X1 (by simp)).o; go_simp; try (with_reducible rfl))
    refine vY3 (cC 3 S (h6.out _ (ft.later (bC kk (bC b13 kz14)))) fun w15 b15 => ?_) (cA 9 S fun w16 pp13_0 h X3 b16 => ?_) (cA 10 S fun w17 pp13_1 h X4 b17 => ?_)
    replace kz14 := bC kz14 b15
    clear S b15 w14
    revert kz14; revert w15
    exact s14d_0.out
    have jX3 := (lZ kz14.size h); replace kz14 := bC kz14 b16
    clear S b16 h w14
    revert kz14; revert jX3; revert X3; revert pp13_0; revert w16
    exact s14d_1.out
    have jX4 := (lZ kz14.size h); replace kz14 := bC kz14 b17
    clear S b17 h w14
    revert kz14; revert jX4; revert X4; revert pp13_1; revert w17
    exact s14d_2.out
    case' ns14d_0 => refine lH ?_
    intro w18 kz14
    have S := Off.ofB kz14
    refine vY3 (cC 8 S (h7.out _ (ft.later (bC kk (bC b13 kz14)))) fun w19 b19 => ?_) (cA 9 S fun w20 pp13_0 h X3 b20 => ?_) (cA 10 S fun w21 pp13_1 h X4 b21 => ?_)
    replace kz14 := bC kz14 b19
    clear S b19 w18
    revert kz14; revert w19
    exact s14d_3.out
    have jX3 := (lZ kz14.size h); replace kz14 := bC kz14 b20
    clear S b20 h w18
    revert kz14; revert jX3; revert X3; revert pp13_0; revert w20
    exact s14d_4.out
    have jX4 := (lZ kz14.size h); replace kz14 := bC kz14 b21
    clear S b21 h w18
    revert kz14; revert jX4; revert X4; revert pp13_1; revert w21
    exact s14d_5.out
    case' ns14d_1 => refine lH ?_
    intro w22 pp13_0 X3 jX3 kz14
    have S := Off.ofB kz14
    refine vY2 (cC 3 S (h6.out _ (ft.later (bC kk (bC b13 kz14)))) fun w23 b23 => s14d_4.out w23 pp13_0 (X3.later b23) jX3 (bC kz14 b23)) (cA 10 S fun w24 pp13_1 h X4 b24 => ?_)
    have ndX3_X4 : ¬ (pp13_0 = pp13_1) := (Nat.ne_of_lt (lY X3.lt h)); have jX4 := (lZ kz14.size h); replace X3 := (X3.later b24); replace kz14 := bC kz14 b24
    clear S b24 h w22
    revert kz14; revert ndX3_X4; revert jX4; revert jX3; revert X4; revert X3; revert pp13_1; revert pp13_0; revert w24
    exact s14d_6.out
    case' ns14d_2 => refine lH ?_
    intro w25 pp13_1 X4 jX4 kz14
    have S := Off.ofB kz14
    refine vY2 (cC 3 S (h6.out _ (ft.later (bC kk (bC b13 kz14)))) fun w26 b26 => s14d_5.out w26 pp13_1 (X4.later b26) jX4 (bC kz14 b26)) (cA 9 S fun w27 pp13_0 h X3 b27 => s14d_6.out w27 pp13_0 pp13_1 X3 (X4.later b27) (lZ kz14.size h) jX4 (Nat.ne_of_gt (lY X4.lt h)) (bC kz14 b27))
    case' ns14d_3 => refine lH ?_
    intro w28 kz14
    have S := Off.ofB kz14
    refine vY2 (cA 9 S fun w29 pp13_0 h X3 b29 => ?_) (cA 10 S fun w30 pp13_1 h X4 b30 => ?_)
    have jX3 := (lZ kz14.size h); replace kz14 := bC kz14 b29
    clear S b29 h w28
    revert kz14; revert jX3; revert X3; revert pp13_0; revert w29
    exact s14d_7.out
    have jX4 := (lZ kz14.size h); replace kz14 := bC kz14 b30
    clear S b30 h w28
    revert kz14; revert jX4; revert X4; revert pp13_1; revert w30
    exact s14d_8.out
    case' ns14d_4 => refine lH ?_
    intro w31 pp13_0 X3 jX3 kz14
    have S := Off.ofB kz14
    refine vY2 (cC 8 S (h7.out _ (ft.later (bC kk (bC b13 kz14)))) fun w32 b32 => s14d_7.out w32 pp13_0 (X3.later b32) jX3 (bC kz14 b32)) (cA 10 S fun w33 pp13_1 h X4 b33 => ?_)
    have ndX3_X4 : ¬ (pp13_0 = pp13_1) := (Nat.ne_of_lt (lY X3.lt h)); have jX4 := (lZ kz14.size h); replace X3 := (X3.later b33); replace kz14 := bC kz14 b33
    clear S b33 h w31
    revert kz14; revert ndX3_X4; revert jX4; revert jX3; revert X4; revert X3; revert pp13_1; revert pp13_0; revert w33
    exact s14d_9.out
    case' ns14d_5 => refine lH ?_
    intro w34 pp13_1 X4 jX4 kz14
    have S := Off.ofB kz14
    refine vY2 (cC 8 S (h7.out _ (ft.later (bC kk (bC b13 kz14)))) fun w35 b35 => s14d_8.out w35 pp13_1 (X4.later b35) jX4 (bC kz14 b35)) (cA 9 S fun w36 pp13_0 h X3 b36 => s14d_9.out w36 pp13_0 pp13_1 X3 (X4.later b36) (lZ kz14.size h) jX4 (Nat.ne_of_gt (lY X4.lt h)) (bC kz14 b36))
    case' ns14d_6 => refine lH ?_
    intro w37 pp13_0 pp13_1 X3 X4 jX3 jX4 ndX3_X4 kz14
    have S := Off.ofB kz14
    refine vY1 (cC 3 S (h6.out _ (ft.later (bC kk (bC b13 kz14)))) fun w38 b38 => s14d_9.out w38 pp13_0 pp13_1 (X3.later b38) (X4.later b38) jX3 jX4 ndX3_X4 (bC kz14 b38))
    case' ns14d_7 => refine lH ?_
    intro w39 pp13_0 X3 jX3 kz14
    have S := Off.ofB kz14
    refine vY1 (cA 10 S fun w40 pp13_1 h X4 b40 => ?_)
    have ndX3_X4 : ¬ (pp13_0 = pp13_1) := (Nat.ne_of_lt (lY X3.lt h)); have jX4 := (lZ kz14.size h); replace X3 := (X3.later b40); replace kz14 := bC kz14 b40
    clear S b40 h w39
    revert kz14; revert ndX3_X4; revert jX4; revert jX3; revert X4; revert X3; revert pp13_1; revert pp13_0; revert w40
    exact s14d_10.out
    case' ns14d_8 => refine lH ?_
    intro w41 pp13_1 X4 jX4 kz14
    have S := Off.ofB kz14
    refine vY1 (cA 9 S fun w42 pp13_0 h X3 b42 => s14d_10.out w42 pp13_0 pp13_1 X3 (X4.later b42) (lZ kz14.size h) jX4 (Nat.ne_of_gt (lY X4.lt h)) (bC kz14 b42))
    case' ns14d_9 => refine lH ?_
    intro w43 pp13_0 pp13_1 X3 X4 jX3 jX4 ndX3_X4 kz14
    have S := Off.ofB kz14
    refine vY1 (cC 8 S (h7.out _ (ft.later (bC kk (bC b13 kz14)))) fun w44 b44 => s14d_10.out w44 pp13_0 pp13_1 (X3.later b44) (X4.later b44) jX3 jX4 ndX3_X4 (bC kz14 b44))
    case' ns14d_10 => refine lH ?_
    intro w45 pp13_0 pp13_1 X3 X4 jX3 jX4 ndX3_X4 kz14
    have S := Off.ofB kz14
    refine vY1 (vO 11 fun K hK => ?_)
    have q := X3.o; have mX4 : ¬ (pp13_1 = pp13_0) := (by omega)
    go_simp
    refine vW (fun W => HB W pp13_0 30 #[.int .u64 rh, .int .u64 rl, .int .u8 0] ∧ HB W pp13_1 30 #[.int .u64 0, .int .u64 0, .int .u8 0] ∧ Below w13.heap.size w13 W) ⟨(((X3.set 0 _).set 1 _).set 2 _), (((X4.other mX4 0 _).other mX4 1 _).other mX4 2 _), (((kz14.setCell (p := ⟨pp13_0, 0, none⟩) jX3 _).setCell (p := ⟨pp13_0, 1, none⟩) jX3 _).setCell (p := ⟨pp13_0, 2, none⟩) jX3 _)⟩ fun w47 hz => ?_
    clear q mX4 X3 X4 S kz14 w45; obtain ⟨X3, X4, kz14⟩ := hz
    refine hK.out _ _ (Off.ofB kz14) fun S => ?_; clear hK K S; refine vP ?_
    revert kz14; revert ndX3_X4; revert jX4; revert jX3; revert X4; revert X3; revert pp13_1; revert pp13_0; revert w47
    exact s14d_11.out
    case' ns14d_11 => refine lH ?_
    intro w48 pp13_0 pp13_1 X3 X4 jX3 jX4 ndX3_X4 kz14
    have S := Off.ofB kz14
    refine vY1 (vO 12 fun K hK => ?_)
    have q := X4.o; have mX3 : ¬ (pp13_0 = pp13_1) := (by omega)
    go_simp
    refine vW (fun W => HB W pp13_0 30 #[.int .u64 rh, .int .u64 rl, .int .u8 0] ∧ HB W pp13_1 30 #[.int .u64 qh, .int .u64 ql, .int .u8 0] ∧ Below w13.heap.size w13 W) ⟨(((X3.other mX3 0 _).other mX3 1 _).other mX3 2 _), (((X4.set 0 _).set 1 _).set 2 _), (((kz14.setCell (p := ⟨pp13_1, 0, none⟩) jX4 _).setCell (p := ⟨pp13_1, 1, none⟩) jX4 _).setCell (p := ⟨pp13_1, 2, none⟩) jX4 _)⟩ fun w50 hz => ?_
    clear q mX3 X3 X4 S kz14 w48; obtain ⟨X3, X4, kz14⟩ := hz
    refine hK.out _ _ (Off.ofB kz14) fun S => ?_; clear hK K S; refine vP ?_
    revert kz14; revert ndX3_X4; revert jX4; revert jX3; revert X4; revert X3; revert pp13_1; revert pp13_0; revert w50
    exact s14d_12.out
    case' ns14d_12 => refine lH ?_
    intro w51 pp13_0 pp13_1 X3 X4 jX3 jX4 ndX3_X4 kz14
    refine vD ?_
    have nX1_X3 : w.heap.size + 1 < pp13_0 := by have := X1.lt; omega
    have nX1_X4 : w.heap.size + 1 < pp13_1 := by have := X1.lt; omega
    have gX3 : w.heap.size ≤ pp13_0 := by have := (bC kk b13).size; omega
    have gX4 : w.heap.size ≤ pp13_1 := by have := (bC kk b13).size; omega
    have oX3 := X3.o
    go_wp2_with fail
    refine vM (h8.out _ (ft.later (bC kk (bC b13 kz14)))) fun w52 b52 => ?_
    clear oX3
    go_wp2_with fail
    refine vM (h9.out _ (ft.later (bA (bC kk (bC (bC b13 kz14) b52)) _))) fun w53 b53 => ?_
    replace X1 := X1.later (bC (bC kz14 b52) (bC (bA bR _) b53))
    have oX1 := X1.o
    replace X3 := X3.later (bC b52 (bC (bA bR _) b53))
    have oX3 := X3.o
    replace X4 := X4.later (bC b52 (bC (bA bR _) b53))
    have oX4 := X4.o
    go_wp2_with fail
    refine vM (h10.out _ (ft.later (bA (bC kk (bC (bC (bC b13 kz14) b52) (bC (bA bR _) b53))) _))) fun w54 b54 => ?_
    clear oX1 oX3 oX4
    go_wp2_with fail
    go_ret
    exact ⟨rfl, (bC kk (bC (bC (bC (bC b13 kz14) b52) (bC (bA bR _) b53)) (bC (bA bR _) b54)))⟩
theorem step23_nor (f ah al bh bl d sf tf xh xl yh yl sh sl rh rl qh ql zh zl th tl vh vl : Int) (n : Bool)
    (h0 : Hid (∀ w, FTab w → Ca 14 #[.int .u8 f, U2 bh bl] w (.tuple #[.int .u8 d, .bool n])))
    (h1 : Hid (∀ w, FTab w → Ca 15 #[.int .u8 f] w (.bool true)))
    (h2 : Hid (∀ w, FTab w → Ca 16 #[.int .u8 f, U2 ah al] w (.bool true)))
    (h3 : Hid (∀ w, FTab w → Ca 17 #[.int .u8 f, U2 ah al] w (U2 xh xl)))
    (h4 : Hid (∀ w, FTab w → Ca 17 #[.int .u8 f, U2 bh bl] w (U2 yh yl)))
    (h5 : Hid (∀ w, FTab w → Ca 18 #[.int .u8 f, .agg #[.int .u8 0, .bool false], U2 xh xl, U2 yh yl] w (.agg #[.int .u64 sh, .int .u64 sl, .int .u8 sf]))) (g2 : (d != 1) = true) (g3 : (d != 2) = false)
    (HH : (((sf != 0) = true) ∧ Hid (∀ w, FTab w → Ca 11 #[] w (.bool true))) ∨ (((sf != 0) = false) ∧ (∀ w, (binOp .eql 25 (U2 th tl) (U2 yh yl)).run Tryz.prog w = .ok (.bool true) w) ∧ ((tf == 0) = true) ∧ (∀ w, (binOp .eql 25 (U2 qh ql) (U2 vh vl)).run Tryz.prog w = .ok (.bool true) w) ∧ Hid (∀ w, FTab w → Ca 12 #[.int .u8 f, U2 xh xl, U2 yh yl] w (.agg #[.int .u64 rh, .int .u64 rl, .int .u8 0])) ∧ Hid (∀ w, FTab w → Ca 12 #[.int .u8 f, U2 sh sl, U2 yh yl] w (.agg #[.int .u64 qh, .int .u64 ql, .int .u8 0])) ∧ Hid (∀ w, FTab w → Ca 17 #[.int .u8 f, U2 rh rl] w (U2 zh zl)) ∧ Hid (∀ w, FTab w → Ca 18 #[.int .u8 f, .agg #[.int .u8 0, .bool false], U2 zh zl, U2 zh zl] w (.agg #[.int .u64 th, .int .u64 tl, .int .u8 tf])) ∧ Hid (∀ w, FTab w → Ca 23 #[.int .u8 f, U2 rh rl] w (U2 vh vl)) ∧ Hid (∀ w, FTab w → Ca 11 #[] w (.bool true))) ∨ (((sf != 0) = false) ∧ (∀ w, (binOp .eql 25 (U2 th tl) (U2 yh yl)).run Tryz.prog w = .ok (.bool true) w) ∧ ((tf == 0) = false) ∧ (∀ w, (binOp .eql 30 (.agg #[.int .u64 rh, .int .u64 rl, .int .u8 0]) (.agg #[.int .u64 qh, .int .u64 ql, .int .u8 0])).run Tryz.prog w = .ok (.bool true) w) ∧ Hid (∀ w, FTab w → Ca 12 #[.int .u8 f, U2 xh xl, U2 yh yl] w (.agg #[.int .u64 rh, .int .u64 rl, .int .u8 0])) ∧ Hid (∀ w, FTab w → Ca 12 #[.int .u8 f, U2 sh sl, U2 yh yl] w (.agg #[.int .u64 qh, .int .u64 ql, .int .u8 0])) ∧ Hid (∀ w, FTab w → Ca 17 #[.int .u8 f, U2 rh rl] w (U2 zh zl)) ∧ Hid (∀ w, FTab w → Ca 18 #[.int .u8 f, .agg #[.int .u8 0, .bool false], U2 zh zl, U2 zh zl] w (.agg #[.int .u64 th, .int .u64 tl, .int .u8 tf])) ∧ Hid (∀ w, FTab w → Ca 11 #[] w (.bool true))) ∨ (((sf != 0) = false) ∧ (∀ w, (binOp .eql 25 (U2 th tl) (U2 yh yl)).run Tryz.prog w = .ok (.bool false) w) ∧ (∀ w, (binOp .eql 30 (.agg #[.int .u64 rh, .int .u64 rl, .int .u8 0]) (.agg #[.int .u64 qh, .int .u64 ql, .int .u8 0])).run Tryz.prog w = .ok (.bool true) w) ∧ Hid (∀ w, FTab w → Ca 12 #[.int .u8 f, U2 xh xl, U2 yh yl] w (.agg #[.int .u64 rh, .int .u64 rl, .int .u8 0])) ∧ Hid (∀ w, FTab w → Ca 12 #[.int .u8 f, U2 sh sl, U2 yh yl] w (.agg #[.int .u64 qh, .int .u64 ql, .int .u8 0])) ∧ Hid (∀ w, FTab w → Ca 17 #[.int .u8 f, U2 rh rl] w (U2 zh zl)) ∧ Hid (∀ w, FTab w → Ca 18 #[.int .u8 f, .agg #[.int .u8 0, .bool false], U2 zh zl, U2 zh zl] w (.agg #[.int .u64 th, .int .u64 tl, .int .u8 tf])) ∧ Hid (∀ w, FTab w → Ca 11 #[] w (.bool true)))) (w : World) (ft : FTab w) :
    Ca 7 #[.int .u8 f, U2 ah al, U2 bh bl] w (.bool true) := by
  simp only [Ca, U2] at *
  go_enter Tryz.func7, Tryz.ntmps7
  go_wp2_with fail
  refine vM (h0.out _ (ft.later (bA (bA bR _) _))) fun w1 b1 => ?_
  have gX0 : w.heap.size ≤ w.heap.size := by omega
  have gX1 : w.heap.size ≤ w.heap.size + 1 := by omega
  have X0 := ((HB.newAt (b := w.heap.size) (by simp) _ _).alloc _).later b1
  have X1 := (HB.newAt (b := w.heap.size + 1) (by simp) _ _).later b1
  go_wp2_with fail
  refine vM (h1.out _ (ft.later (bC (bA (bA bR _) _) b1))) fun w2 b2 => ?_
  replace X0 := X0.later b2
  have oX0 := X0.o
  go_wp2_with fail
  refine vM (h2.out _ (ft.later (bC (bC (bA (bA bR _) _) b1) b2))) fun w3 b3 => ?_
  clear oX0
  go_wp2_with fail
  replace X0 := X0.later b3
  replace X1 := X1.later (bC b2 b3)
  refine' (have tl4 : Hid (_ : Prop) := ?ntl4; ?mtl4)
  case' mtl4 => skip
  refine vR [w.heap.size, w.heap.size + 1] fun w4 b4 S4 => ?_
  refine vT 0 S4 ?_
  refine vT 3 S4 ?_
  replace X0 := X0.later b4
  replace X1 := X1.later b4
  have oX0 := X0.o
  have oX1 := X1.o
  refine vY2 (cV 1 S4 ?_) (cV 4 S4 ?_)
  · skip
    clear oX0 oX1
    have oX1 := X1.o
    refine vY2 (vC 2 S4 (h3.out _ (ft.later (bC (bC (bC (bC (bA (bA bR _) _) b1) b2) b3) b4))) (fun _ _ => Off.later) fun w5 b5 S5 => ?_) (cV 4 S4 ?_)
    · skip
      clear oX1
      replace X0 := X0.later b5
      replace X1 := X1.later b5
      have oX1 := X1.o
      refine vY1 (cV 4 S5 ?_)
      clear oX1
      have kz := (bC b4 b5)
      clear b4 S4 b5
      revert S5
      revert kz
      revert X1
      revert X0
      revert w5
      exact tl4.out
    · skip
      clear oX1
      refine vY1 (vC 2 S4 (h3.out _ (ft.later (bC (bC (bC (bC (bA (bA bR _) _) b1) b2) b3) b4))) (fun _ _ => Off.later) fun w6 b6 S6 => ?_)
      replace X0 := X0.later b6
      replace X1 := X1.later b6
      have kz := (bC b4 b6)
      clear b4 S4 b6
      revert S6
      revert kz
      revert X1
      revert X0
      revert w6
      exact tl4.out
  · skip
    clear oX0 oX1
    have oX0 := X0.o
    refine vY1 (cV 1 S4 ?_)
    clear oX0
    refine vY1 (vC 2 S4 (h3.out _ (ft.later (bC (bC (bC (bC (bA (bA bR _) _) b1) b2) b3) b4))) (fun _ _ => Off.later) fun w7 b7 S7 => ?_)
    replace X0 := X0.later b7
    replace X1 := X1.later b7
    have kz := (bC b4 b7)
    clear b4 S4 b7
    revert S7
    revert kz
    revert X1
    revert X0
    revert w7
    exact tl4.out
  case' ntl4 => refine lH ?_
  intro w8 X0 X1 b8 S8
  refine vY1 (vC 5 S8 (h4.out _ (ft.later (bC (bC (bC (bC (bA (bA bR _) _) b1) b2) b3) b8))) (fun _ _ => Off.later) fun w9 b9 S9 => ?_)
  refine vY1 (vO 6 fun K hK => ?_)
  replace X0 := X0.later b9
  replace X1 := X1.later b9
  have oX0 := X0.o
  go_simp
  refine hK.out _ _ (Off.set (by simp) (Off.set (by simp) S9)) fun S10 => ?_
  clear hK K
  refine vP ?_
  refine vY1 (vO 7 fun K hK => ?_)
  have oX1 := X1.o
  have mX1_X0 : ¬ (w.heap.size + 1 = w.heap.size) := by omega
  have mX0_X1 : ¬ (w.heap.size = w.heap.size + 1) := by omega
  go_simp
  refine hK.out _ _ (Off.set (by simp) (Off.set (by simp) S10)) fun S11 => ?_
  clear hK K
  refine vP ?_
  refine vD ?_
  go_wp2_with fail
  refine vM (h5.out _ (ft.later (((((bC (bC (bC (bC (bC (bA (bA bR _) _) b1) b2) b3) b8) b9).setCell (p := ⟨w.heap.size, 0, none⟩) gX0 _).setCell (p := ⟨w.heap.size, 1, none⟩) gX0 _).setCell (p := ⟨w.heap.size + 1, 0, none⟩) gX1 _).setCell (p := ⟨w.heap.size + 1, 1, none⟩) gX1 _))) fun w12 b12 => ?_
  replace X0 := ((((X0.set 0 _).set 1 _).other (by omega) 0 _).other (by omega) 1 _).later b12
  replace X1 := ((((X1.other (by omega) 0 _).other (by omega) 1 _).set 0 _).set 1 _).later b12
  have kk := bC (((((bC (bC (bC (bC (bC (bA (bA bR _) _) b1) b2) b3) b8) b9).setCell (p := ⟨w.heap.size, 0, none⟩) gX0 _).setCell (p := ⟨w.heap.size, 1, none⟩) gX0 _).setCell (p := ⟨w.heap.size + 1, 0, none⟩) gX1 _).setCell (p := ⟨w.heap.size + 1, 1, none⟩) gX1 _) b12
  rcases HH with ⟨g5, h6⟩ | ⟨g5, EB, g6, EV, h6, h7, h8, h9, h10, h11⟩ | ⟨g5, EB, g6, EV, h6, h7, h8, h9, h10⟩ | ⟨g5, EB, EV, h6, h7, h8, h9, h10⟩
  · clear oX0 oX1 mX1_X0 mX0_X1
    go_wp2_with fail
    refine vM (h6.out _ (ft.later (bA kk _))) fun w13 b13 => ?_
    go_wp2_with fail
    go_ret
    exact ⟨rfl, (bC kk (bC (bA bR _) b13))⟩
  · clear oX0 oX1 mX1_X0 mX0_X1
    go_wp2_with fail
    have nX0_X2 : w.heap.size < w12.heap.size := by have := X0.lt; omega
    have nX1_X2 : w.heap.size + 1 < w12.heap.size := by have := X1.lt; omega
    refine vF1 fun w13 b13 X2 => ?_
    replace X0 := X0.later b13
    replace X1 := X1.later b13
    refine' (have s14b_12 : Hid (_ : Prop) := ?ns14b_12; ?ms14b_12)
    case' ms14b_12 => skip
    refine' (have s14b_11 : Hid (_ : Prop) := ?ns14b_11; ?ms14b_11)
    case' ms14b_11 => skip
    refine' (have s14b_10 : Hid (_ : Prop) := ?ns14b_10; ?ms14b_10)
    case' ms14b_10 => skip
    refine' (have s14b_9 : Hid (_ : Prop) := ?ns14b_9; ?ms14b_9)
    case' ms14b_9 => skip
    refine' (have s14b_8 : Hid (_ : Prop) := ?ns14b_8; ?ms14b_8)
    case' ms14b_8 => skip
    refine' (have s14b_7 : Hid (_ : Prop) := ?ns14b_7; ?ms14b_7)
    case' ms14b_7 => skip
    refine' (have s14b_6 : Hid (_ : Prop) := ?ns14b_6; ?ms14b_6)
    case' ms14b_6 => skip
    refine' (have s14b_5 : Hid (_ : Prop) := ?ns14b_5; ?ms14b_5)
    case' ms14b_5 => skip
    refine' (have s14b_4 : Hid (_ : Prop) := ?ns14b_4; ?ms14b_4)
    case' ms14b_4 => skip
    refine' (have s14b_3 : Hid (_ : Prop) := ?ns14b_3; ?ms14b_3)
    case' ms14b_3 => skip
    refine' (have s14b_2 : Hid (_ : Prop) := ?ns14b_2; ?ms14b_2)
    case' ms14b_2 => skip
    refine' (have s14b_1 : Hid (_ : Prop) := ?ns14b_1; ?ms14b_1)
    case' ms14b_1 => skip
    refine' (have s14b_0 : Hid (_ : Prop) := ?ns14b_0; ?ms14b_0)
    case' ms14b_0 => skip
    refine vR [] fun w14 kz14 S => ?_
    refine vT 0 S ?_
    refine vT 1 S ?_ (hy := by intro wq hb; have q := (hb.hb X0 (by simp)).o; go_simp; try (with_reducible rfl))
    refine vT 2 S ?_ (hy := by intro wq hb; have q := (hb.hb X1 (by simp)).o; go_simp; try (with_reducible rfl))
    refine vT 4 S ?_
    refine vT 5 S ?_
    refine vT 6 S ?_ (hy := by intro wq hb; have q := (hb.hb X2 (by simp)).o; go_simp; try (with_reducible rfl))
    refine vT 7 S ?_ (hy := by intro wq hb; have q := (hb.hb X1 (by simp)).o; go_simp; try (with_reducible rfl))
    refine vY3 (cC 3 S (h6.out _ (ft.later (bC kk (bC b13 kz14)))) fun w15 b15 => ?_) (cA 9 S fun w16 pp13_0 h X3 b16 => ?_) (cA 10 S fun w17 pp13_1 h X4 b17 => ?_)
    replace kz14 := bC kz14 b15
    clear S b15 w14
    revert kz14; revert w15
    exact s14b_0.out
    have jX3 := (lZ kz14.size h); replace kz14 := bC kz14 b16
    clear S b16 h w14
    revert kz14; revert jX3; revert X3; revert pp13_0; revert w16
    exact s14b_1.out
    have jX4 := (lZ kz14.size h); replace kz14 := bC kz14 b17
    clear S b17 h w14
    revert kz14; revert jX4; revert X4; revert pp13_1; revert w17
    exact s14b_2.out
    case' ns14b_0 => refine lH ?_
    intro w18 kz14
    have S := Off.ofB kz14
    refine vY3 (cC 8 S (h7.out _ (ft.later (bC kk (bC b13 kz14)))) fun w19 b19 => ?_) (cA 9 S fun w20 pp13_0 h X3 b20 => ?_) (cA 10 S fun w21 pp13_1 h X4 b21 => ?_)
    replace kz14 := bC kz14 b19
    clear S b19 w18
    revert kz14; revert w19
    exact s14b_3.out
    have jX3 := (lZ kz14.size h); replace kz14 := bC kz14 b20
    clear S b20 h w18
    revert kz14; revert jX3; revert X3; revert pp13_0; revert w20
    exact s14b_4.out
    have jX4 := (lZ kz14.size h); replace kz14 := bC kz14 b21
    clear S b21 h w18
    revert kz14; revert jX4; revert X4; revert pp13_1; revert w21
    exact s14b_5.out
    case' ns14b_1 => refine lH ?_
    intro w22 pp13_0 X3 jX3 kz14
    have S := Off.ofB kz14
    refine vY2 (cC 3 S (h6.out _ (ft.later (bC kk (bC b13 kz14)))) fun w23 b23 => s14b_4.out w23 pp13_0 (X3.later b23) jX3 (bC kz14 b23)) (cA 10 S fun w24 pp13_1 h X4 b24 => ?_)
    have ndX3_X4 : ¬ (pp13_0 = pp13_1) := (Nat.ne_of_lt (lY X3.lt h)); have jX4 := (lZ kz14.size h); replace X3 := (X3.later b24); replace kz14 := bC kz14 b24
    clear S b24 h w22
    revert kz14; revert ndX3_X4; revert jX4; revert jX3; revert X4; revert X3; revert pp13_1; revert pp13_0; revert w24
    exact s14b_6.out
    case' ns14b_2 => refine lH ?_
    intro w25 pp13_1 X4 jX4 kz14
    have S := Off.ofB kz14
    refine vY2 (cC 3 S (h6.out _ (ft.later (bC kk (bC b13 kz14)))) fun w26 b26 => s14b_5.out w26 pp13_1 (X4.later b26) jX4 (bC kz14 b26)) (cA 9 S fun w27 pp13_0 h X3 b27 => s14b_6.out w27 pp13_0 pp13_1 X3 (X4.later b27) (lZ kz14.size h) jX4 (Nat.ne_of_gt (lY X4.lt h)) (bC kz14 b27))
    case' ns14b_3 => refine lH ?_
    intro w28 kz14
    have S := Off.ofB kz14
    refine vY2 (cA 9 S fun w29 pp13_0 h X3 b29 => ?_) (cA 10 S fun w30 pp13_1 h X4 b30 => ?_)
    have jX3 := (lZ kz14.size h); replace kz14 := bC kz14 b29
    clear S b29 h w28
    revert kz14; revert jX3; revert X3; revert pp13_0; revert w29
    exact s14b_7.out
    have jX4 := (lZ kz14.size h); replace kz14 := bC kz14 b30
    clear S b30 h w28
    revert kz14; revert jX4; revert X4; revert pp13_1; revert w30
    exact s14b_8.out
    case' ns14b_4 => refine lH ?_
    intro w31 pp13_0 X3 jX3 kz14
    have S := Off.ofB kz14
    refine vY2 (cC 8 S (h7.out _ (ft.later (bC kk (bC b13 kz14)))) fun w32 b32 => s14b_7.out w32 pp13_0 (X3.later b32) jX3 (bC kz14 b32)) (cA 10 S fun w33 pp13_1 h X4 b33 => ?_)
    have ndX3_X4 : ¬ (pp13_0 = pp13_1) := (Nat.ne_of_lt (lY X3.lt h)); have jX4 := (lZ kz14.size h); replace X3 := (X3.later b33); replace kz14 := bC kz14 b33
    clear S b33 h w31
    revert kz14; revert ndX3_X4; revert jX4; revert jX3; revert X4; revert X3; revert pp13_1; revert pp13_0; revert w33
    exact s14b_9.out
    case' ns14b_5 => refine lH ?_
    intro w34 pp13_1 X4 jX4 kz14
    have S := Off.ofB kz14
    refine vY2 (cC 8 S (h7.out _ (ft.later (bC kk (bC b13 kz14)))) fun w35 b35 => s14b_8.out w35 pp13_1 (X4.later b35) jX4 (bC kz14 b35)) (cA 9 S fun w36 pp13_0 h X3 b36 => s14b_9.out w36 pp13_0 pp13_1 X3 (X4.later b36) (lZ kz14.size h) jX4 (Nat.ne_of_gt (lY X4.lt h)) (bC kz14 b36))
    case' ns14b_6 => refine lH ?_
    intro w37 pp13_0 pp13_1 X3 X4 jX3 jX4 ndX3_X4 kz14
    have S := Off.ofB kz14
    refine vY1 (cC 3 S (h6.out _ (ft.later (bC kk (bC b13 kz14)))) fun w38 b38 => s14b_9.out w38 pp13_0 pp13_1 (X3.later b38) (X4.later b38) jX3 jX4 ndX3_X4 (bC kz14 b38))
    case' ns14b_7 => refine lH ?_
    intro w39 pp13_0 X3 jX3 kz14
    have S := Off.ofB kz14
    refine vY1 (cA 10 S fun w40 pp13_1 h X4 b40 => ?_)
    have ndX3_X4 : ¬ (pp13_0 = pp13_1) := (Nat.ne_of_lt (lY X3.lt h)); have jX4 := (lZ kz14.size h); replace X3 := (X3.later b40); replace kz14 := bC kz14 b40
    clear S b40 h w39
    revert kz14; revert ndX3_X4; revert jX4; revert jX3; revert X4; revert X3; revert pp13_1; revert pp13_0; revert w40
    exact s14b_10.out
    case' ns14b_8 => refine lH ?_
    intro w41 pp13_1 X4 jX4 kz14
    have S := Off.ofB kz14
    refine vY1 (cA 9 S fun w42 pp13_0 h X3 b42 => s14b_10.out w42 pp13_0 pp13_1 X3 (X4.later b42) (lZ kz14.size h) jX4 (Nat.ne_of_gt (lY X4.lt h)) (bC kz14 b42))
    case' ns14b_9 => refine lH ?_
    intro w43 pp13_0 pp13_1 X3 X4 jX3 jX4 ndX3_X4 kz14
    have S := Off.ofB kz14
    refine vY1 (cC 8 S (h7.out _ (ft.later (bC kk (bC b13 kz14)))) fun w44 b44 => s14b_10.out w44 pp13_0 pp13_1 (X3.later b44) (X4.later b44) jX3 jX4 ndX3_X4 (bC kz14 b44))
    case' ns14b_10 => refine lH ?_
    intro w45 pp13_0 pp13_1 X3 X4 jX3 jX4 ndX3_X4 kz14
    have S := Off.ofB kz14
    refine vY1 (vO 11 fun K hK => ?_)
    have q := X3.o; have mX4 : ¬ (pp13_1 = pp13_0) := (by omega)
    go_simp
    refine vW (fun W => HB W pp13_0 30 #[.int .u64 rh, .int .u64 rl, .int .u8 0] ∧ HB W pp13_1 30 #[.int .u64 0, .int .u64 0, .int .u8 0] ∧ Below w13.heap.size w13 W) ⟨(((X3.set 0 _).set 1 _).set 2 _), (((X4.other mX4 0 _).other mX4 1 _).other mX4 2 _), (((kz14.setCell (p := ⟨pp13_0, 0, none⟩) jX3 _).setCell (p := ⟨pp13_0, 1, none⟩) jX3 _).setCell (p := ⟨pp13_0, 2, none⟩) jX3 _)⟩ fun w47 hz => ?_
    clear q mX4 X3 X4 S kz14 w45; obtain ⟨X3, X4, kz14⟩ := hz
    refine hK.out _ _ (Off.ofB kz14) fun S => ?_; clear hK K S; refine vP ?_
    revert kz14; revert ndX3_X4; revert jX4; revert jX3; revert X4; revert X3; revert pp13_1; revert pp13_0; revert w47
    exact s14b_11.out
    case' ns14b_11 => refine lH ?_
    intro w48 pp13_0 pp13_1 X3 X4 jX3 jX4 ndX3_X4 kz14
    have S := Off.ofB kz14
    refine vY1 (vO 12 fun K hK => ?_)
    have q := X4.o; have mX3 : ¬ (pp13_0 = pp13_1) := (by omega)
    go_simp
    refine vW (fun W => HB W pp13_0 30 #[.int .u64 rh, .int .u64 rl, .int .u8 0] ∧ HB W pp13_1 30 #[.int .u64 qh, .int .u64 ql, .int .u8 0] ∧ Below w13.heap.size w13 W) ⟨(((X3.other mX3 0 _).other mX3 1 _).other mX3 2 _), (((X4.set 0 _).set 1 _).set 2 _), (((kz14.setCell (p := ⟨pp13_1, 0, none⟩) jX4 _).setCell (p := ⟨pp13_1, 1, none⟩) jX4 _).setCell (p := ⟨pp13_1, 2, none⟩) jX4 _)⟩ fun w50 hz => ?_
    clear q mX3 X3 X4 S kz14 w48; obtain ⟨X3, X4, kz14⟩ := hz
    refine hK.out _ _ (Off.ofB kz14) fun S => ?_; clear hK K S; refine vP ?_
    revert kz14; revert ndX3_X4; revert jX4; revert jX3; revert X4; revert X3; revert pp13_1; revert pp13_0; revert w50
    exact s14b_12.out
    case' ns14b_12 => refine lH ?_
    intro w51 pp13_0 pp13_1 X3 X4 jX3 jX4 ndX3_X4 kz14
    refine vD ?_
    have nX1_X3 : w.heap.size + 1 < pp13_0 := by have := X1.lt; omega
    have nX1_X4 : w.heap.size + 1 < pp13_1 := by have := X1.lt; omega
    have gX3 : w.heap.size ≤ pp13_0 := by have := (bC kk b13).size; omega
    have gX4 : w.heap.size ≤ pp13_1 := by have := (bC kk b13).size; omega
    have oX3 := X3.o
    go_wp2_with fail
    refine vM (h8.out _ (ft.later (bC kk (bC b13 kz14)))) fun w52 b52 => ?_
    clear oX3
    go_wp2_with fail
    refine vM (h9.out _ (ft.later (bA (bC kk (bC (bC b13 kz14) b52)) _))) fun w53 b53 => ?_
    replace X1 := X1.later (bC (bC kz14 b52) (bC (bA bR _) b53))
    have oX1 := X1.o
    go_wp2_with fail
    refine vF1 fun w54 b54 _ => ?_
    clear oX1
    replace X3 := X3.later (bC (bC b52 (bC (bA bR _) b53)) b54)
    replace X4 := X4.later (bC (bC b52 (bC (bA bR _) b53)) b54)
    refine vR [] fun w55 b55 S55 => ?_
    refine vT 0 S55 ?_
    refine vT 1 S55 ?_ (hy := by intro wq hb; have q := (hb.hb X4 (by simp)).o; go_simp; try (with_reducible rfl))
    refine vT 2 S55 ?_
    refine vT 3 S55 ?_
    refine vT 4 S55 ?_ (hy := by intro wq hb; have q := (hb.hb X3 (by simp)).o; go_simp; try (with_reducible rfl))
    refine vY1 (vC 5 S55 (h10.out _ (ft.later (bC kk (bC (bC (bC (bC (bC b13 kz14) b52) (bC (bA bR _) b53)) b54) b55)))) (fun _ _ => Off.later) fun w56 b56 S56 => ?_)
    refine vT 6 S56 ?_
    refine vT 7 S56 ?_
    refine vY1 (vC 8 S56 (h11.out _ (ft.later (bC kk (bC (bC (bC (bC (bC (bC b13 kz14) b52) (bC (bA bR _) b53)) b54) b55) b56)))) (fun _ _ => Off.later) fun w57 b57 S57 => ?_)
    refine vT 9 S57 ?_
    refine vT 10 S57 ?_
    refine vD ?_
    go_wp2_with fail
    go_ret
    exact ⟨rfl, (bC kk (bC (bC (bC (bC (bC (bC (bC b13 kz14) b52) (bC (bA bR _) b53)) b54) b55) b56) b57))⟩
  · clear oX0 oX1 mX1_X0 mX0_X1
    go_wp2_with fail
    have nX0_X2 : w.heap.size < w12.heap.size := by have := X0.lt; omega
    have nX1_X2 : w.heap.size + 1 < w12.heap.size := by have := X1.lt; omega
    refine vF1 fun w13 b13 X2 => ?_
    replace X0 := X0.later b13
    replace X1 := X1.later b13
    refine' (have s14c_12 : Hid (_ : Prop) := ?ns14c_12; ?ms14c_12)
    case' ms14c_12 => skip
    refine' (have s14c_11 : Hid (_ : Prop) := ?ns14c_11; ?ms14c_11)
    case' ms14c_11 => skip
    refine' (have s14c_10 : Hid (_ : Prop) := ?ns14c_10; ?ms14c_10)
    case' ms14c_10 => skip
    refine' (have s14c_9 : Hid (_ : Prop) := ?ns14c_9; ?ms14c_9)
    case' ms14c_9 => skip
    refine' (have s14c_8 : Hid (_ : Prop) := ?ns14c_8; ?ms14c_8)
    case' ms14c_8 => skip
    refine' (have s14c_7 : Hid (_ : Prop) := ?ns14c_7; ?ms14c_7)
    case' ms14c_7 => skip
    refine' (have s14c_6 : Hid (_ : Prop) := ?ns14c_6; ?ms14c_6)
    case' ms14c_6 => skip
    refine' (have s14c_5 : Hid (_ : Prop) := ?ns14c_5; ?ms14c_5)
    case' ms14c_5 => skip
    refine' (have s14c_4 : Hid (_ : Prop) := ?ns14c_4; ?ms14c_4)
    case' ms14c_4 => skip
    refine' (have s14c_3 : Hid (_ : Prop) := ?ns14c_3; ?ms14c_3)
    case' ms14c_3 => skip
    refine' (have s14c_2 : Hid (_ : Prop) := ?ns14c_2; ?ms14c_2)
    case' ms14c_2 => skip
    refine' (have s14c_1 : Hid (_ : Prop) := ?ns14c_1; ?ms14c_1)
    case' ms14c_1 => skip
    refine' (have s14c_0 : Hid (_ : Prop) := ?ns14c_0; ?ms14c_0)
    case' ms14c_0 => skip
    refine vR [] fun w14 kz14 S => ?_
    refine vT 0 S ?_
    refine vT 1 S ?_ (hy := by intro wq hb; have q := (hb.hb X0 (by simp)).o; go_simp; try (with_reducible rfl))
    refine vT 2 S ?_ (hy := by intro wq hb; have q := (hb.hb X1 (by simp)).o; go_simp; try (with_reducible rfl))
    refine vT 4 S ?_
    refine vT 5 S ?_
    refine vT 6 S ?_ (hy := by intro wq hb; have q := (hb.hb X2 (by simp)).o; go_simp; try (with_reducible rfl))
    refine vT 7 S ?_ (hy := by intro wq hb; have q := (hb.hb X1 (by simp)).o; go_simp; try (with_reducible rfl))
    refine vY3 (cC 3 S (h6.out _ (ft.later (bC kk (bC b13 kz14)))) fun w15 b15 => ?_) (cA 9 S fun w16 pp13_0 h X3 b16 => ?_) (cA 10 S fun w17 pp13_1 h X4 b17 => ?_)
    replace kz14 := bC kz14 b15
    clear S b15 w14
    revert kz14; revert w15
    exact s14c_0.out
    have jX3 := (lZ kz14.size h); replace kz14 := bC kz14 b16
    clear S b16 h w14
    revert kz14; revert jX3; revert X3; revert pp13_0; revert w16
    exact s14c_1.out
    have jX4 := (lZ kz14.size h); replace kz14 := bC kz14 b17
    clear S b17 h w14
    revert kz14; revert jX4; revert X4; revert pp13_1; revert w17
    exact s14c_2.out
    case' ns14c_0 => refine lH ?_
    intro w18 kz14
    have S := Off.ofB kz14
    refine vY3 (cC 8 S (h7.out _ (ft.later (bC kk (bC b13 kz14)))) fun w19 b19 => ?_) (cA 9 S fun w20 pp13_0 h X3 b20 => ?_) (cA 10 S fun w21 pp13_1 h X4 b21 => ?_)
    replace kz14 := bC kz14 b19
    clear S b19 w18
    revert kz14; revert w19
    exact s14c_3.out
    have jX3 := (lZ kz14.size h); replace kz14 := bC kz14 b20
    clear S b20 h w18
    revert kz14; revert jX3; revert X3; revert pp13_0; revert w20
    exact s14c_4.out
    have jX4 := (lZ kz14.size h); replace kz14 := bC kz14 b21
    clear S b21 h w18
    revert kz14; revert jX4; revert X4; revert pp13_1; revert w21
    exact s14c_5.out
    case' ns14c_1 => refine lH ?_
    intro w22 pp13_0 X3 jX3 kz14
    have S := Off.ofB kz14
    refine vY2 (cC 3 S (h6.out _ (ft.later (bC kk (bC b13 kz14)))) fun w23 b23 => s14c_4.out w23 pp13_0 (X3.later b23) jX3 (bC kz14 b23)) (cA 10 S fun w24 pp13_1 h X4 b24 => ?_)
    have ndX3_X4 : ¬ (pp13_0 = pp13_1) := (Nat.ne_of_lt (lY X3.lt h)); have jX4 := (lZ kz14.size h); replace X3 := (X3.later b24); replace kz14 := bC kz14 b24
    clear S b24 h w22
    revert kz14; revert ndX3_X4; revert jX4; revert jX3; revert X4; revert X3; revert pp13_1; revert pp13_0; revert w24
    exact s14c_6.out
    case' ns14c_2 => refine lH ?_
    intro w25 pp13_1 X4 jX4 kz14
    have S := Off.ofB kz14
    refine vY2 (cC 3 S (h6.out _ (ft.later (bC kk (bC b13 kz14)))) fun w26 b26 => s14c_5.out w26 pp13_1 (X4.later b26) jX4 (bC kz14 b26)) (cA 9 S fun w27 pp13_0 h X3 b27 => s14c_6.out w27 pp13_0 pp13_1 X3 (X4.later b27) (lZ kz14.size h) jX4 (Nat.ne_of_gt (lY X4.lt h)) (bC kz14 b27))
    case' ns14c_3 => refine lH ?_
    intro w28 kz14
    have S := Off.ofB kz14
    refine vY2 (cA 9 S fun w29 pp13_0 h X3 b29 => ?_) (cA 10 S fun w30 pp13_1 h X4 b30 => ?_)
    have jX3 := (lZ kz14.size h); replace kz14 := bC kz14 b29
    clear S b29 h w28
    revert kz14; revert jX3; revert X3; revert pp13_0; revert w29
    exact s14c_7.out
    have jX4 := (lZ kz14.size h); replace kz14 := bC kz14 b30
    clear S b30 h w28
    revert kz14; revert jX4; revert X4; revert pp13_1; revert w30
    exact s14c_8.out
    case' ns14c_4 => refine lH ?_
    intro w31 pp13_0 X3 jX3 kz14
    have S := Off.ofB kz14
    refine vY2 (cC 8 S (h7.out _ (ft.later (bC kk (bC b13 kz14)))) fun w32 b32 => s14c_7.out w32 pp13_0 (X3.later b32) jX3 (bC kz14 b32)) (cA 10 S fun w33 pp13_1 h X4 b33 => ?_)
    have ndX3_X4 : ¬ (pp13_0 = pp13_1) := (Nat.ne_of_lt (lY X3.lt h)); have jX4 := (lZ kz14.size h); replace X3 := (X3.later b33); replace kz14 := bC kz14 b33
    clear S b33 h w31
    revert kz14; revert ndX3_X4; revert jX4; revert jX3; revert X4; revert X3; revert pp13_1; revert pp13_0; revert w33
    exact s14c_9.out
    case' ns14c_5 => refine lH ?_
    intro w34 pp13_1 X4 jX4 kz14
    have S := Off.ofB kz14
    refine vY2 (cC 8 S (h7.out _ (ft.later (bC kk (bC b13 kz14)))) fun w35 b35 => s14c_8.out w35 pp13_1 (X4.later b35) jX4 (bC kz14 b35)) (cA 9 S fun w36 pp13_0 h X3 b36 => s14c_9.out w36 pp13_0 pp13_1 X3 (X4.later b36) (lZ kz14.size h) jX4 (Nat.ne_of_gt (lY X4.lt h)) (bC kz14 b36))
    case' ns14c_6 => refine lH ?_
    intro w37 pp13_0 pp13_1 X3 X4 jX3 jX4 ndX3_X4 kz14
    have S := Off.ofB kz14
    refine vY1 (cC 3 S (h6.out _ (ft.later (bC kk (bC b13 kz14)))) fun w38 b38 => s14c_9.out w38 pp13_0 pp13_1 (X3.later b38) (X4.later b38) jX3 jX4 ndX3_X4 (bC kz14 b38))
    case' ns14c_7 => refine lH ?_
    intro w39 pp13_0 X3 jX3 kz14
    have S := Off.ofB kz14
    refine vY1 (cA 10 S fun w40 pp13_1 h X4 b40 => ?_)
    have ndX3_X4 : ¬ (pp13_0 = pp13_1) := (Nat.ne_of_lt (lY X3.lt h)); have jX4 := (lZ kz14.size h); replace X3 := (X3.later b40); replace kz14 := bC kz14 b40
    clear S b40 h w39
    revert kz14; revert ndX3_X4; revert jX4; revert jX3; revert X4; revert X3; revert pp13_1; revert pp13_0; revert w40
    exact s14c_10.out
    case' ns14c_8 => refine lH ?_
    intro w41 pp13_1 X4 jX4 kz14
    have S := Off.ofB kz14
    refine vY1 (cA 9 S fun w42 pp13_0 h X3 b42 => s14c_10.out w42 pp13_0 pp13_1 X3 (X4.later b42) (lZ kz14.size h) jX4 (Nat.ne_of_gt (lY X4.lt h)) (bC kz14 b42))
    case' ns14c_9 => refine lH ?_
    intro w43 pp13_0 pp13_1 X3 X4 jX3 jX4 ndX3_X4 kz14
    have S := Off.ofB kz14
    refine vY1 (cC 8 S (h7.out _ (ft.later (bC kk (bC b13 kz14)))) fun w44 b44 => s14c_10.out w44 pp13_0 pp13_1 (X3.later b44) (X4.later b44) jX3 jX4 ndX3_X4 (bC kz14 b44))
    case' ns14c_10 => refine lH ?_
    intro w45 pp13_0 pp13_1 X3 X4 jX3 jX4 ndX3_X4 kz14
    have S := Off.ofB kz14
    refine vY1 (vO 11 fun K hK => ?_)
    have q := X3.o; have mX4 : ¬ (pp13_1 = pp13_0) := (by omega)
    go_simp
    refine vW (fun W => HB W pp13_0 30 #[.int .u64 rh, .int .u64 rl, .int .u8 0] ∧ HB W pp13_1 30 #[.int .u64 0, .int .u64 0, .int .u8 0] ∧ Below w13.heap.size w13 W) ⟨(((X3.set 0 _).set 1 _).set 2 _), (((X4.other mX4 0 _).other mX4 1 _).other mX4 2 _), (((kz14.setCell (p := ⟨pp13_0, 0, none⟩) jX3 _).setCell (p := ⟨pp13_0, 1, none⟩) jX3 _).setCell (p := ⟨pp13_0, 2, none⟩) jX3 _)⟩ fun w47 hz => ?_
    clear q mX4 X3 X4 S kz14 w45; obtain ⟨X3, X4, kz14⟩ := hz
    refine hK.out _ _ (Off.ofB kz14) fun S => ?_; clear hK K S; refine vP ?_
    revert kz14; revert ndX3_X4; revert jX4; revert jX3; revert X4; revert X3; revert pp13_1; revert pp13_0; revert w47
    exact s14c_11.out
    case' ns14c_11 => refine lH ?_
    intro w48 pp13_0 pp13_1 X3 X4 jX3 jX4 ndX3_X4 kz14
    have S := Off.ofB kz14
    refine vY1 (vO 12 fun K hK => ?_)
    have q := X4.o; have mX3 : ¬ (pp13_0 = pp13_1) := (by omega)
    go_simp
    refine vW (fun W => HB W pp13_0 30 #[.int .u64 rh, .int .u64 rl, .int .u8 0] ∧ HB W pp13_1 30 #[.int .u64 qh, .int .u64 ql, .int .u8 0] ∧ Below w13.heap.size w13 W) ⟨(((X3.other mX3 0 _).other mX3 1 _).other mX3 2 _), (((X4.set 0 _).set 1 _).set 2 _), (((kz14.setCell (p := ⟨pp13_1, 0, none⟩) jX4 _).setCell (p := ⟨pp13_1, 1, none⟩) jX4 _).setCell (p := ⟨pp13_1, 2, none⟩) jX4 _)⟩ fun w50 hz => ?_
    clear q mX3 X3 X4 S kz14 w48; obtain ⟨X3, X4, kz14⟩ := hz
    refine hK.out _ _ (Off.ofB kz14) fun S => ?_; clear hK K S; refine vP ?_
    revert kz14; revert ndX3_X4; revert jX4; revert jX3; revert X4; revert X3; revert pp13_1; revert pp13_0; revert w50
    exact s14c_12.out
    case' ns14c_12 => refine lH ?_
    intro w51 pp13_0 pp13_1 X3 X4 jX3 jX4 ndX3_X4 kz14
    refine vD ?_
    have nX1_X3 : w.heap.size + 1 < pp13_0 := by have := X1.lt; omega
    have nX1_X4 : w.heap.size + 1 < pp13_1 := by have := X1.lt; omega
    have gX3 : w.heap.size ≤ pp13_0 := by have := (bC kk b13).size; omega
    have gX4 : w.heap.size ≤ pp13_1 := by have := (bC kk b13).size; omega
    have oX3 := X3.o
    go_wp2_with fail
    refine vM (h8.out _ (ft.later (bC kk (bC b13 kz14)))) fun w52 b52 => ?_
    clear oX3
    go_wp2_with fail
    refine vM (h9.out _ (ft.later (bA (bC kk (bC (bC b13 kz14) b52)) _))) fun w53 b53 => ?_
    replace X1 := X1.later (bC (bC kz14 b52) (bC (bA bR _) b53))
    have oX1 := X1.o
    replace X3 := X3.later (bC b52 (bC (bA bR _) b53))
    have oX3 := X3.o
    replace X4 := X4.later (bC b52 (bC (bA bR _) b53))
    have oX4 := X4.o
    go_wp2_with fail
    refine vM (h10.out _ (ft.later (bA (bC kk (bC (bC (bC b13 kz14) b52) (bC (bA bR _) b53))) _))) fun w54 b54 => ?_
    clear oX1 oX3 oX4
    go_wp2_with fail
    go_ret
    exact ⟨rfl, (bC kk (bC (bC (bC (bC b13 kz14) b52) (bC (bA bR _) b53)) (bC (bA bR _) b54)))⟩
  · clear oX0 oX1 mX1_X0 mX0_X1
    go_wp2_with fail
    have nX0_X2 : w.heap.size < w12.heap.size := by have := X0.lt; omega
    have nX1_X2 : w.heap.size + 1 < w12.heap.size := by have := X1.lt; omega
    refine vF1 fun w13 b13 X2 => ?_
    replace X0 := X0.later b13
    replace X1 := X1.later b13
    refine' (have s14d_12 : Hid (_ : Prop) := ?ns14d_12; ?ms14d_12)
    case' ms14d_12 => skip
    refine' (have s14d_11 : Hid (_ : Prop) := ?ns14d_11; ?ms14d_11)
    case' ms14d_11 => skip
    refine' (have s14d_10 : Hid (_ : Prop) := ?ns14d_10; ?ms14d_10)
    case' ms14d_10 => skip
    refine' (have s14d_9 : Hid (_ : Prop) := ?ns14d_9; ?ms14d_9)
    case' ms14d_9 => skip
    refine' (have s14d_8 : Hid (_ : Prop) := ?ns14d_8; ?ms14d_8)
    case' ms14d_8 => skip
    refine' (have s14d_7 : Hid (_ : Prop) := ?ns14d_7; ?ms14d_7)
    case' ms14d_7 => skip
    refine' (have s14d_6 : Hid (_ : Prop) := ?ns14d_6; ?ms14d_6)
    case' ms14d_6 => skip
    refine' (have s14d_5 : Hid (_ : Prop) := ?ns14d_5; ?ms14d_5)
    case' ms14d_5 => skip
    refine' (have s14d_4 : Hid (_ : Prop) := ?ns14d_4; ?ms14d_4)
    case' ms14d_4 => skip
    refine' (have s14d_3 : Hid (_ : Prop) := ?ns14d_3; ?ms14d_3)
    case' ms14d_3 => skip
    refine' (have s14d_2 : Hid (_ : Prop) := ?ns14d_2; ?ms14d_2)
    case' ms14d_2 => skip
    refine' (have s14d_1 : Hid (_ : Prop) := ?ns14d_1; ?ms14d_1)
    case' ms14d_1 => skip
    refine' (have s14d_0 : Hid (_ : Prop) := ?ns14d_0; ?ms14d_0)
    case' ms14d_0 => skip
    refine vR [] fun w14 kz14 S => ?_
    refine vT 0 S ?_
    refine vT 1 S ?_ (hy := by intro wq hb; have q := (hb.hb X0 (by simp)).o; go_simp; try (with_reducible rfl))
    refine vT 2 S ?_ (hy := by intro wq hb; have q := (hb.hb X1 (by simp)).o; go_simp; try (with_reducible rfl))
    refine vT 4 S ?_
    refine vT 5 S ?_
    refine vT 6 S ?_ (hy := by intro wq hb; have q := (hb.hb X2 (by simp)).o; go_simp; try (with_reducible rfl))
    refine vT 7 S ?_ (hy := by intro wq hb; have q := (hb.hb X1 (by simp)).o; go_simp; try (with_reducible rfl))
    refine vY3 (cC 3 S (h6.out _ (ft.later (bC kk (bC b13 kz14)))) fun w15 b15 => ?_) (cA 9 S fun w16 pp13_0 h X3 b16 => ?_) (cA 10 S fun w17 pp13_1 h X4 b17 => ?_)
    replace kz14 := bC kz14 b15
    clear S b15 w14
    revert kz14; revert w15
    exact s14d_0.out
    have jX3 := (lZ kz14.size h); replace kz14 := bC kz14 b16
    clear S b16 h w14
    revert kz14; revert jX3; revert X3; revert pp13_0; revert w16
    exact s14d_1.out
    have jX4 := (lZ kz14.size h); replace kz14 := bC kz14 b17
    clear S b17 h w14
    revert kz14; revert jX4; revert X4; revert pp13_1; revert w17
    exact s14d_2.out
    case' ns14d_0 => refine lH ?_
    intro w18 kz14
    have S := Off.ofB kz14
    refine vY3 (cC 8 S (h7.out _ (ft.later (bC kk (bC b13 kz14)))) fun w19 b19 => ?_) (cA 9 S fun w20 pp13_0 h X3 b20 => ?_) (cA 10 S fun w21 pp13_1 h X4 b21 => ?_)
    replace kz14 := bC kz14 b19
    clear S b19 w18
    revert kz14; revert w19
    exact s14d_3.out
    have jX3 := (lZ kz14.size h); replace kz14 := bC kz14 b20
    clear S b20 h w18
    revert kz14; revert jX3; revert X3; revert pp13_0; revert w20
    exact s14d_4.out
    have jX4 := (lZ kz14.size h); replace kz14 := bC kz14 b21
    clear S b21 h w18
    revert kz14; revert jX4; revert X4; revert pp13_1; revert w21
    exact s14d_5.out
    case' ns14d_1 => refine lH ?_
    intro w22 pp13_0 X3 jX3 kz14
    have S := Off.ofB kz14
    refine vY2 (cC 3 S (h6.out _ (ft.later (bC kk (bC b13 kz14)))) fun w23 b23 => s14d_4.out w23 pp13_0 (X3.later b23) jX3 (bC kz14 b23)) (cA 10 S fun w24 pp13_1 h X4 b24 => ?_)
    have ndX3_X4 : ¬ (pp13_0 = pp13_1) := (Nat.ne_of_lt (lY X3.lt h)); have jX4 := (lZ kz14.size h); replace X3 := (X3.later b24); replace kz14 := bC kz14 b24
    clear S b24 h w22
    revert kz14; revert ndX3_X4; revert jX4; revert jX3; revert X4; revert X3; revert pp13_1; revert pp13_0; revert w24
    exact s14d_6.out
    case' ns14d_2 => refine lH ?_
    intro w25 pp13_1 X4 jX4 kz14
    have S := Off.ofB kz14
    refine vY2 (cC 3 S (h6.out _ (ft.later (bC kk (bC b13 kz14)))) fun w26 b26 => s14d_5.out w26 pp13_1 (X4.later b26) jX4 (bC kz14 b26)) (cA 9 S fun w27 pp13_0 h X3 b27 => s14d_6.out w27 pp13_0 pp13_1 X3 (X4.later b27) (lZ kz14.size h) jX4 (Nat.ne_of_gt (lY X4.lt h)) (bC kz14 b27))
    case' ns14d_3 => refine lH ?_
    intro w28 kz14
    have S := Off.ofB kz14
    refine vY2 (cA 9 S fun w29 pp13_0 h X3 b29 => ?_) (cA 10 S fun w30 pp13_1 h X4 b30 => ?_)
    have jX3 := (lZ kz14.size h); replace kz14 := bC kz14 b29
    clear S b29 h w28
    revert kz14; revert jX3; revert X3; revert pp13_0; revert w29
    exact s14d_7.out
    have jX4 := (lZ kz14.size h); replace kz14 := bC kz14 b30
    clear S b30 h w28
    revert kz14; revert jX4; revert X4; revert pp13_1; revert w30
    exact s14d_8.out
    case' ns14d_4 => refine lH ?_
    intro w31 pp13_0 X3 jX3 kz14
    have S := Off.ofB kz14
    refine vY2 (cC 8 S (h7.out _ (ft.later (bC kk (bC b13 kz14)))) fun w32 b32 => s14d_7.out w32 pp13_0 (X3.later b32) jX3 (bC kz14 b32)) (cA 10 S fun w33 pp13_1 h X4 b33 => ?_)
    have ndX3_X4 : ¬ (pp13_0 = pp13_1) := (Nat.ne_of_lt (lY X3.lt h)); have jX4 := (lZ kz14.size h); replace X3 := (X3.later b33); replace kz14 := bC kz14 b33
    clear S b33 h w31
    revert kz14; revert ndX3_X4; revert jX4; revert jX3; revert X4; revert X3; revert pp13_1; revert pp13_0; revert w33
    exact s14d_9.out
    case' ns14d_5 => refine lH ?_
    intro w34 pp13_1 X4 jX4 kz14
    have S := Off.ofB kz14
    refine vY2 (cC 8 S (h7.out _ (ft.later (bC kk (bC b13 kz14)))) fun w35 b35 => s14d_8.out w35 pp13_1 (X4.later b35) jX4 (bC kz14 b35)) (cA 9 S fun w36 pp13_0 h X3 b36 => s14d_9.out w36 pp13_0 pp13_1 X3 (X4.later b36) (lZ kz14.size h) jX4 (Nat.ne_of_gt (lY X4.lt h)) (bC kz14 b36))
    case' ns14d_6 => refine lH ?_
    intro w37 pp13_0 pp13_1 X3 X4 jX3 jX4 ndX3_X4 kz14
    have S := Off.ofB kz14
    refine vY1 (cC 3 S (h6.out _ (ft.later (bC kk (bC b13 kz14)))) fun w38 b38 => s14d_9.out w38 pp13_0 pp13_1 (X3.later b38) (X4.later b38) jX3 jX4 ndX3_X4 (bC kz14 b38))
    case' ns14d_7 => refine lH ?_
    intro w39 pp13_0 X3 jX3 kz14
    have S := Off.ofB kz14
    refine vY1 (cA 10 S fun w40 pp13_1 h X4 b40 => ?_)
    have ndX3_X4 : ¬ (pp13_0 = pp13_1) := (Nat.ne_of_lt (lY X3.lt h)); have jX4 := (lZ kz14.size h); replace X3 := (X3.later b40); replace kz14 := bC kz14 b40
    clear S b40 h w39
    revert kz14; revert ndX3_X4; revert jX4; revert jX3; revert X4; revert X3; revert pp13_1; revert pp13_0; revert w40
    exact s14d_10.out
    case' ns14d_8 => refine lH ?_
    intro w41 pp13_1 X4 jX4 kz14
    have S := Off.ofB kz14
    refine vY1 (cA 9 S fun w42 pp13_0 h X3 b42 => s14d_10.out w42 pp13_0 pp13_1 X3 (X4.later b42) (lZ kz14.size h) jX4 (Nat.ne_of_gt (lY X4.lt h)) (bC kz14 b42))
    case' ns14d_9 => refine lH ?_
    intro w43 pp13_0 pp13_1 X3 X4 jX3 jX4 ndX3_X4 kz14
    have S := Off.ofB kz14
    refine vY1 (cC 8 S (h7.out _ (ft.later (bC kk (bC b13 kz14)))) fun w44 b44 => s14d_10.out w44 pp13_0 pp13_1 (X3.later b44) (X4.later b44) jX3 jX4 ndX3_X4 (bC kz14 b44))
    case' ns14d_10 => refine lH ?_
    intro w45 pp13_0 pp13_1 X3 X4 jX3 jX4 ndX3_X4 kz14
    have S := Off.ofB kz14
    refine vY1 (vO 11 fun K hK => ?_)
    have q := X3.o; have mX4 : ¬ (pp13_1 = pp13_0) := (by omega)
    go_simp
    refine vW (fun W => HB W pp13_0 30 #[.int .u64 rh, .int .u64 rl, .int .u8 0] ∧ HB W pp13_1 30 #[.int .u64 0, .int .u64 0, .int .u8 0] ∧ Below w13.heap.size w13 W) ⟨(((X3.set 0 _).set 1 _).set 2 _), (((X4.other mX4 0 _).other mX4 1 _).other mX4 2 _), (((kz14.setCell (p := ⟨pp13_0, 0, none⟩) jX3 _).setCell (p := ⟨pp13_0, 1, none⟩) jX3 _).setCell (p := ⟨pp13_0, 2, none⟩) jX3 _)⟩ fun w47 hz => ?_
    clear q mX4 X3 X4 S kz14 w45; obtain ⟨X3, X4, kz14⟩ := hz
    refine hK.out _ _ (Off.ofB kz14) fun S => ?_; clear hK K S; refine vP ?_
    revert kz14; revert ndX3_X4; revert jX4; revert jX3; revert X4; revert X3; revert pp13_1; revert pp13_0; revert w47
    exact s14d_11.out
    case' ns14d_11 => refine lH ?_
    intro w48 pp13_0 pp13_1 X3 X4 jX3 jX4 ndX3_X4 kz14
    have S := Off.ofB kz14
    refine vY1 (vO 12 fun K hK => ?_)
    have q := X4.o; have mX3 : ¬ (pp13_0 = pp13_1) := (by omega)
    go_simp
    refine vW (fun W => HB W pp13_0 30 #[.int .u64 rh, .int .u64 rl, .int .u8 0] ∧ HB W pp13_1 30 #[.int .u64 qh, .int .u64 ql, .int .u8 0] ∧ Below w13.heap.size w13 W) ⟨(((X3.other mX3 0 _).other mX3 1 _).other mX3 2 _), (((X4.set 0 _).set 1 _).set 2 _), (((kz14.setCell (p := ⟨pp13_1, 0, none⟩) jX4 _).setCell (p := ⟨pp13_1, 1, none⟩) jX4 _).setCell (p := ⟨pp13_1, 2, none⟩) jX4 _)⟩ fun w50 hz => ?_
    clear q mX3 X3 X4 S kz14 w48; obtain ⟨X3, X4, kz14⟩ := hz
    refine hK.out _ _ (Off.ofB kz14) fun S => ?_; clear hK K S; refine vP ?_
    revert kz14; revert ndX3_X4; revert jX4; revert jX3; revert X4; revert X3; revert pp13_1; revert pp13_0; revert w50
    exact s14d_12.out
    case' ns14d_12 => refine lH ?_
    intro w51 pp13_0 pp13_1 X3 X4 jX3 jX4 ndX3_X4 kz14
    refine vD ?_
    have nX1_X3 : w.heap.size + 1 < pp13_0 := by have := X1.lt; omega
    have nX1_X4 : w.heap.size + 1 < pp13_1 := by have := X1.lt; omega
    have gX3 : w.heap.size ≤ pp13_0 := by have := (bC kk b13).size; omega
    have gX4 : w.heap.size ≤ pp13_1 := by have := (bC kk b13).size; omega
    have oX3 := X3.o
    go_wp2_with fail
    refine vM (h8.out _ (ft.later (bC kk (bC b13 kz14)))) fun w52 b52 => ?_
    clear oX3
    go_wp2_with fail
    refine vM (h9.out _ (ft.later (bA (bC kk (bC (bC b13 kz14) b52)) _))) fun w53 b53 => ?_
    replace X1 := X1.later (bC (bC kz14 b52) (bC (bA bR _) b53))
    have oX1 := X1.o
    replace X3 := X3.later (bC b52 (bC (bA bR _) b53))
    have oX3 := X3.o
    replace X4 := X4.later (bC b52 (bC (bA bR _) b53))
    have oX4 := X4.o
    go_wp2_with fail
    refine vM (h10.out _ (ft.later (bA (bC kk (bC (bC (bC b13 kz14) b52) (bC (bA bR _) b53))) _))) fun w54 b54 => ?_
    clear oX1 oX3 oX4
    go_wp2_with fail
    go_ret
    exact ⟨rfl, (bC kk (bC (bC (bC (bC b13 kz14) b52) (bC (bA bR _) b53)) (bC (bA bR _) b54)))⟩
end Go.Proofs.YtjdjonekoodalaaGreatDoor
