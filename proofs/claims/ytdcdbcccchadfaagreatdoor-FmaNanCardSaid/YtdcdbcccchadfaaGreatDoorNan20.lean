import Derived.Test.YtdcdbcccchadfaaGreatDoorGwA
import Derived.Test.YtdcdbcccchadfaaGreatDoorGaB
import Derived.Test.YtdcdbcccchadfaaGreatDoorGfA
import Derived.Test.YtdcdbcccchadfaaGreatDoorGhA
import Derived.Test.YtdcdbcccchadfaaGreatDoorGaA
import Derived.Test.YtdcdbcccchadfaaGreatDoorGuA
import Derived.Test.YtdcdbcccchadfaaGreatDoorRest0
set_option maxHeartbeats 4000000
set_option linter.unusedVariables false
set_option linter.unusedSimpArgs false
set_option maxRecDepth 100000
namespace Go.Proofs.YtdcdbcccchadfaaGreatDoor
open Go.RowKit
attribute [local go_sem ↓] Go.wp_at_zero Go.wp_at_succ
theorem nan20_no1 (f m ch cl : Int) (t ng sw : Bool)
    (h0 : Hid (∀ w, FTab w → Ca 13 #[.int .u8 f] w (.bool false)))
    (h2 : Hid (∀ w, FTab w → Ca 12 #[] w (.bool true))) (w : World) (ft : FTab w) :
    Ca 8 #[.int .u8 f, .agg #[.int .u8 m, .bool t], U2 ch cl, .bool ng, .bool sw] w (.bool true) := by
  simp only [Ca, U2] at *
  go_enter Tryz.func8, Tryz.ntmps8
  go_wp2_with fail
  refine vM (h0.out _ (ft.later (bA (bA bR _) _))) fun w1 b1 => ?_
  go_wp2_with fail
  refine vM (h2.out _ (ft.later (bC (bA (bA bR _) _) b1))) fun w2 b2 => ?_
  go_wp2_with fail
  go_ret
  exact ⟨rfl, (bC (bC (bA (bA bR _) _) b1) b2)⟩
theorem nan20_no2 (f m ch cl : Int) (t ng sw : Bool)
    (h0 : Hid (∀ w, FTab w → Ca 13 #[.int .u8 f] w (.bool true)))
    (h1 : Hid (∀ w, Ca 24 #[.int .u8 m] w (.bool false)))
    (h2 : Hid (∀ w, FTab w → Ca 12 #[] w (.bool true))) (w : World) (ft : FTab w) :
    Ca 8 #[.int .u8 f, .agg #[.int .u8 m, .bool t], U2 ch cl, .bool ng, .bool sw] w (.bool true) := by
  simp only [Ca, U2] at *
  go_enter Tryz.func8, Tryz.ntmps8
  go_wp2_with fail
  refine vM (h0.out _ (ft.later (bA (bA bR _) _))) fun w1 b1 => ?_
  have X0 := ((HB.newAt (b := w.heap.size) (by simp) _ _).alloc _).later b1
  have oX0 := X0.o
  go_wp2_with fail
  refine vM (h1.out _) fun w2 b2 => ?_
  clear oX0
  go_wp2_with fail
  refine vM (h2.out _ (ft.later (bC (bC (bA (bA bR _) _) b1) b2))) fun w3 b3 => ?_
  go_wp2_with fail
  go_ret
  exact ⟨rfl, (bC (bC (bC (bA (bA bR _) _) b1) b2) b3)⟩
theorem nan20_sw1 (f m ch cl fl xf ph pl qh ql rh rl xh xl yh yl : Int) (t ng sg : Bool)
    (h0 : Hid (∀ w, FTab w → Ca 13 #[.int .u8 f] w (.bool true)))
    (h1 : Hid (∀ w, Ca 24 #[.int .u8 m] w (.bool true)))
    (h2 : Hid (∀ w, FTab w → Ca 23 #[.int .u8 f, .bool ng] w (U2 ph pl)))
    (h3 : Hid (∀ w, FTab w → Ca 28 #[.int .u8 f, .bool ((!ng))] w (U2 qh ql)))
    (h4 : Hid (∀ w, FTab w → Ca 10 #[.int .u8 f, .agg #[.int .u8 m, .bool t], U2 qh ql, U2 ph pl, U2 ch cl] w (.agg #[.int .u64 rh, .int .u64 rl, .int .u8 1])))
    (h5 : Hid (∀ w, FTab w → Ca 26 #[.int .u8 f, U2 rh rl] w (.bool true)))
    (HH : (Hid (∀ w, FTab w → Ca 26 #[.int .u8 f, U2 ch cl] w (.bool false)) ∧ Hid (∀ w, FTab w → Ca 12 #[] w (.bool true))) ∨ (((fl == 1) = sg) ∧ (∀ w, (binOp .eql 28 (U2 xh xl) (U2 yh yl)).run Tryz.prog w = .ok (.bool true) w) ∧ (∀ w, (binOp .eql 28 (U2 xh xl) (U2 rh rl)).run Tryz.prog w = .ok (.bool true) w) ∧ Hid (∀ w, FTab w → Ca 26 #[.int .u8 f, U2 ch cl] w (.bool true)) ∧ Hid (∀ w, FTab w → Ca 10 #[.int .u8 f, .agg #[.int .u8 m, .bool t], U2 ch cl, U2 qh ql, U2 ph pl] w (.agg #[.int .u64 xh, .int .u64 xl, .int .u8 xf])) ∧ Hid (∀ w, FTab w → Ca 10 #[.int .u8 f, .agg #[.int .u8 m, .bool t], U2 qh ql, U2 qh ql, U2 ch cl] w (.agg #[.int .u64 yh, .int .u64 yl, .int .u8 fl])) ∧ Hid (∀ w, FTab w → Ca 26 #[.int .u8 f, U2 xh xl] w (.bool true)) ∧ Hid (∀ w, FTab w → Ca 29 #[.int .u8 f, U2 ch cl] w (.bool sg)) ∧ Hid (∀ w, FTab w → Ca 12 #[] w (.bool true)))) (w : World) (ft : FTab w) :
    Ca 8 #[.int .u8 f, .agg #[.int .u8 m, .bool t], U2 ch cl, .bool ng, .bool true] w (.bool true) := by
  simp only [Ca, U2] at *
  go_enter Tryz.func8, Tryz.ntmps8
  go_wp2_with fail
  refine vM (h0.out _ (ft.later (bA (bA bR _) _))) fun w1 b1 => ?_
  have X0 := ((HB.newAt (b := w.heap.size) (by simp) _ _).alloc _).later b1
  have X1 := (HB.newAt (b := w.heap.size + 1) (by simp) _ _).later b1
  have oX0 := X0.o
  go_wp2_with fail
  refine vM (h1.out _) fun w2 b2 => ?_
  clear oX0
  go_wp2_with fail
  refine vM (h2.out _ (ft.later (bC (bC (bA (bA bR _) _) b1) b2))) fun w3 b3 => ?_
  go_wp2_with fail
  refine vM (h3.out _ (ft.later (bC (bC (bC (bA (bA bR _) _) b1) b2) b3))) fun w4 b4 => ?_
  replace X0 := X0.later (bC (bC b2 b3) b4)
  have oX0 := X0.o
  replace X1 := X1.later (bC (bC b2 b3) b4)
  have oX1 := X1.o
  go_wp2_with fail
  refine vM (h4.out _ (ft.later (bA (bA (bC (bC (bC (bC (bA (bA bR _) _) b1) b2) b3) b4) _) _))) fun w5 b5 => ?_
  have X2 := ((HB.newAt (b := w4.heap.size) (by simp) _ _).alloc _).later b5
  have X3 := (HB.newAt (b := w4.heap.size + 1) (by simp) _ _).later b5
  clear oX0 oX1
  go_wp2_with fail
  refine vM (h5.out _ (ft.later (bA (bC (bC (bC (bC (bC (bA (bA bR _) _) b1) b2) b3) b4) (bC (bA (bA bR _) _) b5)) _))) fun w6 b6 => ?_
  have X4 := (HB.newAt (b := w5.heap.size) (by simp) _ _).later b6
  have oX4 := X4.o
  replace X1 := X1.later (bC (bC (bA (bA bR _) _) b5) (bC (bA bR _) b6))
  have oX1 := X1.o
  rcases HH with ⟨h6, h7⟩ | ⟨gs, nq, nr, h6, h7, h8, h9, h10, h11⟩
  · go_wp2_with fail
    refine vM (h6.out _ (ft.later (bC (bC (bC (bC (bC (bC (bA (bA bR _) _) b1) b2) b3) b4) (bC (bA (bA bR _) _) b5)) (bC (bA bR _) b6)))) fun w7 b7 => ?_
    clear oX4 oX1
    go_wp2_with fail
    refine vM (h7.out _ (ft.later (bC (bC (bC (bC (bC (bC (bC (bA (bA bR _) _) b1) b2) b3) b4) (bC (bA (bA bR _) _) b5)) (bC (bA bR _) b6)) b7))) fun w8 b8 => ?_
    go_wp2_with fail
    go_ret
    exact ⟨rfl, (bC (bC (bC (bC (bC (bC (bC (bC (bA (bA bR _) _) b1) b2) b3) b4) (bC (bA (bA bR _) _) b5)) (bC (bA bR _) b6)) b7) b8)⟩
  · go_wp2_with fail
    refine vM (h6.out _ (ft.later (bC (bC (bC (bC (bC (bC (bA (bA bR _) _) b1) b2) b3) b4) (bC (bA (bA bR _) _) b5)) (bC (bA bR _) b6)))) fun w7 b7 => ?_
    clear oX4 oX1
    go_wp2_with fail
    replace X0 := X0.later (bC (bC (bC (bA (bA bR _) _) b5) (bC (bA bR _) b6)) b7)
    replace X1 := X1.later b7
    replace X2 := X2.later (bC (bC (bA bR _) b6) b7)
    replace X3 := X3.later (bC (bC (bA bR _) b6) b7)
    refine vR [] fun w8 kz8 S => ?_
    refine vT 0 S ?_
    refine vT 1 S ?_ (hy := by intro wq hb; have q := (hb.hb X0 (by simp)).o; go_simp; try (with_reducible rfl))
    refine vT 2 S ?_ (hy := by intro wq hb; have q := (hb.hb X1 (by simp)).o; go_simp; try (with_reducible rfl))
    refine vT 3 S ?_ (hy := by intro wq hb; have q := (hb.hb X2 (by simp)).o; go_simp; try (with_reducible rfl))
    refine vT 4 S ?_ (hy := by intro wq hb; have q := (hb.hb X3 (by simp)).o; go_simp; try (with_reducible rfl))
    refine vT 6 S ?_
    refine vT 7 S ?_ (hy := by intro wq hb; have q := (hb.hb X0 (by simp)).o; go_simp; try (with_reducible rfl))
    refine vT 8 S ?_ (hy := by intro wq hb; have q := (hb.hb X2 (by simp)).o; go_simp; try (with_reducible rfl))
    refine vT 9 S ?_ (hy := by intro wq hb; have q := (hb.hb X2 (by simp)).o; go_simp; try (with_reducible rfl))
    refine vT 10 S ?_ (hy := by intro wq hb; have q := (hb.hb X1 (by simp)).o; go_simp; try (with_reducible rfl))
    refine vY3 (cC 5 S (h7.out _ (ft.later (bC (bC (bC (bC (bC (bC (bC (bC (bA (bA bR _) _) b1) b2) b3) b4) (bC (bA (bA bR _) _) b5)) (bC (bA bR _) b6)) b7) kz8))) fun w9 b9 => ?_) (cA 12 S fun w10 pp7_0 h X5 b10 => ?_) (cA 13 S fun w11 pp7_1 h X6 b11 => ?_)
    replace kz8 := bC kz8 b9
    clear S b9 w8
    revert kz8; revert w9
    refine ?s8b_0; rotate_left
    have jX5 := (lZ kz8.size h); replace kz8 := bC kz8 b10
    clear S b10 h w8
    revert kz8; revert jX5; revert X5; revert pp7_0; revert w10
    refine ?s8b_1; rotate_left
    have jX6 := (lZ kz8.size h); replace kz8 := bC kz8 b11
    clear S b11 h w8
    revert kz8; revert jX6; revert X6; revert pp7_1; revert w11
    refine ?s8b_2; rotate_left
    intro w12 kz8
    have S := Off.ofB kz8
    refine vY3 (cC 11 S (h8.out _ (ft.later (bC (bC (bC (bC (bC (bC (bC (bC (bA (bA bR _) _) b1) b2) b3) b4) (bC (bA (bA bR _) _) b5)) (bC (bA bR _) b6)) b7) kz8))) fun w13 b13 => ?_) (cA 12 S fun w14 pp7_0 h X5 b14 => ?_) (cA 13 S fun w15 pp7_1 h X6 b15 => ?_)
    replace kz8 := bC kz8 b13
    clear S b13 w12
    revert kz8; revert w13
    refine ?s8b_3; rotate_left
    have jX5 := (lZ kz8.size h); replace kz8 := bC kz8 b14
    clear S b14 h w12
    revert kz8; revert jX5; revert X5; revert pp7_0; revert w14
    refine ?s8b_4; rotate_left
    have jX6 := (lZ kz8.size h); replace kz8 := bC kz8 b15
    clear S b15 h w12
    revert kz8; revert jX6; revert X6; revert pp7_1; revert w15
    refine ?s8b_5; rotate_left
    intro w16 pp7_0 X5 jX5 kz8
    have S := Off.ofB kz8
    refine vY2 (cC 5 S (h7.out _ (ft.later (bC (bC (bC (bC (bC (bC (bC (bC (bA (bA bR _) _) b1) b2) b3) b4) (bC (bA (bA bR _) _) b5)) (bC (bA bR _) b6)) b7) kz8))) fun w17 b17 => ?s8b_4 w17 pp7_0 (X5.later b17) jX5 (bC kz8 b17)) (cA 13 S fun w18 pp7_1 h X6 b18 => ?_)
    have ndX5_X6 : ¬ (pp7_0 = pp7_1) := (Nat.ne_of_lt (lY X5.lt h)); have jX6 := (lZ kz8.size h); replace X5 := (X5.later b18); replace kz8 := bC kz8 b18
    clear S b18 h w16
    revert kz8; revert ndX5_X6; revert jX6; revert jX5; revert X6; revert X5; revert pp7_1; revert pp7_0; revert w18
    refine ?s8b_6; rotate_left
    intro w19 pp7_1 X6 jX6 kz8
    have S := Off.ofB kz8
    refine vY2 (cC 5 S (h7.out _ (ft.later (bC (bC (bC (bC (bC (bC (bC (bC (bA (bA bR _) _) b1) b2) b3) b4) (bC (bA (bA bR _) _) b5)) (bC (bA bR _) b6)) b7) kz8))) fun w20 b20 => ?s8b_5 w20 pp7_1 (X6.later b20) jX6 (bC kz8 b20)) (cA 12 S fun w21 pp7_0 h X5 b21 => ?s8b_6 w21 pp7_0 pp7_1 X5 (X6.later b21) (lZ kz8.size h) jX6 (Nat.ne_of_gt (lY X6.lt h)) (bC kz8 b21))
    intro w22 kz8
    have S := Off.ofB kz8
    refine vY2 (cA 12 S fun w23 pp7_0 h X5 b23 => ?_) (cA 13 S fun w24 pp7_1 h X6 b24 => ?_)
    have jX5 := (lZ kz8.size h); replace kz8 := bC kz8 b23
    clear S b23 h w22
    revert kz8; revert jX5; revert X5; revert pp7_0; revert w23
    refine ?s8b_7; rotate_left
    have jX6 := (lZ kz8.size h); replace kz8 := bC kz8 b24
    clear S b24 h w22
    revert kz8; revert jX6; revert X6; revert pp7_1; revert w24
    refine ?s8b_8; rotate_left
    intro w25 pp7_0 X5 jX5 kz8
    have S := Off.ofB kz8
    refine vY2 (cC 11 S (h8.out _ (ft.later (bC (bC (bC (bC (bC (bC (bC (bC (bA (bA bR _) _) b1) b2) b3) b4) (bC (bA (bA bR _) _) b5)) (bC (bA bR _) b6)) b7) kz8))) fun w26 b26 => ?s8b_7 w26 pp7_0 (X5.later b26) jX5 (bC kz8 b26)) (cA 13 S fun w27 pp7_1 h X6 b27 => ?_)
    have ndX5_X6 : ¬ (pp7_0 = pp7_1) := (Nat.ne_of_lt (lY X5.lt h)); have jX6 := (lZ kz8.size h); replace X5 := (X5.later b27); replace kz8 := bC kz8 b27
    clear S b27 h w25
    revert kz8; revert ndX5_X6; revert jX6; revert jX5; revert X6; revert X5; revert pp7_1; revert pp7_0; revert w27
    refine ?s8b_9; rotate_left
    intro w28 pp7_1 X6 jX6 kz8
    have S := Off.ofB kz8
    refine vY2 (cC 11 S (h8.out _ (ft.later (bC (bC (bC (bC (bC (bC (bC (bC (bA (bA bR _) _) b1) b2) b3) b4) (bC (bA (bA bR _) _) b5)) (bC (bA bR _) b6)) b7) kz8))) fun w29 b29 => ?s8b_8 w29 pp7_1 (X6.later b29) jX6 (bC kz8 b29)) (cA 12 S fun w30 pp7_0 h X5 b30 => ?s8b_9 w30 pp7_0 pp7_1 X5 (X6.later b30) (lZ kz8.size h) jX6 (Nat.ne_of_gt (lY X6.lt h)) (bC kz8 b30))
    intro w31 pp7_0 pp7_1 X5 X6 jX5 jX6 ndX5_X6 kz8
    have S := Off.ofB kz8
    refine vY1 (cC 5 S (h7.out _ (ft.later (bC (bC (bC (bC (bC (bC (bC (bC (bA (bA bR _) _) b1) b2) b3) b4) (bC (bA (bA bR _) _) b5)) (bC (bA bR _) b6)) b7) kz8))) fun w32 b32 => ?s8b_9 w32 pp7_0 pp7_1 (X5.later b32) (X6.later b32) jX5 jX6 ndX5_X6 (bC kz8 b32))
    intro w33 pp7_0 X5 jX5 kz8
    have S := Off.ofB kz8
    refine vY1 (cA 13 S fun w34 pp7_1 h X6 b34 => ?_)
    have ndX5_X6 : ¬ (pp7_0 = pp7_1) := (Nat.ne_of_lt (lY X5.lt h)); have jX6 := (lZ kz8.size h); replace X5 := (X5.later b34); replace kz8 := bC kz8 b34
    clear S b34 h w33
    revert kz8; revert ndX5_X6; revert jX6; revert jX5; revert X6; revert X5; revert pp7_1; revert pp7_0; revert w34
    refine ?s8b_10; rotate_left
    intro w35 pp7_1 X6 jX6 kz8
    have S := Off.ofB kz8
    refine vY1 (cA 12 S fun w36 pp7_0 h X5 b36 => ?s8b_10 w36 pp7_0 pp7_1 X5 (X6.later b36) (lZ kz8.size h) jX6 (Nat.ne_of_gt (lY X6.lt h)) (bC kz8 b36))
    intro w37 pp7_0 pp7_1 X5 X6 jX5 jX6 ndX5_X6 kz8
    have S := Off.ofB kz8
    refine vY1 (cC 11 S (h8.out _ (ft.later (bC (bC (bC (bC (bC (bC (bC (bC (bA (bA bR _) _) b1) b2) b3) b4) (bC (bA (bA bR _) _) b5)) (bC (bA bR _) b6)) b7) kz8))) fun w38 b38 => ?s8b_10 w38 pp7_0 pp7_1 (X5.later b38) (X6.later b38) jX5 jX6 ndX5_X6 (bC kz8 b38))
    intro w39 pp7_0 pp7_1 X5 X6 jX5 jX6 ndX5_X6 kz8
    have S := Off.ofB kz8
    refine vY1 (vO 14 fun K hK => ?_)
    have q := X5.o; have mX6 : ¬ (pp7_1 = pp7_0) := (by omega)
    go_simp
    refine vW (fun W => HB W pp7_0 31 #[.int .u64 xh, .int .u64 xl, .int .u8 xf] ∧ HB W pp7_1 31 #[.int .u64 0, .int .u64 0, .int .u8 0] ∧ Below w7.heap.size w7 W) ⟨(((X5.set 0 _).set 1 _).set 2 _), (((X6.other mX6 0 _).other mX6 1 _).other mX6 2 _), (((kz8.setCell (p := ⟨pp7_0, 0, none⟩) jX5 _).setCell (p := ⟨pp7_0, 1, none⟩) jX5 _).setCell (p := ⟨pp7_0, 2, none⟩) jX5 _)⟩ fun w41 hz => ?_
    clear q mX6 X5 X6 S kz8 w39; obtain ⟨X5, X6, kz8⟩ := hz
    refine hK.out _ _ (Off.ofB kz8) fun S => ?_; clear hK K S; refine vP ?_
    revert kz8; revert ndX5_X6; revert jX6; revert jX5; revert X6; revert X5; revert pp7_1; revert pp7_0; revert w41
    refine ?s8b_11; rotate_left
    intro w42 pp7_0 pp7_1 X5 X6 jX5 jX6 ndX5_X6 kz8
    have S := Off.ofB kz8
    refine vY1 (vO 15 fun K hK => ?_)
    have q := X6.o; have mX5 : ¬ (pp7_0 = pp7_1) := (by omega)
    go_simp
    refine vW (fun W => HB W pp7_0 31 #[.int .u64 xh, .int .u64 xl, .int .u8 xf] ∧ HB W pp7_1 31 #[.int .u64 yh, .int .u64 yl, .int .u8 fl] ∧ Below w7.heap.size w7 W) ⟨(((X5.other mX5 0 _).other mX5 1 _).other mX5 2 _), (((X6.set 0 _).set 1 _).set 2 _), (((kz8.setCell (p := ⟨pp7_1, 0, none⟩) jX6 _).setCell (p := ⟨pp7_1, 1, none⟩) jX6 _).setCell (p := ⟨pp7_1, 2, none⟩) jX6 _)⟩ fun w44 hz => ?_
    clear q mX5 X5 X6 S kz8 w42; obtain ⟨X5, X6, kz8⟩ := hz
    refine hK.out _ _ (Off.ofB kz8) fun S => ?_; clear hK K S; refine vP ?_
    revert kz8; revert ndX5_X6; revert jX6; revert jX5; revert X6; revert X5; revert pp7_1; revert pp7_0; revert w44
    refine ?s8b_12; rotate_left
    intro w45 pp7_0 pp7_1 X5 X6 jX5 jX6 ndX5_X6 kz8
    refine vD ?_
    have nX1_X5 : w.heap.size + 1 < pp7_0 := by have := X1.lt; omega
    have nX1_X6 : w.heap.size + 1 < pp7_1 := by have := X1.lt; omega
    replace X4 := X4.later b7
    have nX4_X5 : w5.heap.size < pp7_0 := by have := X4.lt; omega
    have nX4_X6 : w5.heap.size < pp7_1 := by have := X4.lt; omega
    have gX5 : w.heap.size ≤ pp7_0 := by have := (bC (bC (bC (bC (bC (bC (bC (bA (bA bR _) _) b1) b2) b3) b4) (bC (bA (bA bR _) _) b5)) (bC (bA bR _) b6)) b7).size; omega
    have gX6 : w.heap.size ≤ pp7_1 := by have := (bC (bC (bC (bC (bC (bC (bC (bA (bA bR _) _) b1) b2) b3) b4) (bC (bA (bA bR _) _) b5)) (bC (bA bR _) b6)) b7).size; omega
    go_wp2_with fail
    replace X1 := X1.later kz8
    replace X4 := X4.later kz8
    refine vR [] fun w46 b46 S46 => ?_
    refine vT 0 S46 ?_
    refine vT 1 S46 ?_
    refine vT 2 S46 ?_ (hy := by intro wq hb; have q := (hb.hb X5 (by simp)).o; go_simp; try (with_reducible rfl))
    refine vY1 (vC 3 S46 (h9.out _ (ft.later (bC (bC (bC (bC (bC (bC (bC (bC (bC (bA (bA bR _) _) b1) b2) b3) b4) (bC (bA (bA bR _) _) b5)) (bC (bA bR _) b6)) b7) kz8) b46))) (fun _ _ => Off.later) fun w47 b47 S47 => ?_)
    refine vT 4 S47 ?_
    refine vT 5 S47 ?_
    refine vT 6 S47 ?_ (hy := by intro wq hb; have q := (hb.hb X5 (by simp)).o; go_simp; try (with_reducible rfl))
    refine vT 7 S47 ?_
    refine vT 8 S47 ?_ (hy := by intro wq hb; have q := (hb.hb X6 (by simp)).o; go_simp; try (with_reducible rfl))
    refine vT 9 S47 ?_
    refine vT 10 S47 ?_
    refine vT 11 S47 ?_
    refine vT 12 S47 ?_
    refine vT 13 S47 ?_ (hy := by intro wq hb; have q := (hb.hb X5 (by simp)).o; go_simp; try (with_reducible rfl))
    refine vT 14 S47 ?_
    refine vT 15 S47 ?_ (hy := by intro wq hb; have q := (hb.hb X4 (by simp)).o; go_simp; try (with_reducible rfl))
    refine vT 16 S47 ?_
    refine vT 17 S47 ?_
    refine vT 18 S47 ?_
    refine vT 19 S47 ?_
    refine vT 20 S47 ?_ (hy := by intro wq hb; have q := (hb.hb X6 (by simp)).o; go_simp; try (with_reducible rfl))
    refine vT 21 S47 ?_
    refine vT 22 S47 ?_
    refine vT 23 S47 ?_ (hy := by intro wq hb; have q := (hb.hb X1 (by simp)).o; go_simp; try (with_reducible rfl))
    refine vY1 (vC 24 S47 (h10.out _ (ft.later (bC (bC (bC (bC (bC (bC (bC (bC (bC (bC (bA (bA bR _) _) b1) b2) b3) b4) (bC (bA (bA bR _) _) b5)) (bC (bA bR _) b6)) b7) kz8) b46) b47))) (fun _ _ => Off.later) fun w48 b48 S48 => ?_)
    refine vT 25 S48 ?_
    refine vT 26 S48 ?_
    refine vT 27 S48 ?_
    refine vY1 (vC 28 S48 (h11.out _ (ft.later (bC (bC (bC (bC (bC (bC (bC (bC (bC (bC (bC (bA (bA bR _) _) b1) b2) b3) b4) (bC (bA (bA bR _) _) b5)) (bC (bA bR _) b6)) b7) kz8) b46) b47) b48))) (fun _ _ => Off.later) fun w49 b49 S49 => ?_)
    refine vT 29 S49 ?_
    refine vT 30 S49 ?_
    refine vD ?_
    go_wp2_with fail
    go_ret
    exact ⟨rfl, (bC (bC (bC (bC (bC (bC (bC (bC (bC (bC (bC (bC (bA (bA bR _) _) b1) b2) b3) b4) (bC (bA (bA bR _) _) b5)) (bC (bA bR _) b6)) b7) kz8) b46) b47) b48) b49)⟩
theorem nan20_sw0 (f m ch cl fl xf ph pl qh ql rh rl xh xl yh yl : Int) (t ng sg : Bool)
    (h0 : Hid (∀ w, FTab w → Ca 13 #[.int .u8 f] w (.bool true)))
    (h1 : Hid (∀ w, Ca 24 #[.int .u8 m] w (.bool true)))
    (h2 : Hid (∀ w, FTab w → Ca 23 #[.int .u8 f, .bool ng] w (U2 ph pl)))
    (h3 : Hid (∀ w, FTab w → Ca 28 #[.int .u8 f, .bool ((!ng))] w (U2 qh ql)))
    (h4 : Hid (∀ w, FTab w → Ca 10 #[.int .u8 f, .agg #[.int .u8 m, .bool t], U2 ph pl, U2 qh ql, U2 ch cl] w (.agg #[.int .u64 rh, .int .u64 rl, .int .u8 1])))
    (h5 : Hid (∀ w, FTab w → Ca 26 #[.int .u8 f, U2 rh rl] w (.bool true)))
    (HH : (Hid (∀ w, FTab w → Ca 26 #[.int .u8 f, U2 ch cl] w (.bool false)) ∧ Hid (∀ w, FTab w → Ca 12 #[] w (.bool true))) ∨ (((fl == 1) = sg) ∧ (∀ w, (binOp .eql 28 (U2 xh xl) (U2 yh yl)).run Tryz.prog w = .ok (.bool true) w) ∧ (∀ w, (binOp .eql 28 (U2 xh xl) (U2 rh rl)).run Tryz.prog w = .ok (.bool true) w) ∧ Hid (∀ w, FTab w → Ca 26 #[.int .u8 f, U2 ch cl] w (.bool true)) ∧ Hid (∀ w, FTab w → Ca 10 #[.int .u8 f, .agg #[.int .u8 m, .bool t], U2 ch cl, U2 ph pl, U2 qh ql] w (.agg #[.int .u64 xh, .int .u64 xl, .int .u8 xf])) ∧ Hid (∀ w, FTab w → Ca 10 #[.int .u8 f, .agg #[.int .u8 m, .bool t], U2 ph pl, U2 ph pl, U2 ch cl] w (.agg #[.int .u64 yh, .int .u64 yl, .int .u8 fl])) ∧ Hid (∀ w, FTab w → Ca 26 #[.int .u8 f, U2 xh xl] w (.bool true)) ∧ Hid (∀ w, FTab w → Ca 29 #[.int .u8 f, U2 ch cl] w (.bool sg)) ∧ Hid (∀ w, FTab w → Ca 12 #[] w (.bool true)))) (w : World) (ft : FTab w) :
    Ca 8 #[.int .u8 f, .agg #[.int .u8 m, .bool t], U2 ch cl, .bool ng, .bool false] w (.bool true) := by
  simp only [Ca, U2] at *
  go_enter Tryz.func8, Tryz.ntmps8
  go_wp2_with fail
  refine vM (h0.out _ (ft.later (bA (bA bR _) _))) fun w1 b1 => ?_
  have X0 := ((HB.newAt (b := w.heap.size) (by simp) _ _).alloc _).later b1
  have X1 := (HB.newAt (b := w.heap.size + 1) (by simp) _ _).later b1
  have oX0 := X0.o
  go_wp2_with fail
  refine vM (h1.out _) fun w2 b2 => ?_
  clear oX0
  go_wp2_with fail
  refine vM (h2.out _ (ft.later (bC (bC (bA (bA bR _) _) b1) b2))) fun w3 b3 => ?_
  go_wp2_with fail
  refine vM (h3.out _ (ft.later (bC (bC (bC (bA (bA bR _) _) b1) b2) b3))) fun w4 b4 => ?_
  replace X0 := X0.later (bC (bC b2 b3) b4)
  have oX0 := X0.o
  replace X1 := X1.later (bC (bC b2 b3) b4)
  have oX1 := X1.o
  go_wp2_with fail
  refine vM (h4.out _ (ft.later (bA (bA (bC (bC (bC (bC (bA (bA bR _) _) b1) b2) b3) b4) _) _))) fun w5 b5 => ?_
  have X2 := ((HB.newAt (b := w4.heap.size) (by simp) _ _).alloc _).later b5
  have X3 := (HB.newAt (b := w4.heap.size + 1) (by simp) _ _).later b5
  clear oX0 oX1
  go_wp2_with fail
  refine vM (h5.out _ (ft.later (bA (bC (bC (bC (bC (bC (bA (bA bR _) _) b1) b2) b3) b4) (bC (bA (bA bR _) _) b5)) _))) fun w6 b6 => ?_
  have X4 := (HB.newAt (b := w5.heap.size) (by simp) _ _).later b6
  have oX4 := X4.o
  replace X1 := X1.later (bC (bC (bA (bA bR _) _) b5) (bC (bA bR _) b6))
  have oX1 := X1.o
  rcases HH with ⟨h6, h7⟩ | ⟨gs, nq, nr, h6, h7, h8, h9, h10, h11⟩
  · go_wp2_with fail
    refine vM (h6.out _ (ft.later (bC (bC (bC (bC (bC (bC (bA (bA bR _) _) b1) b2) b3) b4) (bC (bA (bA bR _) _) b5)) (bC (bA bR _) b6)))) fun w7 b7 => ?_
    clear oX4 oX1
    go_wp2_with fail
    refine vM (h7.out _ (ft.later (bC (bC (bC (bC (bC (bC (bC (bA (bA bR _) _) b1) b2) b3) b4) (bC (bA (bA bR _) _) b5)) (bC (bA bR _) b6)) b7))) fun w8 b8 => ?_
    go_wp2_with fail
    go_ret
    exact ⟨rfl, (bC (bC (bC (bC (bC (bC (bC (bC (bA (bA bR _) _) b1) b2) b3) b4) (bC (bA (bA bR _) _) b5)) (bC (bA bR _) b6)) b7) b8)⟩
  · go_wp2_with fail
    refine vM (h6.out _ (ft.later (bC (bC (bC (bC (bC (bC (bA (bA bR _) _) b1) b2) b3) b4) (bC (bA (bA bR _) _) b5)) (bC (bA bR _) b6)))) fun w7 b7 => ?_
    clear oX4 oX1
    go_wp2_with fail
    replace X0 := X0.later (bC (bC (bC (bA (bA bR _) _) b5) (bC (bA bR _) b6)) b7)
    replace X1 := X1.later b7
    replace X2 := X2.later (bC (bC (bA bR _) b6) b7)
    replace X3 := X3.later (bC (bC (bA bR _) b6) b7)
    refine vR [] fun w8 kz8 S => ?_
    refine vT 0 S ?_
    refine vT 1 S ?_ (hy := by intro wq hb; have q := (hb.hb X0 (by simp)).o; go_simp; try (with_reducible rfl))
    refine vT 2 S ?_ (hy := by intro wq hb; have q := (hb.hb X1 (by simp)).o; go_simp; try (with_reducible rfl))
    refine vT 3 S ?_ (hy := by intro wq hb; have q := (hb.hb X2 (by simp)).o; go_simp; try (with_reducible rfl))
    refine vT 4 S ?_ (hy := by intro wq hb; have q := (hb.hb X3 (by simp)).o; go_simp; try (with_reducible rfl))
    refine vT 6 S ?_
    refine vT 7 S ?_ (hy := by intro wq hb; have q := (hb.hb X0 (by simp)).o; go_simp; try (with_reducible rfl))
    refine vT 8 S ?_ (hy := by intro wq hb; have q := (hb.hb X2 (by simp)).o; go_simp; try (with_reducible rfl))
    refine vT 9 S ?_ (hy := by intro wq hb; have q := (hb.hb X2 (by simp)).o; go_simp; try (with_reducible rfl))
    refine vT 10 S ?_ (hy := by intro wq hb; have q := (hb.hb X1 (by simp)).o; go_simp; try (with_reducible rfl))
    refine vY3 (cC 5 S (h7.out _ (ft.later (bC (bC (bC (bC (bC (bC (bC (bC (bA (bA bR _) _) b1) b2) b3) b4) (bC (bA (bA bR _) _) b5)) (bC (bA bR _) b6)) b7) kz8))) fun w9 b9 => ?_) (cA 12 S fun w10 pp7_0 h X5 b10 => ?_) (cA 13 S fun w11 pp7_1 h X6 b11 => ?_)
    replace kz8 := bC kz8 b9
    clear S b9 w8
    revert kz8; revert w9
    refine ?s8b_0; rotate_left
    have jX5 := (lZ kz8.size h); replace kz8 := bC kz8 b10
    clear S b10 h w8
    revert kz8; revert jX5; revert X5; revert pp7_0; revert w10
    refine ?s8b_1; rotate_left
    have jX6 := (lZ kz8.size h); replace kz8 := bC kz8 b11
    clear S b11 h w8
    revert kz8; revert jX6; revert X6; revert pp7_1; revert w11
    refine ?s8b_2; rotate_left
    intro w12 kz8
    have S := Off.ofB kz8
    refine vY3 (cC 11 S (h8.out _ (ft.later (bC (bC (bC (bC (bC (bC (bC (bC (bA (bA bR _) _) b1) b2) b3) b4) (bC (bA (bA bR _) _) b5)) (bC (bA bR _) b6)) b7) kz8))) fun w13 b13 => ?_) (cA 12 S fun w14 pp7_0 h X5 b14 => ?_) (cA 13 S fun w15 pp7_1 h X6 b15 => ?_)
    replace kz8 := bC kz8 b13
    clear S b13 w12
    revert kz8; revert w13
    refine ?s8b_3; rotate_left
    have jX5 := (lZ kz8.size h); replace kz8 := bC kz8 b14
    clear S b14 h w12
    revert kz8; revert jX5; revert X5; revert pp7_0; revert w14
    refine ?s8b_4; rotate_left
    have jX6 := (lZ kz8.size h); replace kz8 := bC kz8 b15
    clear S b15 h w12
    revert kz8; revert jX6; revert X6; revert pp7_1; revert w15
    refine ?s8b_5; rotate_left
    intro w16 pp7_0 X5 jX5 kz8
    have S := Off.ofB kz8
    refine vY2 (cC 5 S (h7.out _ (ft.later (bC (bC (bC (bC (bC (bC (bC (bC (bA (bA bR _) _) b1) b2) b3) b4) (bC (bA (bA bR _) _) b5)) (bC (bA bR _) b6)) b7) kz8))) fun w17 b17 => ?s8b_4 w17 pp7_0 (X5.later b17) jX5 (bC kz8 b17)) (cA 13 S fun w18 pp7_1 h X6 b18 => ?_)
    have ndX5_X6 : ¬ (pp7_0 = pp7_1) := (Nat.ne_of_lt (lY X5.lt h)); have jX6 := (lZ kz8.size h); replace X5 := (X5.later b18); replace kz8 := bC kz8 b18
    clear S b18 h w16
    revert kz8; revert ndX5_X6; revert jX6; revert jX5; revert X6; revert X5; revert pp7_1; revert pp7_0; revert w18
    refine ?s8b_6; rotate_left
    intro w19 pp7_1 X6 jX6 kz8
    have S := Off.ofB kz8
    refine vY2 (cC 5 S (h7.out _ (ft.later (bC (bC (bC (bC (bC (bC (bC (bC (bA (bA bR _) _) b1) b2) b3) b4) (bC (bA (bA bR _) _) b5)) (bC (bA bR _) b6)) b7) kz8))) fun w20 b20 => ?s8b_5 w20 pp7_1 (X6.later b20) jX6 (bC kz8 b20)) (cA 12 S fun w21 pp7_0 h X5 b21 => ?s8b_6 w21 pp7_0 pp7_1 X5 (X6.later b21) (lZ kz8.size h) jX6 (Nat.ne_of_gt (lY X6.lt h)) (bC kz8 b21))
    intro w22 kz8
    have S := Off.ofB kz8
    refine vY2 (cA 12 S fun w23 pp7_0 h X5 b23 => ?_) (cA 13 S fun w24 pp7_1 h X6 b24 => ?_)
    have jX5 := (lZ kz8.size h); replace kz8 := bC kz8 b23
    clear S b23 h w22
    revert kz8; revert jX5; revert X5; revert pp7_0; revert w23
    refine ?s8b_7; rotate_left
    have jX6 := (lZ kz8.size h); replace kz8 := bC kz8 b24
    clear S b24 h w22
    revert kz8; revert jX6; revert X6; revert pp7_1; revert w24
    refine ?s8b_8; rotate_left
    intro w25 pp7_0 X5 jX5 kz8
    have S := Off.ofB kz8
    refine vY2 (cC 11 S (h8.out _ (ft.later (bC (bC (bC (bC (bC (bC (bC (bC (bA (bA bR _) _) b1) b2) b3) b4) (bC (bA (bA bR _) _) b5)) (bC (bA bR _) b6)) b7) kz8))) fun w26 b26 => ?s8b_7 w26 pp7_0 (X5.later b26) jX5 (bC kz8 b26)) (cA 13 S fun w27 pp7_1 h X6 b27 => ?_)
    have ndX5_X6 : ¬ (pp7_0 = pp7_1) := (Nat.ne_of_lt (lY X5.lt h)); have jX6 := (lZ kz8.size h); replace X5 := (X5.later b27); replace kz8 := bC kz8 b27
    clear S b27 h w25
    revert kz8; revert ndX5_X6; revert jX6; revert jX5; revert X6; revert X5; revert pp7_1; revert pp7_0; revert w27
    refine ?s8b_9; rotate_left
    intro w28 pp7_1 X6 jX6 kz8
    have S := Off.ofB kz8
    refine vY2 (cC 11 S (h8.out _ (ft.later (bC (bC (bC (bC (bC (bC (bC (bC (bA (bA bR _) _) b1) b2) b3) b4) (bC (bA (bA bR _) _) b5)) (bC (bA bR _) b6)) b7) kz8))) fun w29 b29 => ?s8b_8 w29 pp7_1 (X6.later b29) jX6 (bC kz8 b29)) (cA 12 S fun w30 pp7_0 h X5 b30 => ?s8b_9 w30 pp7_0 pp7_1 X5 (X6.later b30) (lZ kz8.size h) jX6 (Nat.ne_of_gt (lY X6.lt h)) (bC kz8 b30))
    intro w31 pp7_0 pp7_1 X5 X6 jX5 jX6 ndX5_X6 kz8
    have S := Off.ofB kz8
    refine vY1 (cC 5 S (h7.out _ (ft.later (bC (bC (bC (bC (bC (bC (bC (bC (bA (bA bR _) _) b1) b2) b3) b4) (bC (bA (bA bR _) _) b5)) (bC (bA bR _) b6)) b7) kz8))) fun w32 b32 => ?s8b_9 w32 pp7_0 pp7_1 (X5.later b32) (X6.later b32) jX5 jX6 ndX5_X6 (bC kz8 b32))
    intro w33 pp7_0 X5 jX5 kz8
    have S := Off.ofB kz8
    refine vY1 (cA 13 S fun w34 pp7_1 h X6 b34 => ?_)
    have ndX5_X6 : ¬ (pp7_0 = pp7_1) := (Nat.ne_of_lt (lY X5.lt h)); have jX6 := (lZ kz8.size h); replace X5 := (X5.later b34); replace kz8 := bC kz8 b34
    clear S b34 h w33
    revert kz8; revert ndX5_X6; revert jX6; revert jX5; revert X6; revert X5; revert pp7_1; revert pp7_0; revert w34
    refine ?s8b_10; rotate_left
    intro w35 pp7_1 X6 jX6 kz8
    have S := Off.ofB kz8
    refine vY1 (cA 12 S fun w36 pp7_0 h X5 b36 => ?s8b_10 w36 pp7_0 pp7_1 X5 (X6.later b36) (lZ kz8.size h) jX6 (Nat.ne_of_gt (lY X6.lt h)) (bC kz8 b36))
    intro w37 pp7_0 pp7_1 X5 X6 jX5 jX6 ndX5_X6 kz8
    have S := Off.ofB kz8
    refine vY1 (cC 11 S (h8.out _ (ft.later (bC (bC (bC (bC (bC (bC (bC (bC (bA (bA bR _) _) b1) b2) b3) b4) (bC (bA (bA bR _) _) b5)) (bC (bA bR _) b6)) b7) kz8))) fun w38 b38 => ?s8b_10 w38 pp7_0 pp7_1 (X5.later b38) (X6.later b38) jX5 jX6 ndX5_X6 (bC kz8 b38))
    intro w39 pp7_0 pp7_1 X5 X6 jX5 jX6 ndX5_X6 kz8
    have S := Off.ofB kz8
    refine vY1 (vO 14 fun K hK => ?_)
    have q := X5.o; have mX6 : ¬ (pp7_1 = pp7_0) := (by omega)
    go_simp
    refine vW (fun W => HB W pp7_0 31 #[.int .u64 xh, .int .u64 xl, .int .u8 xf] ∧ HB W pp7_1 31 #[.int .u64 0, .int .u64 0, .int .u8 0] ∧ Below w7.heap.size w7 W) ⟨(((X5.set 0 _).set 1 _).set 2 _), (((X6.other mX6 0 _).other mX6 1 _).other mX6 2 _), (((kz8.setCell (p := ⟨pp7_0, 0, none⟩) jX5 _).setCell (p := ⟨pp7_0, 1, none⟩) jX5 _).setCell (p := ⟨pp7_0, 2, none⟩) jX5 _)⟩ fun w41 hz => ?_
    clear q mX6 X5 X6 S kz8 w39; obtain ⟨X5, X6, kz8⟩ := hz
    refine hK.out _ _ (Off.ofB kz8) fun S => ?_; clear hK K S; refine vP ?_
    revert kz8; revert ndX5_X6; revert jX6; revert jX5; revert X6; revert X5; revert pp7_1; revert pp7_0; revert w41
    refine ?s8b_11; rotate_left
    intro w42 pp7_0 pp7_1 X5 X6 jX5 jX6 ndX5_X6 kz8
    have S := Off.ofB kz8
    refine vY1 (vO 15 fun K hK => ?_)
    have q := X6.o; have mX5 : ¬ (pp7_0 = pp7_1) := (by omega)
    go_simp
    refine vW (fun W => HB W pp7_0 31 #[.int .u64 xh, .int .u64 xl, .int .u8 xf] ∧ HB W pp7_1 31 #[.int .u64 yh, .int .u64 yl, .int .u8 fl] ∧ Below w7.heap.size w7 W) ⟨(((X5.other mX5 0 _).other mX5 1 _).other mX5 2 _), (((X6.set 0 _).set 1 _).set 2 _), (((kz8.setCell (p := ⟨pp7_1, 0, none⟩) jX6 _).setCell (p := ⟨pp7_1, 1, none⟩) jX6 _).setCell (p := ⟨pp7_1, 2, none⟩) jX6 _)⟩ fun w44 hz => ?_
    clear q mX5 X5 X6 S kz8 w42; obtain ⟨X5, X6, kz8⟩ := hz
    refine hK.out _ _ (Off.ofB kz8) fun S => ?_; clear hK K S; refine vP ?_
    revert kz8; revert ndX5_X6; revert jX6; revert jX5; revert X6; revert X5; revert pp7_1; revert pp7_0; revert w44
    refine ?s8b_12; rotate_left
    intro w45 pp7_0 pp7_1 X5 X6 jX5 jX6 ndX5_X6 kz8
    refine vD ?_
    have nX1_X5 : w.heap.size + 1 < pp7_0 := by have := X1.lt; omega
    have nX1_X6 : w.heap.size + 1 < pp7_1 := by have := X1.lt; omega
    replace X4 := X4.later b7
    have nX4_X5 : w5.heap.size < pp7_0 := by have := X4.lt; omega
    have nX4_X6 : w5.heap.size < pp7_1 := by have := X4.lt; omega
    have gX5 : w.heap.size ≤ pp7_0 := by have := (bC (bC (bC (bC (bC (bC (bC (bA (bA bR _) _) b1) b2) b3) b4) (bC (bA (bA bR _) _) b5)) (bC (bA bR _) b6)) b7).size; omega
    have gX6 : w.heap.size ≤ pp7_1 := by have := (bC (bC (bC (bC (bC (bC (bC (bA (bA bR _) _) b1) b2) b3) b4) (bC (bA (bA bR _) _) b5)) (bC (bA bR _) b6)) b7).size; omega
    go_wp2_with fail
    replace X1 := X1.later kz8
    replace X4 := X4.later kz8
    refine vR [] fun w46 b46 S46 => ?_
    refine vT 0 S46 ?_
    refine vT 1 S46 ?_
    refine vT 2 S46 ?_ (hy := by intro wq hb; have q := (hb.hb X5 (by simp)).o; go_simp; try (with_reducible rfl))
    refine vY1 (vC 3 S46 (h9.out _ (ft.later (bC (bC (bC (bC (bC (bC (bC (bC (bC (bA (bA bR _) _) b1) b2) b3) b4) (bC (bA (bA bR _) _) b5)) (bC (bA bR _) b6)) b7) kz8) b46))) (fun _ _ => Off.later) fun w47 b47 S47 => ?_)
    refine vT 4 S47 ?_
    refine vT 5 S47 ?_
    refine vT 6 S47 ?_ (hy := by intro wq hb; have q := (hb.hb X5 (by simp)).o; go_simp; try (with_reducible rfl))
    refine vT 7 S47 ?_
    refine vT 8 S47 ?_ (hy := by intro wq hb; have q := (hb.hb X6 (by simp)).o; go_simp; try (with_reducible rfl))
    refine vT 9 S47 ?_
    refine vT 10 S47 ?_
    refine vT 11 S47 ?_
    refine vT 12 S47 ?_
    refine vT 13 S47 ?_ (hy := by intro wq hb; have q := (hb.hb X5 (by simp)).o; go_simp; try (with_reducible rfl))
    refine vT 14 S47 ?_
    refine vT 15 S47 ?_ (hy := by intro wq hb; have q := (hb.hb X4 (by simp)).o; go_simp; try (with_reducible rfl))
    refine vT 16 S47 ?_
    refine vT 17 S47 ?_
    refine vT 18 S47 ?_
    refine vT 19 S47 ?_
    refine vT 20 S47 ?_ (hy := by intro wq hb; have q := (hb.hb X6 (by simp)).o; go_simp; try (with_reducible rfl))
    refine vT 21 S47 ?_
    refine vT 22 S47 ?_
    refine vT 23 S47 ?_ (hy := by intro wq hb; have q := (hb.hb X1 (by simp)).o; go_simp; try (with_reducible rfl))
    refine vY1 (vC 24 S47 (h10.out _ (ft.later (bC (bC (bC (bC (bC (bC (bC (bC (bC (bC (bA (bA bR _) _) b1) b2) b3) b4) (bC (bA (bA bR _) _) b5)) (bC (bA bR _) b6)) b7) kz8) b46) b47))) (fun _ _ => Off.later) fun w48 b48 S48 => ?_)
    refine vT 25 S48 ?_
    refine vT 26 S48 ?_
    refine vT 27 S48 ?_
    refine vY1 (vC 28 S48 (h11.out _ (ft.later (bC (bC (bC (bC (bC (bC (bC (bC (bC (bC (bC (bA (bA bR _) _) b1) b2) b3) b4) (bC (bA (bA bR _) _) b5)) (bC (bA bR _) b6)) b7) kz8) b46) b47) b48))) (fun _ _ => Off.later) fun w49 b49 S49 => ?_)
    refine vT 29 S49 ?_
    refine vT 30 S49 ?_
    refine vD ?_
    go_wp2_with fail
    go_ret
    exact ⟨rfl, (bC (bC (bC (bC (bC (bC (bC (bC (bC (bC (bC (bC (bA (bA bR _) _) b1) b2) b3) b4) (bC (bA (bA bR _) _) b5)) (bC (bA bR _) b6)) b7) kz8) b46) b47) b48) b49)⟩
end Go.Proofs.YtdcdbcccchadfaaGreatDoor
