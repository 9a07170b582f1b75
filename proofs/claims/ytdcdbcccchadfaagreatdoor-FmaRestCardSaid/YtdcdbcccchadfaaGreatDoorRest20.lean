import Derived.Test.YtdcdbcccchadfaaGreatDoorGwA
import Derived.Test.YtdcdbcccchadfaaGreatDoorGaB
import Derived.Test.YtdcdbcccchadfaaGreatDoorGfA
import Derived.Test.YtdcdbcccchadfaaGreatDoorGhA
import Derived.Test.YtdcdbcccchadfaaGreatDoorGaA
import Derived.Test.YtdcdbcccchadfaaGreatDoorGuA
import Derived.Test.YtdcdbcccchadfaaGreatDoorRest0
set_option maxHeartbeats 4000000
set_option linter.unusedVariables false
set_option linter.unusedSimpArgs false
set_option maxRecDepth 100000
namespace Go.Proofs.YtdcdbcccchadfaaGreatDoor
open Go.RowKit
attribute [local go_sem ↓] Go.wp_at_zero Go.wp_at_succ
theorem rest20_nf1 (f ah al bh bl : Int)
    (h0 : Hid (∀ w, FTab w → Ca 13 #[.int .u8 f] w (.bool false)))
    (h3 : Hid (∀ w, FTab w → Ca 12 #[] w (.bool true))) (w : World) (ft : FTab w) :
    Ca 4 #[.int .u8 f, U2 ah al, U2 bh bl, .bool true] w (.bool true) := by
  simp only [Ca, U2] at *
  go_enter Tryz.func4, Tryz.ntmps4
  go_wp2_with fail
  refine vM (h0.out _ (ft.later (bA (bA (bA bR _) _) _))) fun w1 b1 => ?_
  go_wp2_with fail
  refine vM (h3.out _ (ft.later (bC (bA (bA (bA bR _) _) _) b1))) fun w2 b2 => ?_
  go_wp2_with fail
  go_ret
  exact ⟨rfl, (bC (bC (bA (bA (bA bR _) _) _) b1) b2)⟩
theorem rest20_na1 (f ah al bh bl : Int)
    (h0 : Hid (∀ w, FTab w → Ca 13 #[.int .u8 f] w (.bool true)))
    (h1 : Hid (∀ w, FTab w → Ca 14 #[.int .u8 f, U2 ah al] w (.bool false)))
    (h3 : Hid (∀ w, FTab w → Ca 12 #[] w (.bool true))) (w : World) (ft : FTab w) :
    Ca 4 #[.int .u8 f, U2 ah al, U2 bh bl, .bool true] w (.bool true) := by
  simp only [Ca, U2] at *
  go_enter Tryz.func4, Tryz.ntmps4
  go_wp2_with fail
  refine vM (h0.out _ (ft.later (bA (bA (bA bR _) _) _))) fun w1 b1 => ?_
  have X0 := (((HB.newAt (b := w.heap.size) (by simp) _ _).alloc _).alloc _).later b1
  have oX0 := X0.o
  go_wp2_with fail
  refine vM (h1.out _ (ft.later (bC (bA (bA (bA bR _) _) _) b1))) fun w2 b2 => ?_
  clear oX0
  go_wp2_with fail
  refine vM (h3.out _ (ft.later (bC (bC (bA (bA (bA bR _) _) _) b1) b2))) fun w3 b3 => ?_
  go_wp2_with fail
  go_ret
  exact ⟨rfl, (bC (bC (bC (bA (bA (bA bR _) _) _) b1) b2) b3)⟩
theorem rest20_nb1 (f ah al bh bl : Int)
    (h0 : Hid (∀ w, FTab w → Ca 13 #[.int .u8 f] w (.bool true)))
    (h1 : Hid (∀ w, FTab w → Ca 14 #[.int .u8 f, U2 ah al] w (.bool true)))
    (h2 : Hid (∀ w, FTab w → Ca 14 #[.int .u8 f, U2 bh bl] w (.bool false)))
    (h3 : Hid (∀ w, FTab w → Ca 12 #[] w (.bool true))) (w : World) (ft : FTab w) :
    Ca 4 #[.int .u8 f, U2 ah al, U2 bh bl, .bool true] w (.bool true) := by
  simp only [Ca, U2] at *
  go_enter Tryz.func4, Tryz.ntmps4
  go_wp2_with fail
  refine vM (h0.out _ (ft.later (bA (bA (bA bR _) _) _))) fun w1 b1 => ?_
  have X0 := (((HB.newAt (b := w.heap.size) (by simp) _ _).alloc _).alloc _).later b1
  have X1 := ((HB.newAt (b := w.heap.size + 1) (by simp) _ _).alloc _).later b1
  have oX0 := X0.o
  go_wp2_with fail
  refine vM (h1.out _ (ft.later (bC (bA (bA (bA bR _) _) _) b1))) fun w2 b2 => ?_
  clear oX0
  replace X1 := X1.later b2
  have oX1 := X1.o
  go_wp2_with fail
  refine vM (h2.out _ (ft.later (bC (bC (bA (bA (bA bR _) _) _) b1) b2))) fun w3 b3 => ?_
  clear oX1
  go_wp2_with fail
  refine vM (h3.out _ (ft.later (bC (bC (bC (bA (bA (bA bR _) _) _) b1) b2) b3))) fun w4 b4 => ?_
  go_wp2_with fail
  go_ret
  exact ⟨rfl, (bC (bC (bC (bC (bA (bA (bA bR _) _) _) b1) b2) b3) b4)⟩
theorem rest20_main1 (f ah al bh bl ca cb ea eb xh xl yh yl ph pl pf pr em s1 t1 t2 k qh ql rh rl : Int) (sa sb kn zz : Bool)
    (h0 : Hid (∀ w, FTab w → Ca 13 #[.int .u8 f] w (.bool true)))
    (h1 : Hid (∀ w, FTab w → Ca 14 #[.int .u8 f, U2 ah al] w (.bool true)))
    (h2 : Hid (∀ w, FTab w → Ca 14 #[.int .u8 f, U2 bh bl] w (.bool true)))
    (h3 : Hid (∀ w, FTab w → Ca 15 #[.int .u8 f, U2 ah al] w (.agg #[.bool sa, .int .u8 ca, .int .i64 ea, .int .u64 xh, .int .u64 xl])))
    (h4 : Hid (∀ w, FTab w → Ca 15 #[.int .u8 f, U2 bh bl] w (.agg #[.bool sb, .int .u8 cb, .int .i64 eb, .int .u64 yh, .int .u64 yl])))
    (h5 : Hid (∀ w, FTab w → Ca 16 #[.int .u8 f, .agg #[.int .u8 1, .bool false], U2 ah al, U2 bh bl] w (.agg #[.int .u64 ph, .int .u64 pl, .int .u8 pf])))
    (HH : (Hid (∀ w, FTab w → Ca 14 #[.int .u8 f, U2 ph pl] w (.bool false)) ∧ Hid (∀ w, FTab w → Ca 12 #[] w (.bool true))) ∨ (((ca == 0) = true) ∧ Hid (∀ w, FTab w → Ca 14 #[.int .u8 f, U2 ph pl] w (.bool true)) ∧ Hid (∀ w, FTab w → Ca 12 #[] w (.bool true))) ∨ (((ca == 0) = false) ∧ ((cb == 0) = true) ∧ Hid (∀ w, FTab w → Ca 14 #[.int .u8 f, U2 ph pl] w (.bool true)) ∧ Hid (∀ w, FTab w → Ca 12 #[] w (.bool true))) ∨ (((ca == 0) = false) ∧ ((cb == 0) = false) ∧ (decide (s1 < t2) = true) ∧ (IntKind.i64.wrap (ea + eb) = s1) ∧ (wrap64 (ea + eb) = s1) ∧ (IntKind.i64.wrap (2 * pr) = t1) ∧ (wrap64 (2 * pr) = t1) ∧ (IntKind.i64.wrap (t1 - em) = t2) ∧ (wrap64 (t1 - em) = t2) ∧ Hid (∀ w, FTab w → Ca 14 #[.int .u8 f, U2 ph pl] w (.bool true)) ∧ Hid (∀ w, FTab w → Ca 17 #[.int .u8 f] w (.int .i64 pr)) ∧ Hid (∀ w, FTab w → Ca 18 #[.int .u8 f] w (.int .i64 em)) ∧ Hid (∀ w, FTab w → Ca 12 #[] w (.bool true))) ∨ (((ca == 0) = false) ∧ ((cb == 0) = false) ∧ (decide (s1 < t2) = false) ∧ ((k == 0) = zz) ∧ ((pf == 0) = zz) ∧ (IntKind.i64.wrap (ea + eb) = s1) ∧ (wrap64 (ea + eb) = s1) ∧ (IntKind.i64.wrap (2 * pr) = t1) ∧ (wrap64 (2 * pr) = t1) ∧ (IntKind.i64.wrap (t1 - em) = t2) ∧ (wrap64 (t1 - em) = t2) ∧ Hid (∀ w, FTab w → Ca 14 #[.int .u8 f, U2 ph pl] w (.bool true)) ∧ Hid (∀ w, FTab w → Ca 17 #[.int .u8 f] w (.int .i64 pr)) ∧ Hid (∀ w, FTab w → Ca 18 #[.int .u8 f] w (.int .i64 em)) ∧ Hid (∀ w, FTab w → Ca 19 #[.int .u8 f, U2 ph pl] w (U2 qh ql)) ∧ Hid (∀ w, FTab w → Ca 10 #[.int .u8 f, .agg #[.int .u8 1, .bool false], U2 ah al, U2 bh bl, U2 qh ql] w (.agg #[.int .u64 rh, .int .u64 rl, .int .u8 0])) ∧ Hid (∀ w, FTab w → Ca 20 #[.int .u8 f, U2 rh rl] w (.tuple #[.int .u8 k, .bool kn])) ∧ Hid (∀ w, FTab w → Ca 12 #[] w (.bool true)))) (w : World) (ft : FTab w) :
    Ca 4 #[.int .u8 f, U2 ah al, U2 bh bl, .bool true] w (.bool true) := by
  simp only [Ca, U2] at *
  go_enter Tryz.func4, Tryz.ntmps4
  go_wp2_with fail
  refine vM (h0.out _ (ft.later (bA (bA (bA bR _) _) _))) fun w1 b1 => ?_
  have X0 := (((HB.newAt (b := w.heap.size) (by simp) _ _).alloc _).alloc _).later b1
  have X1 := ((HB.newAt (b := w.heap.size + 1) (by simp) _ _).alloc _).later b1
  have X2 := (HB.newAt (b := w.heap.size + 1 + 1) (by simp) _ _).later b1
  have oX0 := X0.o
  go_wp2_with fail
  refine vM (h1.out _ (ft.later (bC (bA (bA (bA bR _) _) _) b1))) fun w2 b2 => ?_
  clear oX0
  replace X1 := X1.later b2
  have oX1 := X1.o
  go_wp2_with fail
  refine vM (h2.out _ (ft.later (bC (bC (bA (bA (bA bR _) _) _) b1) b2))) fun w3 b3 => ?_
  clear oX1
  go_wp2_with fail
  replace X0 := X0.later (bC b2 b3)
  replace X1 := X1.later b3
  refine vR [] fun w4 kz4 S => ?_
  refine vT 0 S ?_
  refine vT 1 S ?_ (hy := by intro wq hb; have q := (hb.hb X0 (by simp)).o; go_simp; try (with_reducible rfl))
  refine vT 3 S ?_
  refine vT 4 S ?_ (hy := by intro wq hb; have q := (hb.hb X1 (by simp)).o; go_simp; try (with_reducible rfl))
  refine vY3 (cC 2 S (h3.out _ (ft.later (bC (bC (bC (bC (bA (bA (bA bR _) _) _) b1) b2) b3) kz4))) fun w5 b5 => ?_) (cA 6 S fun w6 pp3_0 h X3 b6 => ?_) (cA 7 S fun w7 pp3_1 h X4 b7 => ?_)
  replace kz4 := bC kz4 b5
  clear S b5 w4
  revert kz4; revert w5
  refine ?s4_0; rotate_left
  have jX3 := (lZ kz4.size h); replace kz4 := bC kz4 b6
  clear S b6 h w4
  revert kz4; revert jX3; revert X3; revert pp3_0; revert w6
  refine ?s4_1; rotate_left
  have jX4 := (lZ kz4.size h); replace kz4 := bC kz4 b7
  clear S b7 h w4
  revert kz4; revert jX4; revert X4; revert pp3_1; revert w7
  refine ?s4_2; rotate_left
  intro w8 kz4
  have S := Off.ofB kz4
  refine vY3 (cC 5 S (h4.out _ (ft.later (bC (bC (bC (bC (bA (bA (bA bR _) _) _) b1) b2) b3) kz4))) fun w9 b9 => ?_) (cA 6 S fun w10 pp3_0 h X3 b10 => ?_) (cA 7 S fun w11 pp3_1 h X4 b11 => ?_)
  replace kz4 := bC kz4 b9
  clear S b9 w8
  revert kz4; revert w9
  refine ?s4_3; rotate_left
  have jX3 := (lZ kz4.size h); replace kz4 := bC kz4 b10
  clear S b10 h w8
  revert kz4; revert jX3; revert X3; revert pp3_0; revert w10
  refine ?s4_4; rotate_left
  have jX4 := (lZ kz4.size h); replace kz4 := bC kz4 b11
  clear S b11 h w8
  revert kz4; revert jX4; revert X4; revert pp3_1; revert w11
  refine ?s4_5; rotate_left
  intro w12 pp3_0 X3 jX3 kz4
  have S := Off.ofB kz4
  refine vY2 (cC 2 S (h3.out _ (ft.later (bC (bC (bC (bC (bA (bA (bA bR _) _) _) b1) b2) b3) kz4))) fun w13 b13 => ?s4_4 w13 pp3_0 (X3.later b13) jX3 (bC kz4 b13)) (cA 7 S fun w14 pp3_1 h X4 b14 => ?_)
  have ndX3_X4 : ¬ (pp3_0 = pp3_1) := (Nat.ne_of_lt (lY X3.lt h)); have jX4 := (lZ kz4.size h); replace X3 := (X3.later b14); replace kz4 := bC kz4 b14
  clear S b14 h w12
  revert kz4; revert ndX3_X4; revert jX4; revert jX3; revert X4; revert X3; revert pp3_1; revert pp3_0; revert w14
  refine ?s4_6; rotate_left
  intro w15 pp3_1 X4 jX4 kz4
  have S := Off.ofB kz4
  refine vY2 (cC 2 S (h3.out _ (ft.later (bC (bC (bC (bC (bA (bA (bA bR _) _) _) b1) b2) b3) kz4))) fun w16 b16 => ?s4_5 w16 pp3_1 (X4.later b16) jX4 (bC kz4 b16)) (cA 6 S fun w17 pp3_0 h X3 b17 => ?s4_6 w17 pp3_0 pp3_1 X3 (X4.later b17) (lZ kz4.size h) jX4 (Nat.ne_of_gt (lY X4.lt h)) (bC kz4 b17))
  intro w18 kz4
  have S := Off.ofB kz4
  refine vY2 (cA 6 S fun w19 pp3_0 h X3 b19 => ?_) (cA 7 S fun w20 pp3_1 h X4 b20 => ?_)
  have jX3 := (lZ kz4.size h); replace kz4 := bC kz4 b19
  clear S b19 h w18
  revert kz4; revert jX3; revert X3; revert pp3_0; revert w19
  refine ?s4_7; rotate_left
  have jX4 := (lZ kz4.size h); replace kz4 := bC kz4 b20
  clear S b20 h w18
  revert kz4; revert jX4; revert X4; revert pp3_1; revert w20
  refine ?s4_8; rotate_left
  intro w21 pp3_0 X3 jX3 kz4
  have S := Off.ofB kz4
  refine vY2 (cC 5 S (h4.out _ (ft.later (bC (bC (bC (bC (bA (bA (bA bR _) _) _) b1) b2) b3) kz4))) fun w22 b22 => ?s4_7 w22 pp3_0 (X3.later b22) jX3 (bC kz4 b22)) (cA 7 S fun w23 pp3_1 h X4 b23 => ?_)
  have ndX3_X4 : ¬ (pp3_0 = pp3_1) := (Nat.ne_of_lt (lY X3.lt h)); have jX4 := (lZ kz4.size h); replace X3 := (X3.later b23); replace kz4 := bC kz4 b23
  clear S b23 h w21
  revert kz4; revert ndX3_X4; revert jX4; revert jX3; revert X4; revert X3; revert pp3_1; revert pp3_0; revert w23
  refine ?s4_9; rotate_left
  intro w24 pp3_1 X4 jX4 kz4
  have S := Off.ofB kz4
  refine vY2 (cC 5 S (h4.out _ (ft.later (bC (bC (bC (bC (bA (bA (bA bR _) _) _) b1) b2) b3) kz4))) fun w25 b25 => ?s4_8 w25 pp3_1 (X4.later b25) jX4 (bC kz4 b25)) (cA 6 S fun w26 pp3_0 h X3 b26 => ?s4_9 w26 pp3_0 pp3_1 X3 (X4.later b26) (lZ kz4.size h) jX4 (Nat.ne_of_gt (lY X4.lt h)) (bC kz4 b26))
  intro w27 pp3_0 pp3_1 X3 X4 jX3 jX4 ndX3_X4 kz4
  have S := Off.ofB kz4
  refine vY1 (cC 2 S (h3.out _ (ft.later (bC (bC (bC (bC (bA (bA (bA bR _) _) _) b1) b2) b3) kz4))) fun w28 b28 => ?s4_9 w28 pp3_0 pp3_1 (X3.later b28) (X4.later b28) jX3 jX4 ndX3_X4 (bC kz4 b28))
  intro w29 pp3_0 X3 jX3 kz4
  have S := Off.ofB kz4
  refine vY1 (cA 7 S fun w30 pp3_1 h X4 b30 => ?_)
  have ndX3_X4 : ¬ (pp3_0 = pp3_1) := (Nat.ne_of_lt (lY X3.lt h)); have jX4 := (lZ kz4.size h); replace X3 := (X3.later b30); replace kz4 := bC kz4 b30
  clear S b30 h w29
  revert kz4; revert ndX3_X4; revert jX4; revert jX3; revert X4; revert X3; revert pp3_1; revert pp3_0; revert w30
  refine ?s4_10; rotate_left
  intro w31 pp3_1 X4 jX4 kz4
  have S := Off.ofB kz4
  refine vY1 (cA 6 S fun w32 pp3_0 h X3 b32 => ?s4_10 w32 pp3_0 pp3_1 X3 (X4.later b32) (lZ kz4.size h) jX4 (Nat.ne_of_gt (lY X4.lt h)) (bC kz4 b32))
  intro w33 pp3_0 pp3_1 X3 X4 jX3 jX4 ndX3_X4 kz4
  have S := Off.ofB kz4
  refine vY1 (cC 5 S (h4.out _ (ft.later (bC (bC (bC (bC (bA (bA (bA bR _) _) _) b1) b2) b3) kz4))) fun w34 b34 => ?s4_10 w34 pp3_0 pp3_1 (X3.later b34) (X4.later b34) jX3 jX4 ndX3_X4 (bC kz4 b34))
  intro w35 pp3_0 pp3_1 X3 X4 jX3 jX4 ndX3_X4 kz4
  have S := Off.ofB kz4
  refine vY1 (vO 8 fun K hK => ?_)
  have q := X3.o; have mX4 : ¬ (pp3_1 = pp3_0) := (by omega)
  go_simp
  refine vW (fun W => HB W pp3_0 39 #[.bool sa, .int .u8 ca, .int .i64 ea, .int .u64 xh, .int .u64 xl] ∧ HB W pp3_1 39 #[.bool false, .int .u8 0, .int .i64 0, .int .u64 0, .int .u64 0] ∧ Below w3.heap.size w3 W) ⟨(((((X3.set 0 _).set 1 _).set 2 _).set 3 _).set 4 _), (((((X4.other mX4 0 _).other mX4 1 _).other mX4 2 _).other mX4 3 _).other mX4 4 _), (((((kz4.setCell (p := ⟨pp3_0, 0, none⟩) jX3 _).setCell (p := ⟨pp3_0, 1, none⟩) jX3 _).setCell (p := ⟨pp3_0, 2, none⟩) jX3 _).setCell (p := ⟨pp3_0, 3, none⟩) jX3 _).setCell (p := ⟨pp3_0, 4, none⟩) jX3 _)⟩ fun w37 hz => ?_
  clear q mX4 X3 X4 S kz4 w35; obtain ⟨X3, X4, kz4⟩ := hz
  refine hK.out _ _ (Off.ofB kz4) fun S => ?_; clear hK K S; refine vP ?_
  revert kz4; revert ndX3_X4; revert jX4; revert jX3; revert X4; revert X3; revert pp3_1; revert pp3_0; revert w37
  refine ?s4_11; rotate_left
  intro w38 pp3_0 pp3_1 X3 X4 jX3 jX4 ndX3_X4 kz4
  have S := Off.ofB kz4
  refine vY1 (vO 9 fun K hK => ?_)
  have q := X4.o; have mX3 : ¬ (pp3_0 = pp3_1) := (by omega)
  go_simp
  refine vW (fun W => HB W pp3_0 39 #[.bool sa, .int .u8 ca, .int .i64 ea, .int .u64 xh, .int .u64 xl] ∧ HB W pp3_1 39 #[.bool sb, .int .u8 cb, .int .i64 eb, .int .u64 yh, .int .u64 yl] ∧ Below w3.heap.size w3 W) ⟨(((((X3.other mX3 0 _).other mX3 1 _).other mX3 2 _).other mX3 3 _).other mX3 4 _), (((((X4.set 0 _).set 1 _).set 2 _).set 3 _).set 4 _), (((((kz4.setCell (p := ⟨pp3_1, 0, none⟩) jX4 _).setCell (p := ⟨pp3_1, 1, none⟩) jX4 _).setCell (p := ⟨pp3_1, 2, none⟩) jX4 _).setCell (p := ⟨pp3_1, 3, none⟩) jX4 _).setCell (p := ⟨pp3_1, 4, none⟩) jX4 _)⟩ fun w40 hz => ?_
  clear q mX3 X3 X4 S kz4 w38; obtain ⟨X3, X4, kz4⟩ := hz
  refine hK.out _ _ (Off.ofB kz4) fun S => ?_; clear hK K S; refine vP ?_
  revert kz4; revert ndX3_X4; revert jX4; revert jX3; revert X4; revert X3; revert pp3_1; revert pp3_0; revert w40
  refine ?s4_12; rotate_left
  intro w41 pp3_0 pp3_1 X3 X4 jX3 jX4 ndX3_X4 kz4
  refine vD ?_
  have nX0_X3 : w.heap.size < pp3_0 := by have := X0.lt; omega
  have nX0_X4 : w.heap.size < pp3_1 := by have := X0.lt; omega
  have nX1_X3 : w.heap.size + 1 < pp3_0 := by have := X1.lt; omega
  have nX1_X4 : w.heap.size + 1 < pp3_1 := by have := X1.lt; omega
  replace X2 := X2.later (bC b2 b3)
  have nX2_X3 : w.heap.size + 1 + 1 < pp3_0 := by have := X2.lt; omega
  have nX2_X4 : w.heap.size + 1 + 1 < pp3_1 := by have := X2.lt; omega
  have gX3 : w.heap.size ≤ pp3_0 := by have := (bC (bC (bC (bA (bA (bA bR _) _) _) b1) b2) b3).size; omega
  have gX4 : w.heap.size ≤ pp3_1 := by have := (bC (bC (bC (bA (bA (bA bR _) _) _) b1) b2) b3).size; omega
  replace X2 := X2.later kz4
  have oX2 := X2.o
  replace X0 := X0.later kz4
  have oX0 := X0.o
  replace X1 := X1.later kz4
  have oX1 := X1.o
  go_wp2_with fail
  refine vM (h5.out _ (ft.later (bC (bC (bC (bC (bA (bA (bA bR _) _) _) b1) b2) b3) kz4))) fun w42 b42 => ?_
  clear oX2 oX0 oX1
  rcases HH with ⟨h6, h9⟩ | ⟨g1, h6, h9⟩ | ⟨g1, g2, h6, h9⟩ | ⟨g1, g2, g3, q1, q1x, q2, q2x, q3, q3x, h6, h7, h8, h9⟩ | ⟨g1, g2, g3, g4, g5, q1, q1x, q2, q2x, q3, q3x, h6, h7, h8, h9, h10, h11, h12⟩
  · go_wp2_with fail
    replace X3 := X3.later b42
    have nX3_X5 : pp3_0 < w42.heap.size := by have := X3.lt; omega
    replace X4 := X4.later b42
    have nX4_X5 : pp3_1 < w42.heap.size := by have := X4.lt; omega
    refine vF1 fun w43 b43 X5 => ?_
    refine vR [] fun w44 b44 S44 => ?_
    refine vT 0 S44 ?_
    refine vT 1 S44 ?_
    refine vT 2 S44 ?_ (hy := by intro wq hb; have q := (hb.hb X5 (by simp)).o; go_simp; try (with_reducible rfl))
    refine vY1 (vC 3 S44 (h6.out _ (ft.later (bC (bC (bC (bC (bC (bC (bC (bA (bA (bA bR _) _) _) b1) b2) b3) kz4) b42) b43) b44))) (fun _ _ => Off.later) fun w45 b45 S45 => ?_)
    refine vT 4 S45 ?_
    refine vT 5 S45 ?_
    refine vN 6 S45 ?_
    refine vN 7 S45 ?_
    refine vN 8 S45 ?_
    refine vT 9 S45 ?_
    refine vT 10 S45 ?_
    refine vN 11 S45 ?_
    refine vN 12 S45 ?_
    refine vN 13 S45 ?_
    refine vT 14 S45 ?_
    refine vT 15 S45 ?_
    refine vN 16 S45 ?_
    refine vN 17 S45 ?_
    refine vN 18 S45 ?_
    refine vN 19 S45 ?_
    refine vN 20 S45 ?_
    refine vN 21 S45 ?_
    refine vN 22 S45 ?_
    refine vN 23 S45 ?_
    refine vN 24 S45 ?_
    refine vN 25 S45 ?_
    refine vN 26 S45 ?_
    refine vN 27 S45 ?_
    refine vT 28 S45 ?_
    refine vD ?_
    go_wp2_with fail
    refine vM (h9.out _ (ft.later (bC (bC (bC (bC (bC (bC (bC (bC (bA (bA (bA bR _) _) _) b1) b2) b3) kz4) b42) b43) b44) b45))) fun w46 b46 => ?_
    go_wp2_with fail
    go_ret
    exact ⟨rfl, (bC (bC (bC (bC (bC (bC (bC (bC (bC (bA (bA (bA bR _) _) _) b1) b2) b3) kz4) b42) b43) b44) b45) b46)⟩
  · go_wp2_with fail
    replace X3 := X3.later b42
    have nX3_X5 : pp3_0 < w42.heap.size := by have := X3.lt; omega
    replace X4 := X4.later b42
    have nX4_X5 : pp3_1 < w42.heap.size := by have := X4.lt; omega
    refine vF1 fun w43 b43 X5 => ?_
    replace X3 := X3.later b43
    refine vR [] fun w44 b44 S44 => ?_
    refine vT 0 S44 ?_
    refine vT 1 S44 ?_
    refine vT 2 S44 ?_ (hy := by intro wq hb; have q := (hb.hb X5 (by simp)).o; go_simp; try (with_reducible rfl))
    refine vY1 (vC 3 S44 (h6.out _ (ft.later (bC (bC (bC (bC (bC (bC (bC (bA (bA (bA bR _) _) _) b1) b2) b3) kz4) b42) b43) b44))) (fun _ _ => Off.later) fun w45 b45 S45 => ?_)
    refine vT 4 S45 ?_
    refine vT 5 S45 ?_
    refine vT 6 S45 ?_
    refine vT 7 S45 ?_ (hy := by intro wq hb; have q := (hb.hb X3 (by simp)).o; go_simp; try (with_reducible rfl))
    refine vT 8 S45 ?_
    refine vT 9 S45 ?_
    refine vT 10 S45 ?_
    refine vN 11 S45 ?_
    refine vN 12 S45 ?_
    refine vN 13 S45 ?_
    refine vT 14 S45 ?_
    refine vT 15 S45 ?_
    refine vN 16 S45 ?_
    refine vN 17 S45 ?_
    refine vN 18 S45 ?_
    refine vN 19 S45 ?_
    refine vN 20 S45 ?_
    refine vN 21 S45 ?_
    refine vN 22 S45 ?_
    refine vN 23 S45 ?_
    refine vN 24 S45 ?_
    refine vN 25 S45 ?_
    refine vN 26 S45 ?_
    refine vN 27 S45 ?_
    refine vT 28 S45 ?_
    refine vD ?_
    go_wp2_with fail
    refine vM (h9.out _ (ft.later (bC (bC (bC (bC (bC (bC (bC (bC (bA (bA (bA bR _) _) _) b1) b2) b3) kz4) b42) b43) b44) b45))) fun w46 b46 => ?_
    go_wp2_with fail
    go_ret
    exact ⟨rfl, (bC (bC (bC (bC (bC (bC (bC (bC (bC (bA (bA (bA bR _) _) _) b1) b2) b3) kz4) b42) b43) b44) b45) b46)⟩
  · go_wp2_with fail
    replace X3 := X3.later b42
    have nX3_X5 : pp3_0 < w42.heap.size := by have := X3.lt; omega
    replace X4 := X4.later b42
    have nX4_X5 : pp3_1 < w42.heap.size := by have := X4.lt; omega
    refine vF1 fun w43 b43 X5 => ?_
    replace X3 := X3.later b43
    replace X4 := X4.later b43
    refine vR [] fun w44 b44 S44 => ?_
    refine vT 0 S44 ?_
    refine vT 1 S44 ?_
    refine vT 2 S44 ?_ (hy := by intro wq hb; have q := (hb.hb X5 (by simp)).o; go_simp; try (with_reducible rfl))
    refine vY1 (vC 3 S44 (h6.out _ (ft.later (bC (bC (bC (bC (bC (bC (bC (bA (bA (bA bR _) _) _) b1) b2) b3) kz4) b42) b43) b44))) (fun _ _ => Off.later) fun w45 b45 S45 => ?_)
    refine vT 4 S45 ?_
    refine vT 5 S45 ?_
    refine vT 6 S45 ?_
    refine vT 7 S45 ?_ (hy := by intro wq hb; have q := (hb.hb X3 (by simp)).o; go_simp; try (with_reducible rfl))
    refine vT 8 S45 ?_
    refine vT 9 S45 ?_
    refine vT 10 S45 ?_
    refine vT 11 S45 ?_
    refine vT 12 S45 ?_ (hy := by intro wq hb; have q := (hb.hb X4 (by simp)).o; go_simp; try (with_reducible rfl))
    refine vT 13 S45 ?_
    refine vT 14 S45 ?_
    refine vT 15 S45 ?_
    refine vN 16 S45 ?_
    refine vN 17 S45 ?_
    refine vN 18 S45 ?_
    refine vN 19 S45 ?_
    refine vN 20 S45 ?_
    refine vN 21 S45 ?_
    refine vN 22 S45 ?_
    refine vN 23 S45 ?_
    refine vN 24 S45 ?_
    refine vN 25 S45 ?_
    refine vN 26 S45 ?_
    refine vN 27 S45 ?_
    refine vT 28 S45 ?_
    refine vD ?_
    go_wp2_with fail
    refine vM (h9.out _ (ft.later (bC (bC (bC (bC (bC (bC (bC (bC (bA (bA (bA bR _) _) _) b1) b2) b3) kz4) b42) b43) b44) b45))) fun w46 b46 => ?_
    go_wp2_with fail
    go_ret
    exact ⟨rfl, (bC (bC (bC (bC (bC (bC (bC (bC (bC (bA (bA (bA bR _) _) _) b1) b2) b3) kz4) b42) b43) b44) b45) b46)⟩
  · go_wp2_with fail
    replace X3 := X3.later b42
    have nX3_X5 : pp3_0 < w42.heap.size := by have := X3.lt; omega
    replace X4 := X4.later b42
    have nX4_X5 : pp3_1 < w42.heap.size := by have := X4.lt; omega
    refine vF1 fun w43 b43 X5 => ?_
    replace X3 := X3.later b43
    replace X4 := X4.later b43
    refine vR [] fun w44 b44 S44 => ?_
    refine vT 0 S44 ?_
    refine vT 1 S44 ?_
    refine vT 2 S44 ?_ (hy := by intro wq hb; have q := (hb.hb X5 (by simp)).o; go_simp; try (with_reducible rfl))
    refine vY1 (vC 3 S44 (h6.out _ (ft.later (bC (bC (bC (bC (bC (bC (bC (bA (bA (bA bR _) _) _) b1) b2) b3) kz4) b42) b43) b44))) (fun _ _ => Off.later) fun w45 b45 S45 => ?_)
    refine vT 4 S45 ?_
    refine vT 5 S45 ?_
    refine vT 6 S45 ?_
    refine vT 7 S45 ?_ (hy := by intro wq hb; have q := (hb.hb X3 (by simp)).o; go_simp; try (with_reducible rfl))
    refine vT 8 S45 ?_
    refine vT 9 S45 ?_
    refine vT 10 S45 ?_
    refine vT 11 S45 ?_
    refine vT 12 S45 ?_ (hy := by intro wq hb; have q := (hb.hb X4 (by simp)).o; go_simp; try (with_reducible rfl))
    refine vT 13 S45 ?_
    refine vT 14 S45 ?_
    refine vT 15 S45 ?_
    refine vT 16 S45 ?_
    refine vT 17 S45 ?_ (hy := by intro wq hb; have q := (hb.hb X3 (by simp)).o; go_simp; try (with_reducible rfl))
    refine vT 18 S45 ?_
    refine vT 19 S45 ?_ (hy := by intro wq hb; have q := (hb.hb X4 (by simp)).o; go_simp; try (with_reducible rfl))
    refine vT 20 S45 ?_
    refine vT 21 S45 ?_
    refine vT 24 S45 ?_
    refine vY1 (vC 22 S45 (h7.out _ (ft.later (bC (bC (bC (bC (bC (bC (bC (bC (bA (bA (bA bR _) _) _) b1) b2) b3) kz4) b42) b43) b44) b45))) (fun _ _ => Off.later) fun w46 b46 S46 => ?_)
    refine vT 23 S46 ?_
    refine vY1 (vC 25 S46 (h8.out _ (ft.later (bC (bC (bC (bC (bC (bC (bC (bC (bC (bA (bA (bA bR _) _) _) b1) b2) b3) kz4) b42) b43) b44) b45) b46))) (fun _ _ => Off.later) fun w47 b47 S47 => ?_)
    refine vT 26 S47 ?_
    refine vT 27 S47 ?_
    refine vT 28 S47 ?_
    refine vD ?_
    go_wp2_with fail
    refine vM (h9.out _ (ft.later (bC (bC (bC (bC (bC (bC (bC (bC (bC (bC (bA (bA (bA bR _) _) _) b1) b2) b3) kz4) b42) b43) b44) b45) b46) b47))) fun w48 b48 => ?_
    go_wp2_with fail
    go_ret
    exact ⟨rfl, (bC (bC (bC (bC (bC (bC (bC (bC (bC (bC (bC (bA (bA (bA bR _) _) _) b1) b2) b3) kz4) b42) b43) b44) b45) b46) b47) b48)⟩
  · go_wp2_with fail
    replace X3 := X3.later b42
    have nX3_X5 : pp3_0 < w42.heap.size := by have := X3.lt; omega
    replace X4 := X4.later b42
    have nX4_X5 : pp3_1 < w42.heap.size := by have := X4.lt; omega
    refine vF1 fun w43 b43 X5 => ?_
    replace X3 := X3.later b43
    replace X4 := X4.later b43
    refine vR [] fun w44 b44 S44 => ?_
    refine vT 0 S44 ?_
    refine vT 1 S44 ?_
    refine vT 2 S44 ?_ (hy := by intro wq hb; have q := (hb.hb X5 (by simp)).o; go_simp; try (with_reducible rfl))
    refine vY1 (vC 3 S44 (h6.out _ (ft.later (bC (bC (bC (bC (bC (bC (bC (bA (bA (bA bR _) _) _) b1) b2) b3) kz4) b42) b43) b44))) (fun _ _ => Off.later) fun w45 b45 S45 => ?_)
    refine vT 4 S45 ?_
    refine vT 5 S45 ?_
    refine vT 6 S45 ?_
    refine vT 7 S45 ?_ (hy := by intro wq hb; have q := (hb.hb X3 (by simp)).o; go_simp; try (with_reducible rfl))
    refine vT 8 S45 ?_
    refine vT 9 S45 ?_
    refine vT 10 S45 ?_
    refine vT 11 S45 ?_
    refine vT 12 S45 ?_ (hy := by intro wq hb; have q := (hb.hb X4 (by simp)).o; go_simp; try (with_reducible rfl))
    refine vT 13 S45 ?_
    refine vT 14 S45 ?_
    refine vT 15 S45 ?_
    refine vT 16 S45 ?_
    refine vT 17 S45 ?_ (hy := by intro wq hb; have q := (hb.hb X3 (by simp)).o; go_simp; try (with_reducible rfl))
    refine vT 18 S45 ?_
    refine vT 19 S45 ?_ (hy := by intro wq hb; have q := (hb.hb X4 (by simp)).o; go_simp; try (with_reducible rfl))
    refine vT 20 S45 ?_
    refine vT 21 S45 ?_
    refine vT 24 S45 ?_
    refine vY1 (vC 22 S45 (h7.out _ (ft.later (bC (bC (bC (bC (bC (bC (bC (bC (bA (bA (bA bR _) _) _) b1) b2) b3) kz4) b42) b43) b44) b45))) (fun _ _ => Off.later) fun w46 b46 S46 => ?_)
    refine vT 23 S46 ?_
    refine vY1 (vC 25 S46 (h8.out _ (ft.later (bC (bC (bC (bC (bC (bC (bC (bC (bC (bA (bA (bA bR _) _) _) b1) b2) b3) kz4) b42) b43) b44) b45) b46))) (fun _ _ => Off.later) fun w47 b47 S47 => ?_)
    refine vT 26 S47 ?_
    refine vT 27 S47 ?_
    refine vT 28 S47 ?_
    refine vD ?_
    go_wp2_with fail
    replace X0 := X0.later (bC (bC (bC (bC (bC b42 b43) b44) b45) b46) b47)
    replace X1 := X1.later (bC (bC (bC (bC (bC b42 b43) b44) b45) b46) b47)
    replace X2 := X2.later (bC (bC (bC (bC (bC b42 b43) b44) b45) b46) b47)
    replace X5 := X5.later (bC (bC (bC b44 b45) b46) b47)
    refine vR [] fun w48 kz48 S => ?_
    refine vT 0 S ?_
    refine vT 1 S ?_ (hy := by intro wq hb; have q := (hb.hb X2 (by simp)).o; go_simp; try (with_reducible rfl))
    refine vT 2 S ?_ (hy := by intro wq hb; have q := (hb.hb X0 (by simp)).o; go_simp; try (with_reducible rfl))
    refine vT 3 S ?_ (hy := by intro wq hb; have q := (hb.hb X1 (by simp)).o; go_simp; try (with_reducible rfl))
    refine vT 4 S ?_
    refine vT 5 S ?_
    refine vT 6 S ?_ (hy := by intro wq hb; have q := (hb.hb X5 (by simp)).o; go_simp; try (with_reducible rfl))
    refine vY2 (cC 7 S (h9.out _ (ft.later (bC (bC (bC (bC (bC (bC (bC (bC (bC (bC (bC (bA (bA (bA bR _) _) _) b1) b2) b3) kz4) b42) b43) b44) b45) b46) b47) kz48))) fun w49 b49 => ?_) (cA 9 S fun w50 pp47_0 h X6 b50 => ?_)
    replace kz48 := bC kz48 b49
    clear S b49 w48
    revert kz48; revert w49
    refine ?s48e_0; rotate_left
    have jX6 := (lZ kz48.size h); replace kz48 := bC kz48 b50
    clear S b50 h w48
    revert kz48; revert jX6; revert X6; revert pp47_0; revert w50
    refine ?s48e_1; rotate_left
    intro w51 kz48
    have S := Off.ofB kz48
    refine vY2 (cC 8 S (h10.out _ (ft.later (bC (bC (bC (bC (bC (bC (bC (bC (bC (bC (bC (bA (bA (bA bR _) _) _) b1) b2) b3) kz4) b42) b43) b44) b45) b46) b47) kz48))) fun w52 b52 => ?_) (cA 9 S fun w53 pp47_0 h X6 b53 => ?_)
    replace kz48 := bC kz48 b52
    clear S b52 w51
    revert kz48; revert w52
    refine ?s48e_2; rotate_left
    have jX6 := (lZ kz48.size h); replace kz48 := bC kz48 b53
    clear S b53 h w51
    revert kz48; revert jX6; revert X6; revert pp47_0; revert w53
    refine ?s48e_3; rotate_left
    intro w54 pp47_0 X6 jX6 kz48
    have S := Off.ofB kz48
    refine vY1 (cC 7 S (h9.out _ (ft.later (bC (bC (bC (bC (bC (bC (bC (bC (bC (bC (bC (bA (bA (bA bR _) _) _) b1) b2) b3) kz4) b42) b43) b44) b45) b46) b47) kz48))) fun w55 b55 => ?s48e_3 w55 pp47_0 (X6.later b55) jX6 (bC kz48 b55))
    intro w56 kz48
    have S := Off.ofB kz48
    refine vY1 (cA 9 S fun w57 pp47_0 h X6 b57 => ?_)
    have jX6 := (lZ kz48.size h); replace kz48 := bC kz48 b57
    clear S b57 h w56
    revert kz48; revert jX6; revert X6; revert pp47_0; revert w57
    refine ?s48e_4; rotate_left
    intro w58 pp47_0 X6 jX6 kz48
    have S := Off.ofB kz48
    refine vY1 (cC 8 S (h10.out _ (ft.later (bC (bC (bC (bC (bC (bC (bC (bC (bC (bC (bC (bA (bA (bA bR _) _) _) b1) b2) b3) kz4) b42) b43) b44) b45) b46) b47) kz48))) fun w59 b59 => ?s48e_4 w59 pp47_0 (X6.later b59) jX6 (bC kz48 b59))
    intro w60 pp47_0 X6 jX6 kz48
    have S := Off.ofB kz48
    refine vY1 (vO 10 fun K hK => ?_)
    have q := X6.o
    go_simp
    refine vW (fun W => HB W pp47_0 31 #[.int .u64 rh, .int .u64 rl, .int .u8 0] ∧ Below w47.heap.size w47 W) ⟨(((X6.set 0 _).set 1 _).set 2 _), (((kz48.setCell (p := ⟨pp47_0, 0, none⟩) jX6 _).setCell (p := ⟨pp47_0, 1, none⟩) jX6 _).setCell (p := ⟨pp47_0, 2, none⟩) jX6 _)⟩ fun w62 hz => ?_
    clear q X6 S kz48 w60; obtain ⟨X6, kz48⟩ := hz
    refine hK.out _ _ (Off.ofB kz48) fun S => ?_; clear hK K S; refine vP ?_
    revert kz48; revert jX6; revert X6; revert pp47_0; revert w62
    refine ?s48e_5; rotate_left
    intro w63 pp47_0 X6 jX6 kz48
    refine vD ?_
    have nX5_X6 : w42.heap.size < pp47_0 := by have := X5.lt; omega
    have gX6 : w.heap.size ≤ pp47_0 := by have := (bC (bC (bC (bC (bC (bC (bC (bC (bC (bC (bA (bA (bA bR _) _) _) b1) b2) b3) kz4) b42) b43) b44) b45) b46) b47).size; omega
    have oX6 := X6.o
    go_wp2_with fail
    refine vM (h11.out _ (ft.later (bC (bC (bC (bC (bC (bC (bC (bC (bC (bC (bC (bA (bA (bA bR _) _) _) b1) b2) b3) kz4) b42) b43) b44) b45) b46) b47) kz48))) fun w64 b64 => ?_
    clear oX6
    replace X6 := X6.later b64
    have oX6 := X6.o
    replace X5 := X5.later (bC kz48 b64)
    have oX5 := X5.o
    go_wp2_with fail
    refine vM (h12.out _ (ft.later (bC (bC (bC (bC (bC (bC (bC (bC (bC (bC (bC (bC (bA (bA (bA bR _) _) _) b1) b2) b3) kz4) b42) b43) b44) b45) b46) b47) kz48) b64))) fun w65 b65 => ?_
    clear oX6 oX5
    go_wp2_with fail
    go_ret
    exact ⟨rfl, (bC (bC (bC (bC (bC (bC (bC (bC (bC (bC (bC (bC (bC (bA (bA (bA bR _) _) _) b1) b2) b3) kz4) b42) b43) b44) b45) b46) b47) kz48) b64) b65)⟩
theorem rest20_nf0 (f ah al bh bl : Int)
    (h0 : Hid (∀ w, FTab w → Ca 13 #[.int .u8 f] w (.bool false)))
    (h3 : Hid (∀ w, FTab w → Ca 12 #[] w (.bool true))) (w : World) (ft : FTab w) :
    Ca 4 #[.int .u8 f, U2 ah al, U2 bh bl, .bool false] w (.bool true) := by
  simp only [Ca, U2] at *
  go_enter Tryz.func4, Tryz.ntmps4
  go_wp2_with fail
  refine vM (h0.out _ (ft.later (bA (bA (bA bR _) _) _))) fun w1 b1 => ?_
  go_wp2_with fail
  refine vM (h3.out _ (ft.later (bC (bA (bA (bA bR _) _) _) b1))) fun w2 b2 => ?_
  go_wp2_with fail
  go_ret
  exact ⟨rfl, (bC (bC (bA (bA (bA bR _) _) _) b1) b2)⟩
theorem rest20_na0 (f ah al bh bl : Int)
    (h0 : Hid (∀ w, FTab w → Ca 13 #[.int .u8 f] w (.bool true)))
    (h1 : Hid (∀ w, FTab w → Ca 14 #[.int .u8 f, U2 ah al] w (.bool false)))
    (h3 : Hid (∀ w, FTab w → Ca 12 #[] w (.bool true))) (w : World) (ft : FTab w) :
    Ca 4 #[.int .u8 f, U2 ah al, U2 bh bl, .bool false] w (.bool true) := by
  simp only [Ca, U2] at *
  go_enter Tryz.func4, Tryz.ntmps4
  go_wp2_with fail
  refine vM (h0.out _ (ft.later (bA (bA (bA bR _) _) _))) fun w1 b1 => ?_
  have X0 := (((HB.newAt (b := w.heap.size) (by simp) _ _).alloc _).alloc _).later b1
  have oX0 := X0.o
  go_wp2_with fail
  refine vM (h1.out _ (ft.later (bC (bA (bA (bA bR _) _) _) b1))) fun w2 b2 => ?_
  clear oX0
  go_wp2_with fail
  refine vM (h3.out _ (ft.later (bC (bC (bA (bA (bA bR _) _) _) b1) b2))) fun w3 b3 => ?_
  go_wp2_with fail
  go_ret
  exact ⟨rfl, (bC (bC (bC (bA (bA (bA bR _) _) _) b1) b2) b3)⟩
theorem rest20_nb0 (f ah al bh bl : Int)
    (h0 : Hid (∀ w, FTab w → Ca 13 #[.int .u8 f] w (.bool true)))
    (h1 : Hid (∀ w, FTab w → Ca 14 #[.int .u8 f, U2 ah al] w (.bool true)))
    (h2 : Hid (∀ w, FTab w → Ca 14 #[.int .u8 f, U2 bh bl] w (.bool false)))
    (h3 : Hid (∀ w, FTab w → Ca 12 #[] w (.bool true))) (w : World) (ft : FTab w) :
    Ca 4 #[.int .u8 f, U2 ah al, U2 bh bl, .bool false] w (.bool true) := by
  simp only [Ca, U2] at *
  go_enter Tryz.func4, Tryz.ntmps4
  go_wp2_with fail
  refine vM (h0.out _ (ft.later (bA (bA (bA bR _) _) _))) fun w1 b1 => ?_
  have X0 := (((HB.newAt (b := w.heap.size) (by simp) _ _).alloc _).alloc _).later b1
  have X1 := ((HB.newAt (b := w.heap.size + 1) (by simp) _ _).alloc _).later b1
  have oX0 := X0.o
  go_wp2_with fail
  refine vM (h1.out _ (ft.later (bC (bA (bA (bA bR _) _) _) b1))) fun w2 b2 => ?_
  clear oX0
  replace X1 := X1.later b2
  have oX1 := X1.o
  go_wp2_with fail
  refine vM (h2.out _ (ft.later (bC (bC (bA (bA (bA bR _) _) _) b1) b2))) fun w3 b3 => ?_
  clear oX1
  go_wp2_with fail
  refine vM (h3.out _ (ft.later (bC (bC (bC (bA (bA (bA bR _) _) _) b1) b2) b3))) fun w4 b4 => ?_
  go_wp2_with fail
  go_ret
  exact ⟨rfl, (bC (bC (bC (bC (bA (bA (bA bR _) _) _) b1) b2) b3) b4)⟩
theorem rest20_main0 (f ah al bh bl ca cb ea eb xh xl yh yl ph pl pf pr em s1 t1 t2 k qh ql rh rl : Int) (sa sb kn zz : Bool)
    (h0 : Hid (∀ w, FTab w → Ca 13 #[.int .u8 f] w (.bool true)))
    (h1 : Hid (∀ w, FTab w → Ca 14 #[.int .u8 f, U2 ah al] w (.bool true)))
    (h2 : Hid (∀ w, FTab w → Ca 14 #[.int .u8 f, U2 bh bl] w (.bool true)))
    (h3 : Hid (∀ w, FTab w → Ca 15 #[.int .u8 f, U2 ah al] w (.agg #[.bool sa, .int .u8 ca, .int .i64 ea, .int .u64 xh, .int .u64 xl])))
    (h4 : Hid (∀ w, FTab w → Ca 15 #[.int .u8 f, U2 bh bl] w (.agg #[.bool sb, .int .u8 cb, .int .i64 eb, .int .u64 yh, .int .u64 yl])))
    (h5 : Hid (∀ w, FTab w → Ca 16 #[.int .u8 f, .agg #[.int .u8 0, .bool false], U2 ah al, U2 bh bl] w (.agg #[.int .u64 ph, .int .u64 pl, .int .u8 pf])))
    (HH : (Hid (∀ w, FTab w → Ca 14 #[.int .u8 f, U2 ph pl] w (.bool false)) ∧ Hid (∀ w, FTab w → Ca 12 #[] w (.bool true))) ∨ (((ca == 0) = true) ∧ Hid (∀ w, FTab w → Ca 14 #[.int .u8 f, U2 ph pl] w (.bool true)) ∧ Hid (∀ w, FTab w → Ca 12 #[] w (.bool true))) ∨ (((ca == 0) = false) ∧ ((cb == 0) = true) ∧ Hid (∀ w, FTab w → Ca 14 #[.int .u8 f, U2 ph pl] w (.bool true)) ∧ Hid (∀ w, FTab w → Ca 12 #[] w (.bool true))) ∨ (((ca == 0) = false) ∧ ((cb == 0) = false) ∧ (decide (s1 < t2) = true) ∧ (IntKind.i64.wrap (ea + eb) = s1) ∧ (wrap64 (ea + eb) = s1) ∧ (IntKind.i64.wrap (2 * pr) = t1) ∧ (wrap64 (2 * pr) = t1) ∧ (IntKind.i64.wrap (t1 - em) = t2) ∧ (wrap64 (t1 - em) = t2) ∧ Hid (∀ w, FTab w → Ca 14 #[.int .u8 f, U2 ph pl] w (.bool true)) ∧ Hid (∀ w, FTab w → Ca 17 #[.int .u8 f] w (.int .i64 pr)) ∧ Hid (∀ w, FTab w → Ca 18 #[.int .u8 f] w (.int .i64 em)) ∧ Hid (∀ w, FTab w → Ca 12 #[] w (.bool true))) ∨ (((ca == 0) = false) ∧ ((cb == 0) = false) ∧ (decide (s1 < t2) = false) ∧ ((k == 0) = zz) ∧ ((pf == 0) = zz) ∧ (IntKind.i64.wrap (ea + eb) = s1) ∧ (wrap64 (ea + eb) = s1) ∧ (IntKind.i64.wrap (2 * pr) = t1) ∧ (wrap64 (2 * pr) = t1) ∧ (IntKind.i64.wrap (t1 - em) = t2) ∧ (wrap64 (t1 - em) = t2) ∧ Hid (∀ w, FTab w → Ca 14 #[.int .u8 f, U2 ph pl] w (.bool true)) ∧ Hid (∀ w, FTab w → Ca 17 #[.int .u8 f] w (.int .i64 pr)) ∧ Hid (∀ w, FTab w → Ca 18 #[.int .u8 f] w (.int .i64 em)) ∧ Hid (∀ w, FTab w → Ca 19 #[.int .u8 f, U2 ph pl] w (U2 qh ql)) ∧ Hid (∀ w, FTab w → Ca 10 #[.int .u8 f, .agg #[.int .u8 0, .bool false], U2 ah al, U2 bh bl, U2 qh ql] w (.agg #[.int .u64 rh, .int .u64 rl, .int .u8 0])) ∧ Hid (∀ w, FTab w → Ca 20 #[.int .u8 f, U2 rh rl] w (.tuple #[.int .u8 k, .bool kn])) ∧ Hid (∀ w, FTab w → Ca 12 #[] w (.bool true)))) (w : World) (ft : FTab w) :
    Ca 4 #[.int .u8 f, U2 ah al, U2 bh bl, .bool false] w (.bool true) := by
  simp only [Ca, U2] at *
  go_enter Tryz.func4, Tryz.ntmps4
  go_wp2_with fail
  refine vM (h0.out _ (ft.later (bA (bA (bA bR _) _) _))) fun w1 b1 => ?_
  have X0 := (((HB.newAt (b := w.heap.size) (by simp) _ _).alloc _).alloc _).later b1
  have X1 := ((HB.newAt (b := w.heap.size + 1) (by simp) _ _).alloc _).later b1
  have X2 := (HB.newAt (b := w.heap.size + 1 + 1) (by simp) _ _).later b1
  have oX0 := X0.o
  go_wp2_with fail
  refine vM (h1.out _ (ft.later (bC (bA (bA (bA bR _) _) _) b1))) fun w2 b2 => ?_
  clear oX0
  replace X1 := X1.later b2
  have oX1 := X1.o
  go_wp2_with fail
  refine vM (h2.out _ (ft.later (bC (bC (bA (bA (bA bR _) _) _) b1) b2))) fun w3 b3 => ?_
  clear oX1
  go_wp2_with fail
  replace X0 := X0.later (bC b2 b3)
  replace X1 := X1.later b3
  refine vR [] fun w4 kz4 S => ?_
  refine vT 0 S ?_
  refine vT 1 S ?_ (hy := by intro wq hb; have q := (hb.hb X0 (by simp)).o; go_simp; try (with_reducible rfl))
  refine vT 3 S ?_
  refine vT 4 S ?_ (hy := by intro wq hb; have q := (hb.hb X1 (by simp)).o; go_simp; try (with_reducible rfl))
  refine vY3 (cC 2 S (h3.out _ (ft.later (bC (bC (bC (bC (bA (bA (bA bR _) _) _) b1) b2) b3) kz4))) fun w5 b5 => ?_) (cA 6 S fun w6 pp3_0 h X3 b6 => ?_) (cA 7 S fun w7 pp3_1 h X4 b7 => ?_)
  replace kz4 := bC kz4 b5
  clear S b5 w4
  revert kz4; revert w5
  refine ?s4_0; rotate_left
  have jX3 := (lZ kz4.size h); replace kz4 := bC kz4 b6
  clear S b6 h w4
  revert kz4; revert jX3; revert X3; revert pp3_0; revert w6
  refine ?s4_1; rotate_left
  have jX4 := (lZ kz4.size h); replace kz4 := bC kz4 b7
  clear S b7 h w4
  revert kz4; revert jX4; revert X4; revert pp3_1; revert w7
  refine ?s4_2; rotate_left
  intro w8 kz4
  have S := Off.ofB kz4
  refine vY3 (cC 5 S (h4.out _ (ft.later (bC (bC (bC (bC (bA (bA (bA bR _) _) _) b1) b2) b3) kz4))) fun w9 b9 => ?_) (cA 6 S fun w10 pp3_0 h X3 b10 => ?_) (cA 7 S fun w11 pp3_1 h X4 b11 => ?_)
  replace kz4 := bC kz4 b9
  clear S b9 w8
  revert kz4; revert w9
  refine ?s4_3; rotate_left
  have jX3 := (lZ kz4.size h); replace kz4 := bC kz4 b10
  clear S b10 h w8
  revert kz4; revert jX3; revert X3; revert pp3_0; revert w10
  refine ?s4_4; rotate_left
  have jX4 := (lZ kz4.size h); replace kz4 := bC kz4 b11
  clear S b11 h w8
  revert kz4; revert jX4; revert X4; revert pp3_1; revert w11
  refine ?s4_5; rotate_left
  intro w12 pp3_0 X3 jX3 kz4
  have S := Off.ofB kz4
  refine vY2 (cC 2 S (h3.out _ (ft.later (bC (bC (bC (bC (bA (bA (bA bR _) _) _) b1) b2) b3) kz4))) fun w13 b13 => ?s4_4 w13 pp3_0 (X3.later b13) jX3 (bC kz4 b13)) (cA 7 S fun w14 pp3_1 h X4 b14 => ?_)
  have ndX3_X4 : ¬ (pp3_0 = pp3_1) := (Nat.ne_of_lt (lY X3.lt h)); have jX4 := (lZ kz4.size h); replace X3 := (X3.later b14); replace kz4 := bC kz4 b14
  clear S b14 h w12
  revert kz4; revert ndX3_X4; revert jX4; revert jX3; revert X4; revert X3; revert pp3_1; revert pp3_0; revert w14
  refine ?s4_6; rotate_left
  intro w15 pp3_1 X4 jX4 kz4
  have S := Off.ofB kz4
  refine vY2 (cC 2 S (h3.out _ (ft.later (bC (bC (bC (bC (bA (bA (bA bR _) _) _) b1) b2) b3) kz4))) fun w16 b16 => ?s4_5 w16 pp3_1 (X4.later b16) jX4 (bC kz4 b16)) (cA 6 S fun w17 pp3_0 h X3 b17 => ?s4_6 w17 pp3_0 pp3_1 X3 (X4.later b17) (lZ kz4.size h) jX4 (Nat.ne_of_gt (lY X4.lt h)) (bC kz4 b17))
  intro w18 kz4
  have S := Off.ofB kz4
  refine vY2 (cA 6 S fun w19 pp3_0 h X3 b19 => ?_) (cA 7 S fun w20 pp3_1 h X4 b20 => ?_)
  have jX3 := (lZ kz4.size h); replace kz4 := bC kz4 b19
  clear S b19 h w18
  revert kz4; revert jX3; revert X3; revert pp3_0; revert w19
  refine ?s4_7; rotate_left
  have jX4 := (lZ kz4.size h); replace kz4 := bC kz4 b20
  clear S b20 h w18
  revert kz4; revert jX4; revert X4; revert pp3_1; revert w20
  refine ?s4_8; rotate_left
  intro w21 pp3_0 X3 jX3 kz4
  have S := Off.ofB kz4
  refine vY2 (cC 5 S (h4.out _ (ft.later (bC (bC (bC (bC (bA (bA (bA bR _) _) _) b1) b2) b3) kz4))) fun w22 b22 => ?s4_7 w22 pp3_0 (X3.later b22) jX3 (bC kz4 b22)) (cA 7 S fun w23 pp3_1 h X4 b23 => ?_)
  have ndX3_X4 : ¬ (pp3_0 = pp3_1) := (Nat.ne_of_lt (lY X3.lt h)); have jX4 := (lZ kz4.size h); replace X3 := (X3.later b23); replace kz4 := bC kz4 b23
  clear S b23 h w21
  revert kz4; revert ndX3_X4; revert jX4; revert jX3; revert X4; revert X3; revert pp3_1; revert pp3_0; revert w23
  refine ?s4_9; rotate_left
  intro w24 pp3_1 X4 jX4 kz4
  have S := Off.ofB kz4
  refine vY2 (cC 5 S (h4.out _ (ft.later (bC (bC (bC (bC (bA (bA (bA bR _) _) _) b1) b2) b3) kz4))) fun w25 b25 => ?s4_8 w25 pp3_1 (X4.later b25) jX4 (bC kz4 b25)) (cA 6 S fun w26 pp3_0 h X3 b26 => ?s4_9 w26 pp3_0 pp3_1 X3 (X4.later b26) (lZ kz4.size h) jX4 (Nat.ne_of_gt (lY X4.lt h)) (bC kz4 b26))
  intro w27 pp3_0 pp3_1 X3 X4 jX3 jX4 ndX3_X4 kz4
  have S := Off.ofB kz4
  refine vY1 (cC 2 S (h3.out _ (ft.later (bC (bC (bC (bC (bA (bA (bA bR _) _) _) b1) b2) b3) kz4))) fun w28 b28 => ?s4_9 w28 pp3_0 pp3_1 (X3.later b28) (X4.later b28) jX3 jX4 ndX3_X4 (bC kz4 b28))
  intro w29 pp3_0 X3 jX3 kz4
  have S := Off.ofB kz4
  refine vY1 (cA 7 S fun w30 pp3_1 h X4 b30 => ?_)
  have ndX3_X4 : ¬ (pp3_0 = pp3_1) := (Nat.ne_of_lt (lY X3.lt h)); have jX4 := (lZ kz4.size h); replace X3 := (X3.later b30); replace kz4 := bC kz4 b30
  clear S b30 h w29
  revert kz4; revert ndX3_X4; revert jX4; revert jX3; revert X4; revert X3; revert pp3_1; revert pp3_0; revert w30
  refine ?s4_10; rotate_left
  intro w31 pp3_1 X4 jX4 kz4
  have S := Off.ofB kz4
  refine vY1 (cA 6 S fun w32 pp3_0 h X3 b32 => ?s4_10 w32 pp3_0 pp3_1 X3 (X4.later b32) (lZ kz4.size h) jX4 (Nat.ne_of_gt (lY X4.lt h)) (bC kz4 b32))
  intro w33 pp3_0 pp3_1 X3 X4 jX3 jX4 ndX3_X4 kz4
  have S := Off.ofB kz4
  refine vY1 (cC 5 S (h4.out _ (ft.later (bC (bC (bC (bC (bA (bA (bA bR _) _) _) b1) b2) b3) kz4))) fun w34 b34 => ?s4_10 w34 pp3_0 pp3_1 (X3.later b34) (X4.later b34) jX3 jX4 ndX3_X4 (bC kz4 b34))
  intro w35 pp3_0 pp3_1 X3 X4 jX3 jX4 ndX3_X4 kz4
  have S := Off.ofB kz4
  refine vY1 (vO 8 fun K hK => ?_)
  have q := X3.o; have mX4 : ¬ (pp3_1 = pp3_0) := (by omega)
  go_simp
  refine vW (fun W => HB W pp3_0 39 #[.bool sa, .int .u8 ca, .int .i64 ea, .int .u64 xh, .int .u64 xl] ∧ HB W pp3_1 39 #[.bool false, .int .u8 0, .int .i64 0, .int .u64 0, .int .u64 0] ∧ Below w3.heap.size w3 W) ⟨(((((X3.set 0 _).set 1 _).set 2 _).set 3 _).set 4 _), (((((X4.other mX4 0 _).other mX4 1 _).other mX4 2 _).other mX4 3 _).other mX4 4 _), (((((kz4.setCell (p := ⟨pp3_0, 0, none⟩) jX3 _).setCell (p := ⟨pp3_0, 1, none⟩) jX3 _).setCell (p := ⟨pp3_0, 2, none⟩) jX3 _).setCell (p := ⟨pp3_0, 3, none⟩) jX3 _).setCell (p := ⟨pp3_0, 4, none⟩) jX3 _)⟩ fun w37 hz => ?_
  clear q mX4 X3 X4 S kz4 w35; obtain ⟨X3, X4, kz4⟩ := hz
  refine hK.out _ _ (Off.ofB kz4) fun S => ?_; clear hK K S; refine vP ?_
  revert kz4; revert ndX3_X4; revert jX4; revert jX3; revert X4; revert X3; revert pp3_1; revert pp3_0; revert w37
  refine ?s4_11; rotate_left
  intro w38 pp3_0 pp3_1 X3 X4 jX3 jX4 ndX3_X4 kz4
  have S := Off.ofB kz4
  refine vY1 (vO 9 fun K hK => ?_)
  have q := X4.o; have mX3 : ¬ (pp3_0 = pp3_1) := (by omega)
  go_simp
  refine vW (fun W => HB W pp3_0 39 #[.bool sa, .int .u8 ca, .int .i64 ea, .int .u64 xh, .int .u64 xl] ∧ HB W pp3_1 39 #[.bool sb, .int .u8 cb, .int .i64 eb, .int .u64 yh, .int .u64 yl] ∧ Below w3.heap.size w3 W) ⟨(((((X3.other mX3 0 _).other mX3 1 _).other mX3 2 _).other mX3 3 _).other mX3 4 _), (((((X4.set 0 _).set 1 _).set 2 _).set 3 _).set 4 _), (((((kz4.setCell (p := ⟨pp3_1, 0, none⟩) jX4 _).setCell (p := ⟨pp3_1, 1, none⟩) jX4 _).setCell (p := ⟨pp3_1, 2, none⟩) jX4 _).setCell (p := ⟨pp3_1, 3, none⟩) jX4 _).setCell (p := ⟨pp3_1, 4, none⟩) jX4 _)⟩ fun w40 hz => ?_
  clear q mX3 X3 X4 S kz4 w38; obtain ⟨X3, X4, kz4⟩ := hz
  refine hK.out _ _ (Off.ofB kz4) fun S => ?_; clear hK K S; refine vP ?_
  revert kz4; revert ndX3_X4; revert jX4; revert jX3; revert X4; revert X3; revert pp3_1; revert pp3_0; revert w40
  refine ?s4_12; rotate_left
  intro w41 pp3_0 pp3_1 X3 X4 jX3 jX4 ndX3_X4 kz4
  refine vD ?_
  have nX0_X3 : w.heap.size < pp3_0 := by have := X0.lt; omega
  have nX0_X4 : w.heap.size < pp3_1 := by have := X0.lt; omega
  have nX1_X3 : w.heap.size + 1 < pp3_0 := by have := X1.lt; omega
  have nX1_X4 : w.heap.size + 1 < pp3_1 := by have := X1.lt; omega
  replace X2 := X2.later (bC b2 b3)
  have nX2_X3 : w.heap.size + 1 + 1 < pp3_0 := by have := X2.lt; omega
  have nX2_X4 : w.heap.size + 1 + 1 < pp3_1 := by have := X2.lt; omega
  have gX3 : w.heap.size ≤ pp3_0 := by have := (bC (bC (bC (bA (bA (bA bR _) _) _) b1) b2) b3).size; omega
  have gX4 : w.heap.size ≤ pp3_1 := by have := (bC (bC (bC (bA (bA (bA bR _) _) _) b1) b2) b3).size; omega
  replace X2 := X2.later kz4
  have oX2 := X2.o
  replace X0 := X0.later kz4
  have oX0 := X0.o
  replace X1 := X1.later kz4
  have oX1 := X1.o
  go_wp2_with fail
  refine vM (h5.out _ (ft.later (bC (bC (bC (bC (bA (bA (bA bR _) _) _) b1) b2) b3) kz4))) fun w42 b42 => ?_
  clear oX2 oX0 oX1
  rcases HH with ⟨h6, h9⟩ | ⟨g1, h6, h9⟩ | ⟨g1, g2, h6, h9⟩ | ⟨g1, g2, g3, q1, q1x, q2, q2x, q3, q3x, h6, h7, h8, h9⟩ | ⟨g1, g2, g3, g4, g5, q1, q1x, q2, q2x, q3, q3x, h6, h7, h8, h9, h10, h11, h12⟩
  · go_wp2_with fail
    replace X3 := X3.later b42
    have nX3_X5 : pp3_0 < w42.heap.size := by have := X3.lt; omega
    replace X4 := X4.later b42
    have nX4_X5 : pp3_1 < w42.heap.size := by have := X4.lt; omega
    refine vF1 fun w43 b43 X5 => ?_
    refine vR [] fun w44 b44 S44 => ?_
    refine vT 0 S44 ?_
    refine vT 1 S44 ?_
    refine vT 2 S44 ?_ (hy := by intro wq hb; have q := (hb.hb X5 (by simp)).o; go_simp; try (with_reducible rfl))
    refine vY1 (vC 3 S44 (h6.out _ (ft.later (bC (bC (bC (bC (bC (bC (bC (bA (bA (bA bR _) _) _) b1) b2) b3) kz4) b42) b43) b44))) (fun _ _ => Off.later) fun w45 b45 S45 => ?_)
    refine vT 4 S45 ?_
    refine vT 5 S45 ?_
    refine vN 6 S45 ?_
    refine vN 7 S45 ?_
    refine vN 8 S45 ?_
    refine vT 9 S45 ?_
    refine vT 10 S45 ?_
    refine vN 11 S45 ?_
    refine vN 12 S45 ?_
    refine vN 13 S45 ?_
    refine vT 14 S45 ?_
    refine vT 15 S45 ?_
    refine vN 16 S45 ?_
    refine vN 17 S45 ?_
    refine vN 18 S45 ?_
    refine vN 19 S45 ?_
    refine vN 20 S45 ?_
    refine vN 21 S45 ?_
    refine vN 22 S45 ?_
    refine vN 23 S45 ?_
    refine vN 24 S45 ?_
    refine vN 25 S45 ?_
    refine vN 26 S45 ?_
    refine vN 27 S45 ?_
    refine vT 28 S45 ?_
    refine vD ?_
    go_wp2_with fail
    refine vM (h9.out _ (ft.later (bC (bC (bC (bC (bC (bC (bC (bC (bA (bA (bA bR _) _) _) b1) b2) b3) kz4) b42) b43) b44) b45))) fun w46 b46 => ?_
    go_wp2_with fail
    go_ret
    exact ⟨rfl, (bC (bC (bC (bC (bC (bC (bC (bC (bC (bA (bA (bA bR _) _) _) b1) b2) b3) kz4) b42) b43) b44) b45) b46)⟩
  · go_wp2_with fail
    replace X3 := X3.later b42
    have nX3_X5 : pp3_0 < w42.heap.size := by have := X3.lt; omega
    replace X4 := X4.later b42
    have nX4_X5 : pp3_1 < w42.heap.size := by have := X4.lt; omega
    refine vF1 fun w43 b43 X5 => ?_
    replace X3 := X3.later b43
    refine vR [] fun w44 b44 S44 => ?_
    refine vT 0 S44 ?_
    refine vT 1 S44 ?_
    refine vT 2 S44 ?_ (hy := by intro wq hb; have q := (hb.hb X5 (by simp)).o; go_simp; try (with_reducible rfl))
    refine vY1 (vC 3 S44 (h6.out _ (ft.later (bC (bC (bC (bC (bC (bC (bC (bA (bA (bA bR _) _) _) b1) b2) b3) kz4) b42) b43) b44))) (fun _ _ => Off.later) fun w45 b45 S45 => ?_)
    refine vT 4 S45 ?_
    refine vT 5 S45 ?_
    refine vT 6 S45 ?_
    refine vT 7 S45 ?_ (hy := by intro wq hb; have q := (hb.hb X3 (by simp)).o; go_simp; try (with_reducible rfl))
    refine vT 8 S45 ?_
    refine vT 9 S45 ?_
    refine vT 10 S45 ?_
    refine vN 11 S45 ?_
    refine vN 12 S45 ?_
    refine vN 13 S45 ?_
    refine vT 14 S45 ?_
    refine vT 15 S45 ?_
    refine vN 16 S45 ?_
    refine vN 17 S45 ?_
    refine vN 18 S45 ?_
    refine vN 19 S45 ?_
    refine vN 20 S45 ?_
    refine vN 21 S45 ?_
    refine vN 22 S45 ?_
    refine vN 23 S45 ?_
    refine vN 24 S45 ?_
    refine vN 25 S45 ?_
    refine vN 26 S45 ?_
    refine vN 27 S45 ?_
    refine vT 28 S45 ?_
    refine vD ?_
    go_wp2_with fail
    refine vM (h9.out _ (ft.later (bC (bC (bC (bC (bC (bC (bC (bC (bA (bA (bA bR _) _) _) b1) b2) b3) kz4) b42) b43) b44) b45))) fun w46 b46 => ?_
    go_wp2_with fail
    go_ret
    exact ⟨rfl, (bC (bC (bC (bC (bC (bC (bC (bC (bC (bA (bA (bA bR _) _) _) b1) b2) b3) kz4) b42) b43) b44) b45) b46)⟩
  · go_wp2_with fail
    replace X3 := X3.later b42
    have nX3_X5 : pp3_0 < w42.heap.size := by have := X3.lt; omega
    replace X4 := X4.later b42
    have nX4_X5 : pp3_1 < w42.heap.size := by have := X4.lt; omega
    refine vF1 fun w43 b43 X5 => ?_
    replace X3 := X3.later b43
    replace X4 := X4.later b43
    refine vR [] fun w44 b44 S44 => ?_
    refine vT 0 S44 ?_
    refine vT 1 S44 ?_
    refine vT 2 S44 ?_ (hy := by intro wq hb; have q := (hb.hb X5 (by simp)).o; go_simp; try (with_reducible rfl))
    refine vY1 (vC 3 S44 (h6.out _ (ft.later (bC (bC (bC (bC (bC (bC (bC (bA (bA (bA bR _) _) _) b1) b2) b3) kz4) b42) b43) b44))) (fun _ _ => Off.later) fun w45 b45 S45 => ?_)
    refine vT 4 S45 ?_
    refine vT 5 S45 ?_
    refine vT 6 S45 ?_
    refine vT 7 S45 ?_ (hy := by intro wq hb; have q := (hb.hb X3 (by simp)).o; go_simp; try (with_reducible rfl))
    refine vT 8 S45 ?_
    refine vT 9 S45 ?_
    refine vT 10 S45 ?_
    refine vT 11 S45 ?_
    refine vT 12 S45 ?_ (hy := by intro wq hb; have q := (hb.hb X4 (by simp)).o; go_simp; try (with_reducible rfl))
    refine vT 13 S45 ?_
    refine vT 14 S45 ?_
    refine vT 15 S45 ?_
    refine vN 16 S45 ?_
    refine vN 17 S45 ?_
    refine vN 18 S45 ?_
    refine vN 19 S45 ?_
    refine vN 20 S45 ?_
    refine vN 21 S45 ?_
    refine vN 22 S45 ?_
    refine vN 23 S45 ?_
    refine vN 24 S45 ?_
    refine vN 25 S45 ?_
    refine vN 26 S45 ?_
    refine vN 27 S45 ?_
    refine vT 28 S45 ?_
    refine vD ?_
    go_wp2_with fail
    refine vM (h9.out _ (ft.later (bC (bC (bC (bC (bC (bC (bC (bC (bA (bA (bA bR _) _) _) b1) b2) b3) kz4) b42) b43) b44) b45))) fun w46 b46 => ?_
    go_wp2_with fail
    go_ret
    exact ⟨rfl, (bC (bC (bC (bC (bC (bC (bC (bC (bC (bA (bA (bA bR _) _) _) b1) b2) b3) kz4) b42) b43) b44) b45) b46)⟩
  · go_wp2_with fail
    replace X3 := X3.later b42
    have nX3_X5 : pp3_0 < w42.heap.size := by have := X3.lt; omega
    replace X4 := X4.later b42
    have nX4_X5 : pp3_1 < w42.heap.size := by have := X4.lt; omega
    refine vF1 fun w43 b43 X5 => ?_
    replace X3 := X3.later b43
    replace X4 := X4.later b43
    refine vR [] fun w44 b44 S44 => ?_
    refine vT 0 S44 ?_
    refine vT 1 S44 ?_
    refine vT 2 S44 ?_ (hy := by intro wq hb; have q := (hb.hb X5 (by simp)).o; go_simp; try (with_reducible rfl))
    refine vY1 (vC 3 S44 (h6.out _ (ft.later (bC (bC (bC (bC (bC (bC (bC (bA (bA (bA bR _) _) _) b1) b2) b3) kz4) b42) b43) b44))) (fun _ _ => Off.later) fun w45 b45 S45 => ?_)
    refine vT 4 S45 ?_
    refine vT 5 S45 ?_
    refine vT 6 S45 ?_
    refine vT 7 S45 ?_ (hy := by intro wq hb; have q := (hb.hb X3 (by simp)).o; go_simp; try (with_reducible rfl))
    refine vT 8 S45 ?_
    refine vT 9 S45 ?_
    refine vT 10 S45 ?_
    refine vT 11 S45 ?_
    refine vT 12 S45 ?_ (hy := by intro wq hb; have q := (hb.hb X4 (by simp)).o; go_simp; try (with_reducible rfl))
    refine vT 13 S45 ?_
    refine vT 14 S45 ?_
    refine vT 15 S45 ?_
    refine vT 16 S45 ?_
    refine vT 17 S45 ?_ (hy := by intro wq hb; have q := (hb.hb X3 (by simp)).o; go_simp; try (with_reducible rfl))
    refine vT 18 S45 ?_
    refine vT 19 S45 ?_ (hy := by intro wq hb; have q := (hb.hb X4 (by simp)).o; go_simp; try (with_reducible rfl))
    refine vT 20 S45 ?_
    refine vT 21 S45 ?_
    refine vT 24 S45 ?_
    refine vY1 (vC 22 S45 (h7.out _ (ft.later (bC (bC (bC (bC (bC (bC (bC (bC (bA (bA (bA bR _) _) _) b1) b2) b3) kz4) b42) b43) b44) b45))) (fun _ _ => Off.later) fun w46 b46 S46 => ?_)
    refine vT 23 S46 ?_
    refine vY1 (vC 25 S46 (h8.out _ (ft.later (bC (bC (bC (bC (bC (bC (bC (bC (bC (bA (bA (bA bR _) _) _) b1) b2) b3) kz4) b42) b43) b44) b45) b46))) (fun _ _ => Off.later) fun w47 b47 S47 => ?_)
    refine vT 26 S47 ?_
    refine vT 27 S47 ?_
    refine vT 28 S47 ?_
    refine vD ?_
    go_wp2_with fail
    refine vM (h9.out _ (ft.later (bC (bC (bC (bC (bC (bC (bC (bC (bC (bC (bA (bA (bA bR _) _) _) b1) b2) b3) kz4) b42) b43) b44) b45) b46) b47))) fun w48 b48 => ?_
    go_wp2_with fail
    go_ret
    exact ⟨rfl, (bC (bC (bC (bC (bC (bC (bC (bC (bC (bC (bC (bA (bA (bA bR _) _) _) b1) b2) b3) kz4) b42) b43) b44) b45) b46) b47) b48)⟩
  · go_wp2_with fail
    replace X3 := X3.later b42
    have nX3_X5 : pp3_0 < w42.heap.size := by have := X3.lt; omega
    replace X4 := X4.later b42
    have nX4_X5 : pp3_1 < w42.heap.size := by have := X4.lt; omega
    refine vF1 fun w43 b43 X5 => ?_
    replace X3 := X3.later b43
    replace X4 := X4.later b43
    refine vR [] fun w44 b44 S44 => ?_
    refine vT 0 S44 ?_
    refine vT 1 S44 ?_
    refine vT 2 S44 ?_ (hy := by intro wq hb; have q := (hb.hb X5 (by simp)).o; go_simp; try (with_reducible rfl))
    refine vY1 (vC 3 S44 (h6.out _ (ft.later (bC (bC (bC (bC (bC (bC (bC (bA (bA (bA bR _) _) _) b1) b2) b3) kz4) b42) b43) b44))) (fun _ _ => Off.later) fun w45 b45 S45 => ?_)
    refine vT 4 S45 ?_
    refine vT 5 S45 ?_
    refine vT 6 S45 ?_
    refine vT 7 S45 ?_ (hy := by intro wq hb; have q := (hb.hb X3 (by simp)).o; go_simp; try (with_reducible rfl))
    refine vT 8 S45 ?_
    refine vT 9 S45 ?_
    refine vT 10 S45 ?_
    refine vT 11 S45 ?_
    refine vT 12 S45 ?_ (hy := by intro wq hb; have q := (hb.hb X4 (by simp)).o; go_simp; try (with_reducible rfl))
    refine vT 13 S45 ?_
    refine vT 14 S45 ?_
    refine vT 15 S45 ?_
    refine vT 16 S45 ?_
    refine vT 17 S45 ?_ (hy := by intro wq hb; have q := (hb.hb X3 (by simp)).o; go_simp; try (with_reducible rfl))
    refine vT 18 S45 ?_
    refine vT 19 S45 ?_ (hy := by intro wq hb; have q := (hb.hb X4 (by simp)).o; go_simp; try (with_reducible rfl))
    refine vT 20 S45 ?_
    refine vT 21 S45 ?_
    refine vT 24 S45 ?_
    refine vY1 (vC 22 S45 (h7.out _ (ft.later (bC (bC (bC (bC (bC (bC (bC (bC (bA (bA (bA bR _) _) _) b1) b2) b3) kz4) b42) b43) b44) b45))) (fun _ _ => Off.later) fun w46 b46 S46 => ?_)
    refine vT 23 S46 ?_
    refine vY1 (vC 25 S46 (h8.out _ (ft.later (bC (bC (bC (bC (bC (bC (bC (bC (bC (bA (bA (bA bR _) _) _) b1) b2) b3) kz4) b42) b43) b44) b45) b46))) (fun _ _ => Off.later) fun w47 b47 S47 => ?_)
    refine vT 26 S47 ?_
    refine vT 27 S47 ?_
    refine vT 28 S47 ?_
    refine vD ?_
    go_wp2_with fail
    replace X0 := X0.later (bC (bC (bC (bC (bC b42 b43) b44) b45) b46) b47)
    replace X1 := X1.later (bC (bC (bC (bC (bC b42 b43) b44) b45) b46) b47)
    replace X2 := X2.later (bC (bC (bC (bC (bC b42 b43) b44) b45) b46) b47)
    replace X5 := X5.later (bC (bC (bC b44 b45) b46) b47)
    refine vR [] fun w48 kz48 S => ?_
    refine vT 0 S ?_
    refine vT 1 S ?_ (hy := by intro wq hb; have q := (hb.hb X2 (by simp)).o; go_simp; try (with_reducible rfl))
    refine vT 2 S ?_ (hy := by intro wq hb; have q := (hb.hb X0 (by simp)).o; go_simp; try (with_reducible rfl))
    refine vT 3 S ?_ (hy := by intro wq hb; have q := (hb.hb X1 (by simp)).o; go_simp; try (with_reducible rfl))
    refine vT 4 S ?_
    refine vT 5 S ?_
    refine vT 6 S ?_ (hy := by intro wq hb; have q := (hb.hb X5 (by simp)).o; go_simp; try (with_reducible rfl))
    refine vY2 (cC 7 S (h9.out _ (ft.later (bC (bC (bC (bC (bC (bC (bC (bC (bC (bC (bC (bA (bA (bA bR _) _) _) b1) b2) b3) kz4) b42) b43) b44) b45) b46) b47) kz48))) fun w49 b49 => ?_) (cA 9 S fun w50 pp47_0 h X6 b50 => ?_)
    replace kz48 := bC kz48 b49
    clear S b49 w48
    revert kz48; revert w49
    refine ?s48e_0; rotate_left
    have jX6 := (lZ kz48.size h); replace kz48 := bC kz48 b50
    clear S b50 h w48
    revert kz48; revert jX6; revert X6; revert pp47_0; revert w50
    refine ?s48e_1; rotate_left
    intro w51 kz48
    have S := Off.ofB kz48
    refine vY2 (cC 8 S (h10.out _ (ft.later (bC (bC (bC (bC (bC (bC (bC (bC (bC (bC (bC (bA (bA (bA bR _) _) _) b1) b2) b3) kz4) b42) b43) b44) b45) b46) b47) kz48))) fun w52 b52 => ?_) (cA 9 S fun w53 pp47_0 h X6 b53 => ?_)
    replace kz48 := bC kz48 b52
    clear S b52 w51
    revert kz48; revert w52
    refine ?s48e_2; rotate_left
    have jX6 := (lZ kz48.size h); replace kz48 := bC kz48 b53
    clear S b53 h w51
    revert kz48; revert jX6; revert X6; revert pp47_0; revert w53
    refine ?s48e_3; rotate_left
    intro w54 pp47_0 X6 jX6 kz48
    have S := Off.ofB kz48
    refine vY1 (cC 7 S (h9.out _ (ft.later (bC (bC (bC (bC (bC (bC (bC (bC (bC (bC (bC (bA (bA (bA bR _) _) _) b1) b2) b3) kz4) b42) b43) b44) b45) b46) b47) kz48))) fun w55 b55 => ?s48e_3 w55 pp47_0 (X6.later b55) jX6 (bC kz48 b55))
    intro w56 kz48
    have S := Off.ofB kz48
    refine vY1 (cA 9 S fun w57 pp47_0 h X6 b57 => ?_)
    have jX6 := (lZ kz48.size h); replace kz48 := bC kz48 b57
    clear S b57 h w56
    revert kz48; revert jX6; revert X6; revert pp47_0; revert w57
    refine ?s48e_4; rotate_left
    intro w58 pp47_0 X6 jX6 kz48
    have S := Off.ofB kz48
    refine vY1 (cC 8 S (h10.out _ (ft.later (bC (bC (bC (bC (bC (bC (bC (bC (bC (bC (bC (bA (bA (bA bR _) _) _) b1) b2) b3) kz4) b42) b43) b44) b45) b46) b47) kz48))) fun w59 b59 => ?s48e_4 w59 pp47_0 (X6.later b59) jX6 (bC kz48 b59))
    intro w60 pp47_0 X6 jX6 kz48
    have S := Off.ofB kz48
    refine vY1 (vO 10 fun K hK => ?_)
    have q := X6.o
    go_simp
    refine vW (fun W => HB W pp47_0 31 #[.int .u64 rh, .int .u64 rl, .int .u8 0] ∧ Below w47.heap.size w47 W) ⟨(((X6.set 0 _).set 1 _).set 2 _), (((kz48.setCell (p := ⟨pp47_0, 0, none⟩) jX6 _).setCell (p := ⟨pp47_0, 1, none⟩) jX6 _).setCell (p := ⟨pp47_0, 2, none⟩) jX6 _)⟩ fun w62 hz => ?_
    clear q X6 S kz48 w60; obtain ⟨X6, kz48⟩ := hz
    refine hK.out _ _ (Off.ofB kz48) fun S => ?_; clear hK K S; refine vP ?_
    revert kz48; revert jX6; revert X6; revert pp47_0; revert w62
    refine ?s48e_5; rotate_left
    intro w63 pp47_0 X6 jX6 kz48
    refine vD ?_
    have nX5_X6 : w42.heap.size < pp47_0 := by have := X5.lt; omega
    have gX6 : w.heap.size ≤ pp47_0 := by have := (bC (bC (bC (bC (bC (bC (bC (bC (bC (bC (bA (bA (bA bR _) _) _) b1) b2) b3) kz4) b42) b43) b44) b45) b46) b47).size; omega
    have oX6 := X6.o
    go_wp2_with fail
    refine vM (h11.out _ (ft.later (bC (bC (bC (bC (bC (bC (bC (bC (bC (bC (bC (bA (bA (bA bR _) _) _) b1) b2) b3) kz4) b42) b43) b44) b45) b46) b47) kz48))) fun w64 b64 => ?_
    clear oX6
    replace X6 := X6.later b64
    have oX6 := X6.o
    replace X5 := X5.later (bC kz48 b64)
    have oX5 := X5.o
    go_wp2_with fail
    refine vM (h12.out _ (ft.later (bC (bC (bC (bC (bC (bC (bC (bC (bC (bC (bC (bC (bA (bA (bA bR _) _) _) b1) b2) b3) kz4) b42) b43) b44) b45) b46) b47) kz48) b64))) fun w65 b65 => ?_
    clear oX6 oX5
    go_wp2_with fail
    go_ret
    exact ⟨rfl, (bC (bC (bC (bC (bC (bC (bC (bC (bC (bC (bC (bC (bC (bA (bA (bA bR _) _) _) b1) b2) b3) kz4) b42) b43) b44) b45) b46) b47) kz48) b64) b65)⟩
end Go.Proofs.YtdcdbcccchadfaaGreatDoor
