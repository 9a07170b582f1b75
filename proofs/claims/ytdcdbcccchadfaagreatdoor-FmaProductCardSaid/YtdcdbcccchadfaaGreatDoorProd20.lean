import Derived.Test.YtdcdbcccchadfaaGreatDoorGwA
import Derived.Test.YtdcdbcccchadfaaGreatDoorGaB
import Derived.Test.YtdcdbcccchadfaaGreatDoorGfA
import Derived.Test.YtdcdbcccchadfaaGreatDoorGhA
import Derived.Test.YtdcdbcccchadfaaGreatDoorGaA
import Derived.Test.YtdcdbcccchadfaaGreatDoorGuA
import Derived.Test.YtdcdbcccchadfaaGreatDoorRest0
set_option maxHeartbeats 4000000
set_option linter.unusedVariables false
set_option linter.unusedSimpArgs false
set_option maxRecDepth 100000
namespace Go.Proofs.YtdcdbcccchadfaaGreatDoor
open Go.RowKit
attribute [local go_sem ↓] Go.wp_at_zero Go.wp_at_succ
theorem prod20_no1 (f m ah al bh bl zh zl : Int) (t ng : Bool)
    (h0 : Hid (∀ w, FTab w → Ca 16 #[.int .u8 f, .agg #[.int .u8 m, .bool t], U2 ah al, U2 bh bl] w (.agg #[.int .u64 0, .int .u64 0, .int .u8 0])))
    (h1 : Hid (∀ w, FTab w → Ca 23 #[.int .u8 f, .bool ng] w (U2 zh zl)))
    (h2 : Hid (∀ w, FTab w → Ca 10 #[.int .u8 f, .agg #[.int .u8 m, .bool t], U2 ah al, U2 bh bl, U2 zh zl] w (.agg #[.int .u64 0, .int .u64 0, .int .u8 0])))
    (h3 : Hid (∀ w, FTab w → Ca 13 #[.int .u8 f] w (.bool false)))
    (h5 : Hid (∀ w, FTab w → Ca 12 #[] w (.bool true))) (w : World) (ft : FTab w) :
    Ca 6 #[.int .u8 f, .agg #[.int .u8 m, .bool t], U2 ah al, U2 bh bl, .bool ng] w (.bool true) := by
  simp only [Ca, U2] at *
  go_enter Tryz.func6, Tryz.ntmps6
  go_wp2_with fail
  refine vF3 fun w1 b1 X0 X1 X2 => ?_
  refine vR [] fun w2 kz2 S => ?_
  refine vT 0 S ?_
  refine vT 1 S ?_ (hy := by intro wq hb; have q := (hb.hb X0 (by simp)).o; go_simp; try (with_reducible rfl))
  refine vT 2 S ?_ (hy := by intro wq hb; have q := (hb.hb X1 (by simp)).o; go_simp; try (with_reducible rfl))
  refine vT 3 S ?_ (hy := by intro wq hb; have q := (hb.hb X2 (by simp)).o; go_simp; try (with_reducible rfl))
  refine vT 5 S ?_
  refine vT 6 S ?_ (hy := by intro wq hb; have q := (hb.hb X0 (by simp)).o; go_simp; try (with_reducible rfl))
  refine vT 7 S ?_ (hy := by intro wq hb; have q := (hb.hb X1 (by simp)).o; go_simp; try (with_reducible rfl))
  refine vT 8 S ?_ (hy := by intro wq hb; have q := (hb.hb X2 (by simp)).o; go_simp; try (with_reducible rfl))
  refine vT 9 S ?_
  refine vT 10 S ?_
  refine vY3 (cC 4 S (h0.out _ (ft.later (bC b1 kz2))) fun w3 b3 => ?_) (cA 13 S fun w4 pp1_0 h X3 b4 => ?_) (cA 14 S fun w5 pp1_1 h X4 b5 => ?_)
  replace kz2 := bC kz2 b3
  clear S b3 w2
  revert kz2; revert w3
  refine ?s2_0; rotate_left
  have jX3 := (lZ kz2.size h); replace kz2 := bC kz2 b4
  clear S b4 h w2
  revert kz2; revert jX3; revert X3; revert pp1_0; revert w4
  refine ?s2_1; rotate_left
  have jX4 := (lZ kz2.size h); replace kz2 := bC kz2 b5
  clear S b5 h w2
  revert kz2; revert jX4; revert X4; revert pp1_1; revert w5
  refine ?s2_2; rotate_left
  intro w6 kz2
  have S := Off.ofB kz2
  refine vY3 (cC 11 S (h1.out _ (ft.later (bC b1 kz2))) fun w7 b7 => ?_) (cA 13 S fun w8 pp1_0 h X3 b8 => ?_) (cA 14 S fun w9 pp1_1 h X4 b9 => ?_)
  replace kz2 := bC kz2 b7
  clear S b7 w6
  revert kz2; revert w7
  refine ?s2_3; rotate_left
  have jX3 := (lZ kz2.size h); replace kz2 := bC kz2 b8
  clear S b8 h w6
  revert kz2; revert jX3; revert X3; revert pp1_0; revert w8
  refine ?s2_4; rotate_left
  have jX4 := (lZ kz2.size h); replace kz2 := bC kz2 b9
  clear S b9 h w6
  revert kz2; revert jX4; revert X4; revert pp1_1; revert w9
  refine ?s2_5; rotate_left
  intro w10 pp1_0 X3 jX3 kz2
  have S := Off.ofB kz2
  refine vY2 (cC 4 S (h0.out _ (ft.later (bC b1 kz2))) fun w11 b11 => ?s2_4 w11 pp1_0 (X3.later b11) jX3 (bC kz2 b11)) (cA 14 S fun w12 pp1_1 h X4 b12 => ?_)
  have ndX3_X4 : ¬ (pp1_0 = pp1_1) := (Nat.ne_of_lt (lY X3.lt h)); have jX4 := (lZ kz2.size h); replace X3 := (X3.later b12); replace kz2 := bC kz2 b12
  clear S b12 h w10
  revert kz2; revert ndX3_X4; revert jX4; revert jX3; revert X4; revert X3; revert pp1_1; revert pp1_0; revert w12
  refine ?s2_6; rotate_left
  intro w13 pp1_1 X4 jX4 kz2
  have S := Off.ofB kz2
  refine vY2 (cC 4 S (h0.out _ (ft.later (bC b1 kz2))) fun w14 b14 => ?s2_5 w14 pp1_1 (X4.later b14) jX4 (bC kz2 b14)) (cA 13 S fun w15 pp1_0 h X3 b15 => ?s2_6 w15 pp1_0 pp1_1 X3 (X4.later b15) (lZ kz2.size h) jX4 (Nat.ne_of_gt (lY X4.lt h)) (bC kz2 b15))
  intro w16 kz2
  have S := Off.ofB kz2
  refine vY3 (cC 12 S (h2.out _ (ft.later (bC b1 kz2))) fun w17 b17 => ?_) (cA 13 S fun w18 pp1_0 h X3 b18 => ?_) (cA 14 S fun w19 pp1_1 h X4 b19 => ?_)
  replace kz2 := bC kz2 b17
  clear S b17 w16
  revert kz2; revert w17
  refine ?s2_7; rotate_left
  have jX3 := (lZ kz2.size h); replace kz2 := bC kz2 b18
  clear S b18 h w16
  revert kz2; revert jX3; revert X3; revert pp1_0; revert w18
  refine ?s2_8; rotate_left
  have jX4 := (lZ kz2.size h); replace kz2 := bC kz2 b19
  clear S b19 h w16
  revert kz2; revert jX4; revert X4; revert pp1_1; revert w19
  refine ?s2_9; rotate_left
  intro w20 pp1_0 X3 jX3 kz2
  have S := Off.ofB kz2
  refine vY2 (cC 11 S (h1.out _ (ft.later (bC b1 kz2))) fun w21 b21 => ?s2_8 w21 pp1_0 (X3.later b21) jX3 (bC kz2 b21)) (cA 14 S fun w22 pp1_1 h X4 b22 => ?_)
  have ndX3_X4 : ¬ (pp1_0 = pp1_1) := (Nat.ne_of_lt (lY X3.lt h)); have jX4 := (lZ kz2.size h); replace X3 := (X3.later b22); replace kz2 := bC kz2 b22
  clear S b22 h w20
  revert kz2; revert ndX3_X4; revert jX4; revert jX3; revert X4; revert X3; revert pp1_1; revert pp1_0; revert w22
  refine ?s2_10; rotate_left
  intro w23 pp1_1 X4 jX4 kz2
  have S := Off.ofB kz2
  refine vY2 (cC 11 S (h1.out _ (ft.later (bC b1 kz2))) fun w24 b24 => ?s2_9 w24 pp1_1 (X4.later b24) jX4 (bC kz2 b24)) (cA 13 S fun w25 pp1_0 h X3 b25 => ?s2_10 w25 pp1_0 pp1_1 X3 (X4.later b25) (lZ kz2.size h) jX4 (Nat.ne_of_gt (lY X4.lt h)) (bC kz2 b25))
  intro w26 pp1_0 pp1_1 X3 X4 jX3 jX4 ndX3_X4 kz2
  have S := Off.ofB kz2
  refine vY1 (cC 4 S (h0.out _ (ft.later (bC b1 kz2))) fun w27 b27 => ?s2_10 w27 pp1_0 pp1_1 (X3.later b27) (X4.later b27) jX3 jX4 ndX3_X4 (bC kz2 b27))
  intro w28 kz2
  have S := Off.ofB kz2
  refine vY2 (cA 13 S fun w29 pp1_0 h X3 b29 => ?_) (cA 14 S fun w30 pp1_1 h X4 b30 => ?_)
  have jX3 := (lZ kz2.size h); replace kz2 := bC kz2 b29
  clear S b29 h w28
  revert kz2; revert jX3; revert X3; revert pp1_0; revert w29
  refine ?s2_11; rotate_left
  have jX4 := (lZ kz2.size h); replace kz2 := bC kz2 b30
  clear S b30 h w28
  revert kz2; revert jX4; revert X4; revert pp1_1; revert w30
  refine ?s2_12; rotate_left
  intro w31 pp1_0 X3 jX3 kz2
  have S := Off.ofB kz2
  refine vY2 (cC 12 S (h2.out _ (ft.later (bC b1 kz2))) fun w32 b32 => ?s2_11 w32 pp1_0 (X3.later b32) jX3 (bC kz2 b32)) (cA 14 S fun w33 pp1_1 h X4 b33 => ?_)
  have ndX3_X4 : ¬ (pp1_0 = pp1_1) := (Nat.ne_of_lt (lY X3.lt h)); have jX4 := (lZ kz2.size h); replace X3 := (X3.later b33); replace kz2 := bC kz2 b33
  clear S b33 h w31
  revert kz2; revert ndX3_X4; revert jX4; revert jX3; revert X4; revert X3; revert pp1_1; revert pp1_0; revert w33
  refine ?s2_13; rotate_left
  intro w34 pp1_1 X4 jX4 kz2
  have S := Off.ofB kz2
  refine vY2 (cC 12 S (h2.out _ (ft.later (bC b1 kz2))) fun w35 b35 => ?s2_12 w35 pp1_1 (X4.later b35) jX4 (bC kz2 b35)) (cA 13 S fun w36 pp1_0 h X3 b36 => ?s2_13 w36 pp1_0 pp1_1 X3 (X4.later b36) (lZ kz2.size h) jX4 (Nat.ne_of_gt (lY X4.lt h)) (bC kz2 b36))
  intro w37 pp1_0 pp1_1 X3 X4 jX3 jX4 ndX3_X4 kz2
  have S := Off.ofB kz2
  refine vY1 (cC 11 S (h1.out _ (ft.later (bC b1 kz2))) fun w38 b38 => ?s2_13 w38 pp1_0 pp1_1 (X3.later b38) (X4.later b38) jX3 jX4 ndX3_X4 (bC kz2 b38))
  intro w39 pp1_0 X3 jX3 kz2
  have S := Off.ofB kz2
  refine vY1 (cA 14 S fun w40 pp1_1 h X4 b40 => ?_)
  have ndX3_X4 : ¬ (pp1_0 = pp1_1) := (Nat.ne_of_lt (lY X3.lt h)); have jX4 := (lZ kz2.size h); replace X3 := (X3.later b40); replace kz2 := bC kz2 b40
  clear S b40 h w39
  revert kz2; revert ndX3_X4; revert jX4; revert jX3; revert X4; revert X3; revert pp1_1; revert pp1_0; revert w40
  refine ?s2_14; rotate_left
  intro w41 pp1_1 X4 jX4 kz2
  have S := Off.ofB kz2
  refine vY1 (cA 13 S fun w42 pp1_0 h X3 b42 => ?s2_14 w42 pp1_0 pp1_1 X3 (X4.later b42) (lZ kz2.size h) jX4 (Nat.ne_of_gt (lY X4.lt h)) (bC kz2 b42))
  intro w43 pp1_0 pp1_1 X3 X4 jX3 jX4 ndX3_X4 kz2
  have S := Off.ofB kz2
  refine vY1 (cC 12 S (h2.out _ (ft.later (bC b1 kz2))) fun w44 b44 => ?s2_14 w44 pp1_0 pp1_1 (X3.later b44) (X4.later b44) jX3 jX4 ndX3_X4 (bC kz2 b44))
  intro w45 pp1_0 pp1_1 X3 X4 jX3 jX4 ndX3_X4 kz2
  have S := Off.ofB kz2
  refine vY1 (vO 15 fun K hK => ?_)
  have q := X3.o; have mX4 : ¬ (pp1_1 = pp1_0) := (by omega)
  go_simp
  refine vW (fun W => HB W pp1_0 31 #[.int .u64 0, .int .u64 0, .int .u8 0] ∧ HB W pp1_1 31 #[.int .u64 0, .int .u64 0, .int .u8 0] ∧ Below w1.heap.size w1 W) ⟨(((X3.set 0 _).set 1 _).set 2 _), (((X4.other mX4 0 _).other mX4 1 _).other mX4 2 _), (((kz2.setCell (p := ⟨pp1_0, 0, none⟩) jX3 _).setCell (p := ⟨pp1_0, 1, none⟩) jX3 _).setCell (p := ⟨pp1_0, 2, none⟩) jX3 _)⟩ fun w47 hz => ?_
  clear q mX4 X3 X4 S kz2 w45; obtain ⟨X3, X4, kz2⟩ := hz
  refine hK.out _ _ (Off.ofB kz2) fun S => ?_; clear hK K S; refine vP ?_
  revert kz2; revert ndX3_X4; revert jX4; revert jX3; revert X4; revert X3; revert pp1_1; revert pp1_0; revert w47
  refine ?s2_15; rotate_left
  intro w48 pp1_0 pp1_1 X3 X4 jX3 jX4 ndX3_X4 kz2
  have S := Off.ofB kz2
  refine vY1 (vO 16 fun K hK => ?_)
  have q := X4.o; have mX3 : ¬ (pp1_0 = pp1_1) := (by omega)
  go_simp
  refine vW (fun W => HB W pp1_0 31 #[.int .u64 0, .int .u64 0, .int .u8 0] ∧ HB W pp1_1 31 #[.int .u64 0, .int .u64 0, .int .u8 0] ∧ Below w1.heap.size w1 W) ⟨(((X3.other mX3 0 _).other mX3 1 _).other mX3 2 _), (((X4.set 0 _).set 1 _).set 2 _), (((kz2.setCell (p := ⟨pp1_1, 0, none⟩) jX4 _).setCell (p := ⟨pp1_1, 1, none⟩) jX4 _).setCell (p := ⟨pp1_1, 2, none⟩) jX4 _)⟩ fun w50 hz => ?_
  clear q mX3 X3 X4 S kz2 w48; obtain ⟨X3, X4, kz2⟩ := hz
  refine hK.out _ _ (Off.ofB kz2) fun S => ?_; clear hK K S; refine vP ?_
  revert kz2; revert ndX3_X4; revert jX4; revert jX3; revert X4; revert X3; revert pp1_1; revert pp1_0; revert w50
  refine ?s2_16; rotate_left
  intro w51 pp1_0 pp1_1 X3 X4 jX3 jX4 ndX3_X4 kz2
  refine vD ?_
  have gX3 : w.heap.size ≤ pp1_0 := by have := b1.size; omega
  have gX4 : w.heap.size ≤ pp1_1 := by have := b1.size; omega
  go_wp2_with fail
  refine vM (h3.out _ (ft.later (bC b1 kz2))) fun w52 b52 => ?_
  replace X3 := X3.later b52
  have oX3 := X3.o
  replace X4 := X4.later b52
  have oX4 := X4.o
  go_wp2_with fail
  refine vM (h5.out _ (ft.later (bC (bC b1 kz2) b52))) fun w53 b53 => ?_
  clear oX3 oX4
  go_wp2_with fail
  go_ret
  exact ⟨rfl, (bC (bC (bC b1 kz2) b52) b53)⟩
theorem prod20_no2 (f m ah al bh bl zh zl : Int) (t ng : Bool)
    (h0 : Hid (∀ w, FTab w → Ca 16 #[.int .u8 f, .agg #[.int .u8 m, .bool t], U2 ah al, U2 bh bl] w (.agg #[.int .u64 0, .int .u64 0, .int .u8 0])))
    (h1 : Hid (∀ w, FTab w → Ca 23 #[.int .u8 f, .bool ng] w (U2 zh zl)))
    (h2 : Hid (∀ w, FTab w → Ca 10 #[.int .u8 f, .agg #[.int .u8 m, .bool t], U2 ah al, U2 bh bl, U2 zh zl] w (.agg #[.int .u64 0, .int .u64 0, .int .u8 0])))
    (h3 : Hid (∀ w, FTab w → Ca 13 #[.int .u8 f] w (.bool true)))
    (h4 : Hid (∀ w, Ca 24 #[.int .u8 m] w (.bool false)))
    (h5 : Hid (∀ w, FTab w → Ca 12 #[] w (.bool true))) (w : World) (ft : FTab w) :
    Ca 6 #[.int .u8 f, .agg #[.int .u8 m, .bool t], U2 ah al, U2 bh bl, .bool ng] w (.bool true) := by
  simp only [Ca, U2] at *
  go_enter Tryz.func6, Tryz.ntmps6
  go_wp2_with fail
  refine vF3 fun w1 b1 X0 X1 X2 => ?_
  refine vR [] fun w2 kz2 S => ?_
  refine vT 0 S ?_
  refine vT 1 S ?_ (hy := by intro wq hb; have q := (hb.hb X0 (by simp)).o; go_simp; try (with_reducible rfl))
  refine vT 2 S ?_ (hy := by intro wq hb; have q := (hb.hb X1 (by simp)).o; go_simp; try (with_reducible rfl))
  refine vT 3 S ?_ (hy := by intro wq hb; have q := (hb.hb X2 (by simp)).o; go_simp; try (with_reducible rfl))
  refine vT 5 S ?_
  refine vT 6 S ?_ (hy := by intro wq hb; have q := (hb.hb X0 (by simp)).o; go_simp; try (with_reducible rfl))
  refine vT 7 S ?_ (hy := by intro wq hb; have q := (hb.hb X1 (by simp)).o; go_simp; try (with_reducible rfl))
  refine vT 8 S ?_ (hy := by intro wq hb; have q := (hb.hb X2 (by simp)).o; go_simp; try (with_reducible rfl))
  refine vT 9 S ?_
  refine vT 10 S ?_
  refine vY3 (cC 4 S (h0.out _ (ft.later (bC b1 kz2))) fun w3 b3 => ?_) (cA 13 S fun w4 pp1_0 h X3 b4 => ?_) (cA 14 S fun w5 pp1_1 h X4 b5 => ?_)
  replace kz2 := bC kz2 b3
  clear S b3 w2
  revert kz2; revert w3
  refine ?s2_0; rotate_left
  have jX3 := (lZ kz2.size h); replace kz2 := bC kz2 b4
  clear S b4 h w2
  revert kz2; revert jX3; revert X3; revert pp1_0; revert w4
  refine ?s2_1; rotate_left
  have jX4 := (lZ kz2.size h); replace kz2 := bC kz2 b5
  clear S b5 h w2
  revert kz2; revert jX4; revert X4; revert pp1_1; revert w5
  refine ?s2_2; rotate_left
  intro w6 kz2
  have S := Off.ofB kz2
  refine vY3 (cC 11 S (h1.out _ (ft.later (bC b1 kz2))) fun w7 b7 => ?_) (cA 13 S fun w8 pp1_0 h X3 b8 => ?_) (cA 14 S fun w9 pp1_1 h X4 b9 => ?_)
  replace kz2 := bC kz2 b7
  clear S b7 w6
  revert kz2; revert w7
  refine ?s2_3; rotate_left
  have jX3 := (lZ kz2.size h); replace kz2 := bC kz2 b8
  clear S b8 h w6
  revert kz2; revert jX3; revert X3; revert pp1_0; revert w8
  refine ?s2_4; rotate_left
  have jX4 := (lZ kz2.size h); replace kz2 := bC kz2 b9
  clear S b9 h w6
  revert kz2; revert jX4; revert X4; revert pp1_1; revert w9
  refine ?s2_5; rotate_left
  intro w10 pp1_0 X3 jX3 kz2
  have S := Off.ofB kz2
  refine vY2 (cC 4 S (h0.out _ (ft.later (bC b1 kz2))) fun w11 b11 => ?s2_4 w11 pp1_0 (X3.later b11) jX3 (bC kz2 b11)) (cA 14 S fun w12 pp1_1 h X4 b12 => ?_)
  have ndX3_X4 : ¬ (pp1_0 = pp1_1) := (Nat.ne_of_lt (lY X3.lt h)); have jX4 := (lZ kz2.size h); replace X3 := (X3.later b12); replace kz2 := bC kz2 b12
  clear S b12 h w10
  revert kz2; revert ndX3_X4; revert jX4; revert jX3; revert X4; revert X3; revert pp1_1; revert pp1_0; revert w12
  refine ?s2_6; rotate_left
  intro w13 pp1_1 X4 jX4 kz2
  have S := Off.ofB kz2
  refine vY2 (cC 4 S (h0.out _ (ft.later (bC b1 kz2))) fun w14 b14 => ?s2_5 w14 pp1_1 (X4.later b14) jX4 (bC kz2 b14)) (cA 13 S fun w15 pp1_0 h X3 b15 => ?s2_6 w15 pp1_0 pp1_1 X3 (X4.later b15) (lZ kz2.size h) jX4 (Nat.ne_of_gt (lY X4.lt h)) (bC kz2 b15))
  intro w16 kz2
  have S := Off.ofB kz2
  refine vY3 (cC 12 S (h2.out _ (ft.later (bC b1 kz2))) fun w17 b17 => ?_) (cA 13 S fun w18 pp1_0 h X3 b18 => ?_) (cA 14 S fun w19 pp1_1 h X4 b19 => ?_)
  replace kz2 := bC kz2 b17
  clear S b17 w16
  revert kz2; revert w17
  refine ?s2_7; rotate_left
  have jX3 := (lZ kz2.size h); replace kz2 := bC kz2 b18
  clear S b18 h w16
  revert kz2; revert jX3; revert X3; revert pp1_0; revert w18
  refine ?s2_8; rotate_left
  have jX4 := (lZ kz2.size h); replace kz2 := bC kz2 b19
  clear S b19 h w16
  revert kz2; revert jX4; revert X4; revert pp1_1; revert w19
  refine ?s2_9; rotate_left
  intro w20 pp1_0 X3 jX3 kz2
  have S := Off.ofB kz2
  refine vY2 (cC 11 S (h1.out _ (ft.later (bC b1 kz2))) fun w21 b21 => ?s2_8 w21 pp1_0 (X3.later b21) jX3 (bC kz2 b21)) (cA 14 S fun w22 pp1_1 h X4 b22 => ?_)
  have ndX3_X4 : ¬ (pp1_0 = pp1_1) := (Nat.ne_of_lt (lY X3.lt h)); have jX4 := (lZ kz2.size h); replace X3 := (X3.later b22); replace kz2 := bC kz2 b22
  clear S b22 h w20
  revert kz2; revert ndX3_X4; revert jX4; revert jX3; revert X4; revert X3; revert pp1_1; revert pp1_0; revert w22
  refine ?s2_10; rotate_left
  intro w23 pp1_1 X4 jX4 kz2
  have S := Off.ofB kz2
  refine vY2 (cC 11 S (h1.out _ (ft.later (bC b1 kz2))) fun w24 b24 => ?s2_9 w24 pp1_1 (X4.later b24) jX4 (bC kz2 b24)) (cA 13 S fun w25 pp1_0 h X3 b25 => ?s2_10 w25 pp1_0 pp1_1 X3 (X4.later b25) (lZ kz2.size h) jX4 (Nat.ne_of_gt (lY X4.lt h)) (bC kz2 b25))
  intro w26 pp1_0 pp1_1 X3 X4 jX3 jX4 ndX3_X4 kz2
  have S := Off.ofB kz2
  refine vY1 (cC 4 S (h0.out _ (ft.later (bC b1 kz2))) fun w27 b27 => ?s2_10 w27 pp1_0 pp1_1 (X3.later b27) (X4.later b27) jX3 jX4 ndX3_X4 (bC kz2 b27))
  intro w28 kz2
  have S := Off.ofB kz2
  refine vY2 (cA 13 S fun w29 pp1_0 h X3 b29 => ?_) (cA 14 S fun w30 pp1_1 h X4 b30 => ?_)
  have jX3 := (lZ kz2.size h); replace kz2 := bC kz2 b29
  clear S b29 h w28
  revert kz2; revert jX3; revert X3; revert pp1_0; revert w29
  refine ?s2_11; rotate_left
  have jX4 := (lZ kz2.size h); replace kz2 := bC kz2 b30
  clear S b30 h w28
  revert kz2; revert jX4; revert X4; revert pp1_1; revert w30
  refine ?s2_12; rotate_left
  intro w31 pp1_0 X3 jX3 kz2
  have S := Off.ofB kz2
  refine vY2 (cC 12 S (h2.out _ (ft.later (bC b1 kz2))) fun w32 b32 => ?s2_11 w32 pp1_0 (X3.later b32) jX3 (bC kz2 b32)) (cA 14 S fun w33 pp1_1 h X4 b33 => ?_)
  have ndX3_X4 : ¬ (pp1_0 = pp1_1) := (Nat.ne_of_lt (lY X3.lt h)); have jX4 := (lZ kz2.size h); replace X3 := (X3.later b33); replace kz2 := bC kz2 b33
  clear S b33 h w31
  revert kz2; revert ndX3_X4; revert jX4; revert jX3; revert X4; revert X3; revert pp1_1; revert pp1_0; revert w33
  refine ?s2_13; rotate_left
  intro w34 pp1_1 X4 jX4 kz2
  have S := Off.ofB kz2
  refine vY2 (cC 12 S (h2.out _ (ft.later (bC b1 kz2))) fun w35 b35 => ?s2_12 w35 pp1_1 (X4.later b35) jX4 (bC kz2 b35)) (cA 13 S fun w36 pp1_0 h X3 b36 => ?s2_13 w36 pp1_0 pp1_1 X3 (X4.later b36) (lZ kz2.size h) jX4 (Nat.ne_of_gt (lY X4.lt h)) (bC kz2 b36))
  intro w37 pp1_0 pp1_1 X3 X4 jX3 jX4 ndX3_X4 kz2
  have S := Off.ofB kz2
  refine vY1 (cC 11 S (h1.out _ (ft.later (bC b1 kz2))) fun w38 b38 => ?s2_13 w38 pp1_0 pp1_1 (X3.later b38) (X4.later b38) jX3 jX4 ndX3_X4 (bC kz2 b38))
  intro w39 pp1_0 X3 jX3 kz2
  have S := Off.ofB kz2
  refine vY1 (cA 14 S fun w40 pp1_1 h X4 b40 => ?_)
  have ndX3_X4 : ¬ (pp1_0 = pp1_1) := (Nat.ne_of_lt (lY X3.lt h)); have jX4 := (lZ kz2.size h); replace X3 := (X3.later b40); replace kz2 := bC kz2 b40
  clear S b40 h w39
  revert kz2; revert ndX3_X4; revert jX4; revert jX3; revert X4; revert X3; revert pp1_1; revert pp1_0; revert w40
  refine ?s2_14; rotate_left
  intro w41 pp1_1 X4 jX4 kz2
  have S := Off.ofB kz2
  refine vY1 (cA 13 S fun w42 pp1_0 h X3 b42 => ?s2_14 w42 pp1_0 pp1_1 X3 (X4.later b42) (lZ kz2.size h) jX4 (Nat.ne_of_gt (lY X4.lt h)) (bC kz2 b42))
  intro w43 pp1_0 pp1_1 X3 X4 jX3 jX4 ndX3_X4 kz2
  have S := Off.ofB kz2
  refine vY1 (cC 12 S (h2.out _ (ft.later (bC b1 kz2))) fun w44 b44 => ?s2_14 w44 pp1_0 pp1_1 (X3.later b44) (X4.later b44) jX3 jX4 ndX3_X4 (bC kz2 b44))
  intro w45 pp1_0 pp1_1 X3 X4 jX3 jX4 ndX3_X4 kz2
  have S := Off.ofB kz2
  refine vY1 (vO 15 fun K hK => ?_)
  have q := X3.o; have mX4 : ¬ (pp1_1 = pp1_0) := (by omega)
  go_simp
  refine vW (fun W => HB W pp1_0 31 #[.int .u64 0, .int .u64 0, .int .u8 0] ∧ HB W pp1_1 31 #[.int .u64 0, .int .u64 0, .int .u8 0] ∧ Below w1.heap.size w1 W) ⟨(((X3.set 0 _).set 1 _).set 2 _), (((X4.other mX4 0 _).other mX4 1 _).other mX4 2 _), (((kz2.setCell (p := ⟨pp1_0, 0, none⟩) jX3 _).setCell (p := ⟨pp1_0, 1, none⟩) jX3 _).setCell (p := ⟨pp1_0, 2, none⟩) jX3 _)⟩ fun w47 hz => ?_
  clear q mX4 X3 X4 S kz2 w45; obtain ⟨X3, X4, kz2⟩ := hz
  refine hK.out _ _ (Off.ofB kz2) fun S => ?_; clear hK K S; refine vP ?_
  revert kz2; revert ndX3_X4; revert jX4; revert jX3; revert X4; revert X3; revert pp1_1; revert pp1_0; revert w47
  refine ?s2_15; rotate_left
  intro w48 pp1_0 pp1_1 X3 X4 jX3 jX4 ndX3_X4 kz2
  have S := Off.ofB kz2
  refine vY1 (vO 16 fun K hK => ?_)
  have q := X4.o; have mX3 : ¬ (pp1_0 = pp1_1) := (by omega)
  go_simp
  refine vW (fun W => HB W pp1_0 31 #[.int .u64 0, .int .u64 0, .int .u8 0] ∧ HB W pp1_1 31 #[.int .u64 0, .int .u64 0, .int .u8 0] ∧ Below w1.heap.size w1 W) ⟨(((X3.other mX3 0 _).other mX3 1 _).other mX3 2 _), (((X4.set 0 _).set 1 _).set 2 _), (((kz2.setCell (p := ⟨pp1_1, 0, none⟩) jX4 _).setCell (p := ⟨pp1_1, 1, none⟩) jX4 _).setCell (p := ⟨pp1_1, 2, none⟩) jX4 _)⟩ fun w50 hz => ?_
  clear q mX3 X3 X4 S kz2 w48; obtain ⟨X3, X4, kz2⟩ := hz
  refine hK.out _ _ (Off.ofB kz2) fun S => ?_; clear hK K S; refine vP ?_
  revert kz2; revert ndX3_X4; revert jX4; revert jX3; revert X4; revert X3; revert pp1_1; revert pp1_0; revert w50
  refine ?s2_16; rotate_left
  intro w51 pp1_0 pp1_1 X3 X4 jX3 jX4 ndX3_X4 kz2
  refine vD ?_
  have nX0_X3 : w.heap.size < pp1_0 := by have := X0.lt; omega
  have nX0_X4 : w.heap.size < pp1_1 := by have := X0.lt; omega
  have gX3 : w.heap.size ≤ pp1_0 := by have := b1.size; omega
  have gX4 : w.heap.size ≤ pp1_1 := by have := b1.size; omega
  go_wp2_with fail
  refine vM (h3.out _ (ft.later (bC b1 kz2))) fun w52 b52 => ?_
  replace X0 := X0.later (bC kz2 b52)
  have oX0 := X0.o
  go_wp2_with fail
  refine vM (h4.out _) fun w53 b53 => ?_
  clear oX0
  replace X3 := X3.later (bC b52 b53)
  have oX3 := X3.o
  replace X4 := X4.later (bC b52 b53)
  have oX4 := X4.o
  go_wp2_with fail
  refine vM (h5.out _ (ft.later (bC (bC (bC b1 kz2) b52) b53))) fun w54 b54 => ?_
  clear oX3 oX4
  go_wp2_with fail
  go_ret
  exact ⟨rfl, (bC (bC (bC (bC b1 kz2) b52) b53) b54)⟩
theorem prod20_main (f m ah al bh bl k rh rl fl sh sl sf zh zl : Int) (t ng kn yn : Bool)
    (h0 : Hid (∀ w, FTab w → Ca 16 #[.int .u8 f, .agg #[.int .u8 m, .bool t], U2 ah al, U2 bh bl] w (.agg #[.int .u64 rh, .int .u64 rl, .int .u8 fl])))
    (h1 : Hid (∀ w, FTab w → Ca 23 #[.int .u8 f, .bool ng] w (U2 zh zl)))
    (h2 : Hid (∀ w, FTab w → Ca 10 #[.int .u8 f, .agg #[.int .u8 m, .bool t], U2 ah al, U2 bh bl, U2 zh zl] w (.agg #[.int .u64 sh, .int .u64 sl, .int .u8 sf])))
    (h3 : Hid (∀ w, FTab w → Ca 13 #[.int .u8 f] w (.bool true)))
    (h4 : Hid (∀ w, Ca 24 #[.int .u8 m] w (.bool true)))
    (h5 : Hid (∀ w, FTab w → Ca 20 #[.int .u8 f, U2 rh rl] w (.tuple #[.int .u8 k, .bool kn])))
    (HH : (((k == 0) = true) ∧ ((fl == 0) = true) ∧ ((sf == 0) = true) ∧ Hid (∀ w, FTab w → Ca 20 #[.int .u8 f, U2 sh sl] w (.tuple #[.int .u8 0, .bool yn])) ∧ Hid (∀ w, FTab w → Ca 12 #[] w (.bool true))) ∨ (((k == 0) = true) ∧ ((fl == 0) = false) ∧ (∀ w, (binOp .eql 31 (.agg #[.int .u64 rh, .int .u64 rl, .int .u8 fl]) (.agg #[.int .u64 sh, .int .u64 sl, .int .u8 sf])).run Tryz.prog w = .ok (.bool true) w) ∧ Hid (∀ w, FTab w → Ca 12 #[] w (.bool true))) ∨ (((k == 0) = false) ∧ (∀ w, (binOp .eql 31 (.agg #[.int .u64 rh, .int .u64 rl, .int .u8 fl]) (.agg #[.int .u64 sh, .int .u64 sl, .int .u8 sf])).run Tryz.prog w = .ok (.bool true) w) ∧ Hid (∀ w, FTab w → Ca 12 #[] w (.bool true)))) (w : World) (ft : FTab w) :
    Ca 6 #[.int .u8 f, .agg #[.int .u8 m, .bool t], U2 ah al, U2 bh bl, .bool ng] w (.bool true) := by
  simp only [Ca, U2] at *
  go_enter Tryz.func6, Tryz.ntmps6
  go_wp2_with fail
  refine vF3 fun w1 b1 X0 X1 X2 => ?_
  refine vR [] fun w2 kz2 S => ?_
  refine vT 0 S ?_
  refine vT 1 S ?_ (hy := by intro wq hb; have q := (hb.hb X0 (by simp)).o; go_simp; try (with_reducible rfl))
  refine vT 2 S ?_ (hy := by intro wq hb; have q := (hb.hb X1 (by simp)).o; go_simp; try (with_reducible rfl))
  refine vT 3 S ?_ (hy := by intro wq hb; have q := (hb.hb X2 (by simp)).o; go_simp; try (with_reducible rfl))
  refine vT 5 S ?_
  refine vT 6 S ?_ (hy := by intro wq hb; have q := (hb.hb X0 (by simp)).o; go_simp; try (with_reducible rfl))
  refine vT 7 S ?_ (hy := by intro wq hb; have q := (hb.hb X1 (by simp)).o; go_simp; try (with_reducible rfl))
  refine vT 8 S ?_ (hy := by intro wq hb; have q := (hb.hb X2 (by simp)).o; go_simp; try (with_reducible rfl))
  refine vT 9 S ?_
  refine vT 10 S ?_
  refine vY3 (cC 4 S (h0.out _ (ft.later (bC b1 kz2))) fun w3 b3 => ?_) (cA 13 S fun w4 pp1_0 h X3 b4 => ?_) (cA 14 S fun w5 pp1_1 h X4 b5 => ?_)
  replace kz2 := bC kz2 b3
  clear S b3 w2
  revert kz2; revert w3
  refine ?s2_0; rotate_left
  have jX3 := (lZ kz2.size h); replace kz2 := bC kz2 b4
  clear S b4 h w2
  revert kz2; revert jX3; revert X3; revert pp1_0; revert w4
  refine ?s2_1; rotate_left
  have jX4 := (lZ kz2.size h); replace kz2 := bC kz2 b5
  clear S b5 h w2
  revert kz2; revert jX4; revert X4; revert pp1_1; revert w5
  refine ?s2_2; rotate_left
  intro w6 kz2
  have S := Off.ofB kz2
  refine vY3 (cC 11 S (h1.out _ (ft.later (bC b1 kz2))) fun w7 b7 => ?_) (cA 13 S fun w8 pp1_0 h X3 b8 => ?_) (cA 14 S fun w9 pp1_1 h X4 b9 => ?_)
  replace kz2 := bC kz2 b7
  clear S b7 w6
  revert kz2; revert w7
  refine ?s2_3; rotate_left
  have jX3 := (lZ kz2.size h); replace kz2 := bC kz2 b8
  clear S b8 h w6
  revert kz2; revert jX3; revert X3; revert pp1_0; revert w8
  refine ?s2_4; rotate_left
  have jX4 := (lZ kz2.size h); replace kz2 := bC kz2 b9
  clear S b9 h w6
  revert kz2; revert jX4; revert X4; revert pp1_1; revert w9
  refine ?s2_5; rotate_left
  intro w10 pp1_0 X3 jX3 kz2
  have S := Off.ofB kz2
  refine vY2 (cC 4 S (h0.out _ (ft.later (bC b1 kz2))) fun w11 b11 => ?s2_4 w11 pp1_0 (X3.later b11) jX3 (bC kz2 b11)) (cA 14 S fun w12 pp1_1 h X4 b12 => ?_)
  have ndX3_X4 : ¬ (pp1_0 = pp1_1) := (Nat.ne_of_lt (lY X3.lt h)); have jX4 := (lZ kz2.size h); replace X3 := (X3.later b12); replace kz2 := bC kz2 b12
  clear S b12 h w10
  revert kz2; revert ndX3_X4; revert jX4; revert jX3; revert X4; revert X3; revert pp1_1; revert pp1_0; revert w12
  refine ?s2_6; rotate_left
  intro w13 pp1_1 X4 jX4 kz2
  have S := Off.ofB kz2
  refine vY2 (cC 4 S (h0.out _ (ft.later (bC b1 kz2))) fun w14 b14 => ?s2_5 w14 pp1_1 (X4.later b14) jX4 (bC kz2 b14)) (cA 13 S fun w15 pp1_0 h X3 b15 => ?s2_6 w15 pp1_0 pp1_1 X3 (X4.later b15) (lZ kz2.size h) jX4 (Nat.ne_of_gt (lY X4.lt h)) (bC kz2 b15))
  intro w16 kz2
  have S := Off.ofB kz2
  refine vY3 (cC 12 S (h2.out _ (ft.later (bC b1 kz2))) fun w17 b17 => ?_) (cA 13 S fun w18 pp1_0 h X3 b18 => ?_) (cA 14 S fun w19 pp1_1 h X4 b19 => ?_)
  replace kz2 := bC kz2 b17
  clear S b17 w16
  revert kz2; revert w17
  refine ?s2_7; rotate_left
  have jX3 := (lZ kz2.size h); replace kz2 := bC kz2 b18
  clear S b18 h w16
  revert kz2; revert jX3; revert X3; revert pp1_0; revert w18
  refine ?s2_8; rotate_left
  have jX4 := (lZ kz2.size h); replace kz2 := bC kz2 b19
  clear S b19 h w16
  revert kz2; revert jX4; revert X4; revert pp1_1; revert w19
  refine ?s2_9; rotate_left
  intro w20 pp1_0 X3 jX3 kz2
  have S := Off.ofB kz2
  refine vY2 (cC 11 S (h1.out _ (ft.later (bC b1 kz2))) fun w21 b21 => ?s2_8 w21 pp1_0 (X3.later b21) jX3 (bC kz2 b21)) (cA 14 S fun w22 pp1_1 h X4 b22 => ?_)
  have ndX3_X4 : ¬ (pp1_0 = pp1_1) := (Nat.ne_of_lt (lY X3.lt h)); have jX4 := (lZ kz2.size h); replace X3 := (X3.later b22); replace kz2 := bC kz2 b22
  clear S b22 h w20
  revert kz2; revert ndX3_X4; revert jX4; revert jX3; revert X4; revert X3; revert pp1_1; revert pp1_0; revert w22
  refine ?s2_10; rotate_left
  intro w23 pp1_1 X4 jX4 kz2
  have S := Off.ofB kz2
  refine vY2 (cC 11 S (h1.out _ (ft.later (bC b1 kz2))) fun w24 b24 => ?s2_9 w24 pp1_1 (X4.later b24) jX4 (bC kz2 b24)) (cA 13 S fun w25 pp1_0 h X3 b25 => ?s2_10 w25 pp1_0 pp1_1 X3 (X4.later b25) (lZ kz2.size h) jX4 (Nat.ne_of_gt (lY X4.lt h)) (bC kz2 b25))
  intro w26 pp1_0 pp1_1 X3 X4 jX3 jX4 ndX3_X4 kz2
  have S := Off.ofB kz2
  refine vY1 (cC 4 S (h0.out _ (ft.later (bC b1 kz2))) fun w27 b27 => ?s2_10 w27 pp1_0 pp1_1 (X3.later b27) (X4.later b27) jX3 jX4 ndX3_X4 (bC kz2 b27))
  intro w28 kz2
  have S := Off.ofB kz2
  refine vY2 (cA 13 S fun w29 pp1_0 h X3 b29 => ?_) (cA 14 S fun w30 pp1_1 h X4 b30 => ?_)
  have jX3 := (lZ kz2.size h); replace kz2 := bC kz2 b29
  clear S b29 h w28
  revert kz2; revert jX3; revert X3; revert pp1_0; revert w29
  refine ?s2_11; rotate_left
  have jX4 := (lZ kz2.size h); replace kz2 := bC kz2 b30
  clear S b30 h w28
  revert kz2; revert jX4; revert X4; revert pp1_1; revert w30
  refine ?s2_12; rotate_left
  intro w31 pp1_0 X3 jX3 kz2
  have S := Off.ofB kz2
  refine vY2 (cC 12 S (h2.out _ (ft.later (bC b1 kz2))) fun w32 b32 => ?s2_11 w32 pp1_0 (X3.later b32) jX3 (bC kz2 b32)) (cA 14 S fun w33 pp1_1 h X4 b33 => ?_)
  have ndX3_X4 : ¬ (pp1_0 = pp1_1) := (Nat.ne_of_lt (lY X3.lt h)); have jX4 := (lZ kz2.size h); replace X3 := (X3.later b33); replace kz2 := bC kz2 b33
  clear S b33 h w31
  revert kz2; revert ndX3_X4; revert jX4; revert jX3; revert X4; revert X3; revert pp1_1; revert pp1_0; revert w33
  refine ?s2_13; rotate_left
  intro w34 pp1_1 X4 jX4 kz2
  have S := Off.ofB kz2
  refine vY2 (cC 12 S (h2.out _ (ft.later (bC b1 kz2))) fun w35 b35 => ?s2_12 w35 pp1_1 (X4.later b35) jX4 (bC kz2 b35)) (cA 13 S fun w36 pp1_0 h X3 b36 => ?s2_13 w36 pp1_0 pp1_1 X3 (X4.later b36) (lZ kz2.size h) jX4 (Nat.ne_of_gt (lY X4.lt h)) (bC kz2 b36))
  intro w37 pp1_0 pp1_1 X3 X4 jX3 jX4 ndX3_X4 kz2
  have S := Off.ofB kz2
  refine vY1 (cC 11 S (h1.out _ (ft.later (bC b1 kz2))) fun w38 b38 => ?s2_13 w38 pp1_0 pp1_1 (X3.later b38) (X4.later b38) jX3 jX4 ndX3_X4 (bC kz2 b38))
  intro w39 pp1_0 X3 jX3 kz2
  have S := Off.ofB kz2
  refine vY1 (cA 14 S fun w40 pp1_1 h X4 b40 => ?_)
  have ndX3_X4 : ¬ (pp1_0 = pp1_1) := (Nat.ne_of_lt (lY X3.lt h)); have jX4 := (lZ kz2.size h); replace X3 := (X3.later b40); replace kz2 := bC kz2 b40
  clear S b40 h w39
  revert kz2; revert ndX3_X4; revert jX4; revert jX3; revert X4; revert X3; revert pp1_1; revert pp1_0; revert w40
  refine ?s2_14; rotate_left
  intro w41 pp1_1 X4 jX4 kz2
  have S := Off.ofB kz2
  refine vY1 (cA 13 S fun w42 pp1_0 h X3 b42 => ?s2_14 w42 pp1_0 pp1_1 X3 (X4.later b42) (lZ kz2.size h) jX4 (Nat.ne_of_gt (lY X4.lt h)) (bC kz2 b42))
  intro w43 pp1_0 pp1_1 X3 X4 jX3 jX4 ndX3_X4 kz2
  have S := Off.ofB kz2
  refine vY1 (cC 12 S (h2.out _ (ft.later (bC b1 kz2))) fun w44 b44 => ?s2_14 w44 pp1_0 pp1_1 (X3.later b44) (X4.later b44) jX3 jX4 ndX3_X4 (bC kz2 b44))
  intro w45 pp1_0 pp1_1 X3 X4 jX3 jX4 ndX3_X4 kz2
  have S := Off.ofB kz2
  refine vY1 (vO 15 fun K hK => ?_)
  have q := X3.o; have mX4 : ¬ (pp1_1 = pp1_0) := (by omega)
  go_simp
  refine vW (fun W => HB W pp1_0 31 #[.int .u64 rh, .int .u64 rl, .int .u8 fl] ∧ HB W pp1_1 31 #[.int .u64 0, .int .u64 0, .int .u8 0] ∧ Below w1.heap.size w1 W) ⟨(((X3.set 0 _).set 1 _).set 2 _), (((X4.other mX4 0 _).other mX4 1 _).other mX4 2 _), (((kz2.setCell (p := ⟨pp1_0, 0, none⟩) jX3 _).setCell (p := ⟨pp1_0, 1, none⟩) jX3 _).setCell (p := ⟨pp1_0, 2, none⟩) jX3 _)⟩ fun w47 hz => ?_
  clear q mX4 X3 X4 S kz2 w45; obtain ⟨X3, X4, kz2⟩ := hz
  refine hK.out _ _ (Off.ofB kz2) fun S => ?_; clear hK K S; refine vP ?_
  revert kz2; revert ndX3_X4; revert jX4; revert jX3; revert X4; revert X3; revert pp1_1; revert pp1_0; revert w47
  refine ?s2_15; rotate_left
  intro w48 pp1_0 pp1_1 X3 X4 jX3 jX4 ndX3_X4 kz2
  have S := Off.ofB kz2
  refine vY1 (vO 16 fun K hK => ?_)
  have q := X4.o; have mX3 : ¬ (pp1_0 = pp1_1) := (by omega)
  go_simp
  refine vW (fun W => HB W pp1_0 31 #[.int .u64 rh, .int .u64 rl, .int .u8 fl] ∧ HB W pp1_1 31 #[.int .u64 sh, .int .u64 sl, .int .u8 sf] ∧ Below w1.heap.size w1 W) ⟨(((X3.other mX3 0 _).other mX3 1 _).other mX3 2 _), (((X4.set 0 _).set 1 _).set 2 _), (((kz2.setCell (p := ⟨pp1_1, 0, none⟩) jX4 _).setCell (p := ⟨pp1_1, 1, none⟩) jX4 _).setCell (p := ⟨pp1_1, 2, none⟩) jX4 _)⟩ fun w50 hz => ?_
  clear q mX3 X3 X4 S kz2 w48; obtain ⟨X3, X4, kz2⟩ := hz
  refine hK.out _ _ (Off.ofB kz2) fun S => ?_; clear hK K S; refine vP ?_
  revert kz2; revert ndX3_X4; revert jX4; revert jX3; revert X4; revert X3; revert pp1_1; revert pp1_0; revert w50
  refine ?s2_16; rotate_left
  intro w51 pp1_0 pp1_1 X3 X4 jX3 jX4 ndX3_X4 kz2
  refine vD ?_
  have nX0_X3 : w.heap.size < pp1_0 := by have := X0.lt; omega
  have nX0_X4 : w.heap.size < pp1_1 := by have := X0.lt; omega
  have gX3 : w.heap.size ≤ pp1_0 := by have := b1.size; omega
  have gX4 : w.heap.size ≤ pp1_1 := by have := b1.size; omega
  go_wp2_with fail
  refine vM (h3.out _ (ft.later (bC b1 kz2))) fun w52 b52 => ?_
  replace X0 := X0.later (bC kz2 b52)
  have oX0 := X0.o
  go_wp2_with fail
  refine vM (h4.out _) fun w53 b53 => ?_
  clear oX0
  replace X3 := X3.later (bC b52 b53)
  have oX3 := X3.o
  go_wp2_with fail
  refine vM (h5.out _ (ft.later (bC (bC (bC b1 kz2) b52) b53))) fun w54 b54 => ?_
  clear oX3
  replace X3 := X3.later b54
  have oX3 := X3.o
  replace X4 := X4.later (bC (bC b52 b53) b54)
  have oX4 := X4.o
  rcases HH with ⟨gc, gf, gs, h6, h7⟩ | ⟨gc, gf, nq, h6⟩ | ⟨gc, nq, h6⟩
  · go_wp2_with fail
    refine vM (h6.out _ (ft.later (bC (bC (bC (bC b1 kz2) b52) b53) b54))) fun w55 b55 => ?_
    clear oX3 oX4
    replace X4 := X4.later b55
    have oX4 := X4.o
    go_wp2_with fail
    refine vM (h7.out _ (ft.later (bC (bC (bC (bC (bC b1 kz2) b52) b53) b54) b55))) fun w56 b56 => ?_
    clear oX4
    go_wp2_with fail
    go_ret
    exact ⟨rfl, (bC (bC (bC (bC (bC (bC b1 kz2) b52) b53) b54) b55) b56)⟩
  · go_wp2_with fail
    refine vM (h6.out _ (ft.later (bC (bC (bC (bC b1 kz2) b52) b53) b54))) fun w55 b55 => ?_
    clear oX3 oX4
    go_wp2_with fail
    go_ret
    exact ⟨rfl, (bC (bC (bC (bC (bC b1 kz2) b52) b53) b54) b55)⟩
  · go_wp2_with fail
    refine vM (h6.out _ (ft.later (bC (bC (bC (bC b1 kz2) b52) b53) b54))) fun w55 b55 => ?_
    clear oX3 oX4
    go_wp2_with fail
    go_ret
    exact ⟨rfl, (bC (bC (bC (bC (bC b1 kz2) b52) b53) b54) b55)⟩
end Go.Proofs.YtdcdbcccchadfaaGreatDoor
