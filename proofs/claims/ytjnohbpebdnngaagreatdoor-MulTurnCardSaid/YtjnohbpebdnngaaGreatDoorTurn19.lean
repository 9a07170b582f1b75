/-
  The walk of the statement MulTurn.
-/
import Derived.Test.YtjnohbpebdnngaaGreatDoorMul19M
import Derived.Test.YtjnohbpebdnngaaGreatDoorW2
import Derived.Test.YtjnohbpebdnngaaGreatDoorGaB
import Derived.Test.YtjnohbpebdnngaaGreatDoorGfA
import Derived.Test.YtjnohbpebdnngaaGreatDoorGhA
import Derived.Test.YtjnohbpebdnngaaGreatDoorGaA
import Derived.Test.YtjnohbpebdnngaaGreatDoorGoes19
set_option linter.unusedVariables false
set_option linter.unusedSimpArgs false
set_option maxRecDepth 100000
namespace Go.Proofs.YtjnohbpebdnngaaGreatDoor
open Go.RowKit
attribute [local go_sem ↓] Go.wp_at_zero Go.wp_at_succ

set_option maxHeartbeats 4000000 in
theorem turn19_no1 (f m ah al bh bl : Int) (t : Bool)
    (h0 : Hid (∀ w, FTab w → Ca 22 #[.int .u8 f] w (.bool false)))
    (h3 : Hid (∀ w, FTab w → Ca 13 #[] w (.bool true))) (w : World) (ft : FTab w) :
    Ca 6 #[.int .u8 f, .agg #[.int .u8 m, .bool t], U2 ah al, U2 bh bl] w (.bool true) := by
  simp only [Ca, U2] at *
  go_enter Tryz.func6, Tryz.ntmps6
  go_wp2_with fail
  refine vM (h0.out _ (ft.later (bA (bA (bA (Below.refl _ _) _) _) _))) fun w1 b1 => ?_
  go_wp2_with fail
  refine vM (h3.out _ (ft.later (bC (bA (bA (bA (Below.refl _ _) _) _) _) b1))) fun w2 b2 => ?_
  go_wp2_with fail
  go_ret
  exact ⟨rfl, (bC (bC (bA (bA (bA (Below.refl _ _) _) _) _) b1) b2)⟩

set_option maxHeartbeats 4000000 in
theorem turn19_no2 (f m ah al bh bl : Int) (t : Bool)
    (h0 : Hid (∀ w, FTab w → Ca 22 #[.int .u8 f] w (.bool true)))
    (h1 : Hid (∀ w, Ca 23 #[.int .u8 m] w (.bool false)))
    (h3 : Hid (∀ w, FTab w → Ca 13 #[] w (.bool true))) (w : World) (ft : FTab w) :
    Ca 6 #[.int .u8 f, .agg #[.int .u8 m, .bool t], U2 ah al, U2 bh bl] w (.bool true) := by
  simp only [Ca, U2] at *
  go_enter Tryz.func6, Tryz.ntmps6
  go_wp2_with fail
  refine vM (h0.out _ (ft.later (bA (bA (bA (Below.refl _ _) _) _) _))) fun w1 b1 => ?_
  have X0 := (((HB.newAt (b := w.heap.size) (by simp) _ _).alloc _).alloc _).later b1
  have oX0 := X0.o
  go_wp2_with fail
  refine vM (h1.out _) fun w2 b2 => ?_
  clear oX0
  go_wp2_with fail
  refine vM (h3.out _ (ft.later (bC (bC (bA (bA (bA (Below.refl _ _) _) _) _) b1) b2))) fun w3 b3 => ?_
  go_wp2_with fail
  go_ret
  exact ⟨rfl, (bC (bC (bC (bA (bA (bA (Below.refl _ _) _) _) _) b1) b2) b3)⟩

set_option maxHeartbeats 4000000 in
theorem turn19_no3 (f m ah al bh bl : Int) (t : Bool)
    (h0 : Hid (∀ w, FTab w → Ca 22 #[.int .u8 f] w (.bool true)))
    (h1 : Hid (∀ w, Ca 23 #[.int .u8 m] w (.bool true)))
    (h3 : Hid (∀ w, FTab w → Ca 13 #[] w (.bool true))) (AN : Hid (∀ w, FTab w → ∀ p T, HB w p T #[.int .u64 ah, .int .u64 al, .int .u64 bh, .int .u64 bl] → Ca 24 #[.int .u8 f, .func (.func 25) #[] #[], .slice (some ⟨p, 0, none⟩) 2 2] w (.bool true))) (w : World) (ft : FTab w) :
    Ca 6 #[.int .u8 f, .agg #[.int .u8 m, .bool t], U2 ah al, U2 bh bl] w (.bool true) := by
  simp only [Ca, U2] at *
  go_enter Tryz.func6, Tryz.ntmps6
  go_wp2_with fail
  refine vM (h0.out _ (ft.later (bA (bA (bA (Below.refl _ _) _) _) _))) fun w1 b1 => ?_
  have X0 := (((HB.newAt (b := w.heap.size) (by simp) _ _).alloc _).alloc _).later b1
  have X1 := ((HB.newAt (b := w.heap.size + 1) (by simp) _ _).alloc _).later b1
  have X2 := (HB.newAt (b := w.heap.size + 1 + 1) (by simp) _ _).later b1
  have oX0 := X0.o
  go_wp2_with fail
  refine vM (h1.out _) fun w2 b2 => ?_
  clear oX0
  replace X1 := X1.later b2
  have oX1 := X1.o
  replace X2 := X2.later b2
  have oX2 := X2.o
  go_wp2_with fail
  refine vM (AN.out _ (ft.later (bA (bC (bC (bA (bA (bA (Below.refl _ _) _) _) _) b1) b2) _)) _ _ (HB.newAt (b := w2.heap.size) (by simp) _ _)) fun w3 b3 => ?_
  clear oX1 oX2
  go_wp2_with fail
  refine vM (h3.out _ (ft.later (bC (bC (bC (bA (bA (bA (Below.refl _ _) _) _) _) b1) b2) (bC (bA (Below.refl _ _) _) b3)))) fun w4 b4 => ?_
  go_wp2_with fail
  go_ret
  exact ⟨rfl, (bC (bC (bC (bC (bA (bA (bA (Below.refl _ _) _) _) _) b1) b2) (bC (bA (Below.refl _ _) _) b3)) b4)⟩

set_option maxHeartbeats 4000000 in
theorem turn19_main (f m ah al bh bl mu rh rl fl ph pl qh ql yh yl vh vl : Int) (t : Bool)
    (h0 : Hid (∀ w, FTab w → Ca 22 #[.int .u8 f] w (.bool true)))
    (h1 : Hid (∀ w, Ca 23 #[.int .u8 m] w (.bool true)))
    (h3 : Hid (∀ w, FTab w → Ca 11 #[.int .u8 f, .agg #[.int .u8 m, .bool t], U2 ah al, U2 bh bl] w (.agg #[.int .u64 rh, .int .u64 rl, .int .u8 fl])))
    (h4 : Hid (∀ w, Ca 26 #[.int .u8 m] w (.int .u8 mu)))
    (h5 : Hid (∀ w, FTab w → Ca 27 #[.int .u8 f, U2 ah al] w (U2 ph pl)))
    (h6 : Hid (∀ w, FTab w → Ca 11 #[.int .u8 f, .agg #[.int .u8 mu, .bool t], U2 ph pl, U2 bh bl] w (.agg #[.int .u64 yh, .int .u64 yl, .int .u8 fl])))
    (h7 : Hid (∀ w, FTab w → Ca 11 #[.int .u8 f, .agg #[.int .u8 m, .bool t], U2 bh bl, U2 ah al] w (.agg #[.int .u64 rh, .int .u64 rl, .int .u8 fl])))
    (h9 : Hid (∀ w, FTab w → Ca 27 #[.int .u8 f, U2 bh bl] w (U2 qh ql)))
    (h10 : Hid (∀ w, FTab w → Ca 11 #[.int .u8 f, .agg #[.int .u8 m, .bool t], U2 ph pl, U2 qh ql] w (.agg #[.int .u64 rh, .int .u64 rl, .int .u8 fl]))) (AN : Hid (∀ w, FTab w → ∀ p T, HB w p T #[.int .u64 ah, .int .u64 al, .int .u64 bh, .int .u64 bl] → Ca 24 #[.int .u8 f, .func (.func 25) #[] #[], .slice (some ⟨p, 0, none⟩) 2 2] w (.bool false)))
    (HH : ((∀ w, (binOp .eql 31 (.agg #[.int .u64 yh, .int .u64 yl, .int .u8 fl]) (.agg #[.int .u64 rh, .int .u64 rl, .int .u8 fl])).run Tryz.prog w = .ok (.bool true) w) ∧ Hid (∀ w, FTab w → Ca 25 #[.int .u8 f, U2 rh rl] w (.bool true)) ∧ Hid (∀ w, FTab w → Ca 13 #[] w (.bool true))) ∨ ((∀ w, (binOp .eql 28 (U2 yh yl) (U2 vh vl)).run Tryz.prog w = .ok (.bool true) w) ∧ Hid (∀ w, FTab w → Ca 25 #[.int .u8 f, U2 rh rl] w (.bool false)) ∧ Hid (∀ w, FTab w → Ca 27 #[.int .u8 f, U2 rh rl] w (U2 vh vl)) ∧ Hid (∀ w, FTab w → Ca 13 #[] w (.bool true)))) (w : World) (ft : FTab w) :
    Ca 6 #[.int .u8 f, .agg #[.int .u8 m, .bool t], U2 ah al, U2 bh bl] w (.bool true) := by
  simp only [Ca, U2] at *
  have NE := neqr19 rh rl fl
  go_enter Tryz.func6, Tryz.ntmps6
  go_wp2_with fail
  refine vM (h0.out _ (ft.later (bA (bA (bA (Below.refl _ _) _) _) _))) fun w1 b1 => ?_
  have X0 := (((HB.newAt (b := w.heap.size) (by simp) _ _).alloc _).alloc _).later b1
  have X1 := ((HB.newAt (b := w.heap.size + 1) (by simp) _ _).alloc _).later b1
  have X2 := (HB.newAt (b := w.heap.size + 1 + 1) (by simp) _ _).later b1
  have oX0 := X0.o
  go_wp2_with fail
  refine vM (h1.out _) fun w2 b2 => ?_
  clear oX0
  replace X1 := X1.later b2
  have oX1 := X1.o
  replace X2 := X2.later b2
  have oX2 := X2.o
  go_wp2_with fail
  refine vM (AN.out _ (ft.later (bA (bC (bC (bA (bA (bA (Below.refl _ _) _) _) _) b1) b2) _)) _ _ (HB.newAt (b := w2.heap.size) (by simp) _ _)) fun w3 b3 => ?_
  clear oX1 oX2
  replace X0 := X0.later (bC b2 (bC (bA (Below.refl _ _) _) b3))
  have oX0 := X0.o
  replace X1 := X1.later (bC (bA (Below.refl _ _) _) b3)
  have oX1 := X1.o
  replace X2 := X2.later (bC (bA (Below.refl _ _) _) b3)
  have oX2 := X2.o
  go_wp2_with fail
  refine vM (h3.out _ (ft.later (bC (bC (bC (bA (bA (bA (Below.refl _ _) _) _) _) b1) b2) (bC (bA (Below.refl _ _) _) b3)))) fun w4 b4 => ?_
  clear oX0 oX1 oX2
  replace X0 := X0.later b4
  have oX0 := X0.o
  go_wp2_with fail
  refine vM (h4.out _) fun w5 b5 => ?_
  have gX5 : w.heap.size ≤ w4.heap.size + 1 := by have := (bC (bC (bC (bC (bA (bA (bA (Below.refl _ _) _) _) _) b1) b2) (bC (bA (Below.refl _ _) _) b3)) b4).size; omega
  have nX0_X5 : w.heap.size < w4.heap.size + 1 := by have := X0.lt; omega
  replace X1 := X1.later b4
  have nX1_X5 : w.heap.size + 1 < w4.heap.size + 1 := by have := X1.lt; omega
  replace X2 := X2.later b4
  have nX2_X5 : w.heap.size + 1 + 1 < w4.heap.size + 1 := by have := X2.lt; omega
  have X4 := ((HB.newAt (b := w4.heap.size) (by simp) _ _).alloc _).later b5
  have X5 := (HB.newAt (b := w4.heap.size + 1) (by simp) _ _).later b5
  clear oX0
  have oX5 := X5.o
  replace X0 := X0.later (bC (bA (bA (Below.refl _ _) _) _) b5)
  replace X1 := X1.later (bC (bA (bA (Below.refl _ _) _) _) b5)
  replace X2 := X2.later (bC (bA (bA (Below.refl _ _) _) _) b5)
  go_wp2_with fail
  refine wp_forget (fun W => HB W w.heap.size 25 #[.int .u8 m, .bool t] ∧ HB W (w.heap.size + 1) 28 #[.int .u64 ah, .int .u64 al] ∧ HB W (w.heap.size + 1 + 1) 28 #[.int .u64 bh, .int .u64 bl] ∧ HB W w4.heap.size 31 #[.int .u64 rh, .int .u64 rl, .int .u8 fl] ∧ HB W (w4.heap.size + 1) 25 #[.int .u8 mu, .bool t] ∧ Below w.heap.size w W) ⟨(X0.other (by omega) 0 _), (X1.other (by omega) 0 _), (X2.other (by omega) 0 _), (X4.other (by omega) 0 _), (X5.set 0 _), ((bC (bC (bC (bC (bC (bA (bA (bA (Below.refl _ _) _) _) _) b1) b2) (bC (bA (Below.refl _ _) _) b3)) b4) (bC (bA (bA (Below.refl _ _) _) _) b5)).setCell (p := ⟨w4.heap.size + 1, 0, none⟩) gX5 _)⟩ (fun w6 hst => ?_)
  obtain ⟨X0, X1, X2, X4, X5, kk⟩ := hst
  clear oX5
  refine vR [] fun w7 kz7 S => ?_
  refine vT 0 S ?_
  refine vT 1 S ?_ (hy := by intro wq hb; have q := (hb.hb X5 (by simp)).o; go_simp; try (with_reducible rfl))
  refine vT 2 S ?_
  refine vT 3 S ?_ (hy := by intro wq hb; have q := (hb.hb X1 (by simp)).o; go_simp; try (with_reducible rfl))
  refine vT 5 S ?_ (hy := by intro wq hb; have q := (hb.hb X2 (by simp)).o; go_simp; try (with_reducible rfl))
  refine vY2 (cC 4 S (h5.out _ (ft.later (bC kk kz7))) fun w8 b8 => ?_) (cA 7 S fun w9 pp6_0 h X6 b9 => ?_)
  replace kz7 := bC kz7 b8
  clear S b8 w7
  revert kz7; revert w8
  refine ?s7_0; rotate_left
  have jX6 := (Nat.le_trans kz7.size h); replace kz7 := bC kz7 b9
  clear S b9 h w7
  revert kz7; revert jX6; revert X6; revert pp6_0; revert w9
  refine ?s7_1; rotate_left
  intro w10 kz7
  have S := Off.ofB kz7
  refine vY2 (cC 6 S (h6.out _ (ft.later (bC kk kz7))) fun w11 b11 => ?_) (cA 7 S fun w12 pp6_0 h X6 b12 => ?_)
  replace kz7 := bC kz7 b11
  clear S b11 w10
  revert kz7; revert w11
  refine ?s7_2; rotate_left
  have jX6 := (Nat.le_trans kz7.size h); replace kz7 := bC kz7 b12
  clear S b12 h w10
  revert kz7; revert jX6; revert X6; revert pp6_0; revert w12
  refine ?s7_3; rotate_left
  intro w13 pp6_0 X6 jX6 kz7
  have S := Off.ofB kz7
  refine vY1 (cC 4 S (h5.out _ (ft.later (bC kk kz7))) fun w14 b14 => ?s7_3 w14 pp6_0 (X6.later b14) jX6 (bC kz7 b14))
  intro w15 kz7
  have S := Off.ofB kz7
  refine vY1 (cA 7 S fun w16 pp6_0 h X6 b16 => ?_)
  have jX6 := (Nat.le_trans kz7.size h); replace kz7 := bC kz7 b16
  clear S b16 h w15
  revert kz7; revert jX6; revert X6; revert pp6_0; revert w16
  refine ?s7_4; rotate_left
  intro w17 pp6_0 X6 jX6 kz7
  have S := Off.ofB kz7
  refine vY1 (cC 6 S (h6.out _ (ft.later (bC kk kz7))) fun w18 b18 => ?s7_4 w18 pp6_0 (X6.later b18) jX6 (bC kz7 b18))
  intro w19 pp6_0 X6 jX6 kz7
  have S := Off.ofB kz7
  refine vY1 (vO 8 fun K hK => ?_)
  have q := X6.o
  go_simp
  refine vW (fun W => HB W pp6_0 31 #[.int .u64 yh, .int .u64 yl, .int .u8 fl] ∧ Below w6.heap.size w6 W) ⟨(((X6.set 0 _).set 1 _).set 2 _), (((kz7.setCell (p := ⟨pp6_0, 0, none⟩) jX6 _).setCell (p := ⟨pp6_0, 1, none⟩) jX6 _).setCell (p := ⟨pp6_0, 2, none⟩) jX6 _)⟩ fun w21 hz => ?_
  clear q X6 S kz7 w19; obtain ⟨X6, kz7⟩ := hz
  refine hK.out _ _ (Off.ofB kz7) fun S => ?_; clear hK K S; refine vP ?_
  revert kz7; revert jX6; revert X6; revert pp6_0; revert w21
  refine ?s7_5; rotate_left
  intro w22 pp6_0 X6 jX6 kz7
  refine vD ?_
  have nX0_X6 : w.heap.size < pp6_0 := by have := X0.lt; omega
  have nX1_X6 : w.heap.size + 1 < pp6_0 := by have := X1.lt; omega
  have nX2_X6 : w.heap.size + 1 + 1 < pp6_0 := by have := X2.lt; omega
  have nX4_X6 : w4.heap.size < pp6_0 := by have := X4.lt; omega
  have gX6 : w.heap.size ≤ pp6_0 := by have := kk.size; omega
  go_wp2_with fail
  replace X0 := X0.later kz7
  replace X1 := X1.later kz7
  replace X2 := X2.later kz7
  replace X4 := X4.later kz7
  refine vR [] fun w23 b23 S23 => ?_
  refine vT 0 S23 ?_ (hy := by intro wq hb; have q := (hb.hb X4 (by simp)).o; go_simp; try (with_reducible rfl))
  refine vT 1 S23 ?_
  refine vT 2 S23 ?_ (hy := by intro wq hb; have q := (hb.hb X0 (by simp)).o; go_simp; try (with_reducible rfl))
  refine vT 3 S23 ?_ (hy := by intro wq hb; have q := (hb.hb X2 (by simp)).o; go_simp; try (with_reducible rfl))
  refine vT 4 S23 ?_ (hy := by intro wq hb; have q := (hb.hb X1 (by simp)).o; go_simp; try (with_reducible rfl))
  refine vY1 (vC 5 S23 (h7.out _ (ft.later (bC kk (bC kz7 b23)))) (fun _ _ => Off.later) fun w24 b24 S24 => ?_)
  refine vT 6 S24 ?_
  refine vT 7 S24 ?_
  refine vT 8 S24 ?_
  refine vT 9 S24 ?_ (hy := by intro wq hb; have q := (hb.hb X4 (by simp)).o; go_simp; try (with_reducible rfl))
  refine vT 10 S24 ?_
  refine vT 11 S24 ?_ (hy := by intro wq hb; have q := (hb.hb X6 (by simp)).o; go_simp; try (with_reducible rfl))
  refine vT 12 S24 ?_
  refine vT 13 S24 ?_
  refine vT 14 S24 ?_
  refine vT 15 S24 ?_ (hy := by intro wq hb; have q := (hb.hb X4 (by simp)).o; go_simp; try (with_reducible rfl))
  refine vT 16 S24 ?_
  refine vT 17 S24 ?_ (hy := by intro wq hb; have q := (hb.hb X0 (by simp)).o; go_simp; try (with_reducible rfl))
  refine vT 18 S24 ?_
  refine vT 19 S24 ?_ (hy := by intro wq hb; have q := (hb.hb X1 (by simp)).o; go_simp; try (with_reducible rfl))
  refine vT 21 S24 ?_
  refine vT 22 S24 ?_ (hy := by intro wq hb; have q := (hb.hb X2 (by simp)).o; go_simp; try (with_reducible rfl))
  refine vY1 (vC 20 S24 (h5.out _ (ft.later (bC kk (bC (bC kz7 b23) b24)))) (fun _ _ => Off.later) fun w25 b25 S25 => ?_)
  refine vY1 (vC 23 S25 (h9.out _ (ft.later (bC kk (bC (bC (bC kz7 b23) b24) b25)))) (fun _ _ => Off.later) fun w26 b26 S26 => ?_)
  refine vY1 (vC 24 S26 (h10.out _ (ft.later (bC kk (bC (bC (bC (bC kz7 b23) b24) b25) b26)))) (fun _ _ => Off.later) fun w27 b27 S27 => ?_)
  refine vT 25 S27 ?_
  refine vT 26 S27 ?_
  refine vD ?_
  replace X4 := X4.later (bC (bC (bC (bC b23 b24) b25) b26) b27)
  have oX4 := X4.o
  rcases HH with ⟨nq, h11, h12⟩ | ⟨nq, h11, h12, h13⟩
  · go_wp2_with fail
    refine vM (h11.out _ (ft.later (bC kk (bC (bC (bC (bC (bC kz7 b23) b24) b25) b26) b27)))) fun w28 b28 => ?_
    clear oX4
    replace X6 := X6.later (bC (bC (bC (bC (bC b23 b24) b25) b26) b27) b28)
    have oX6 := X6.o
    replace X4 := X4.later b28
    have oX4 := X4.o
    go_wp2_with fail
    refine vM (h12.out _ (ft.later (bC kk (bC (bC (bC (bC (bC (bC kz7 b23) b24) b25) b26) b27) b28)))) fun w29 b29 => ?_
    clear oX6 oX4
    go_wp2_with fail
    go_ret
    exact ⟨rfl, (bC kk (bC (bC (bC (bC (bC (bC (bC kz7 b23) b24) b25) b26) b27) b28) b29))⟩
  · go_wp2_with fail
    refine vM (h11.out _ (ft.later (bC kk (bC (bC (bC (bC (bC kz7 b23) b24) b25) b26) b27)))) fun w28 b28 => ?_
    clear oX4
    go_wp2_with fail
    replace X4 := X4.later b28
    replace X6 := X6.later (bC (bC (bC (bC (bC b23 b24) b25) b26) b27) b28)
    refine vR [] fun w29 b29 S29 => ?_
    refine vT 0 S29 ?_
    refine vT 1 S29 ?_ (hy := by intro wq hb; have q := (hb.hb X6 (by simp)).o; go_simp; try (with_reducible rfl))
    refine vT 2 S29 ?_
    refine vT 3 S29 ?_
    refine vT 4 S29 ?_ (hy := by intro wq hb; have q := (hb.hb X4 (by simp)).o; go_simp; try (with_reducible rfl))
    refine vY1 (vC 5 S29 (h12.out _ (ft.later (bC kk (bC (bC (bC (bC (bC (bC (bC kz7 b23) b24) b25) b26) b27) b28) b29)))) (fun _ _ => Off.later) fun w30 b30 S30 => ?_)
    refine vT 6 S30 ?_
    refine vT 7 S30 ?_
    refine vY1 (vC 8 S30 (h13.out _ (ft.later (bC kk (bC (bC (bC (bC (bC (bC (bC (bC kz7 b23) b24) b25) b26) b27) b28) b29) b30)))) (fun _ _ => Off.later) fun w31 b31 S31 => ?_)
    refine vT 9 S31 ?_
    refine vT 10 S31 ?_
    refine vD ?_
    go_wp2_with fail
    go_ret
    exact ⟨rfl, (bC kk (bC (bC (bC (bC (bC (bC (bC (bC (bC kz7 b23) b24) b25) b26) b27) b28) b29) b30) b31))⟩



end Go.Proofs.YtjnohbpebdnngaaGreatDoor
