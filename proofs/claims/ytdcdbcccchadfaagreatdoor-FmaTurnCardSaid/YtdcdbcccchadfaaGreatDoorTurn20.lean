import Derived.Test.YtdcdbcccchadfaaGreatDoorGwA
import Derived.Test.YtdcdbcccchadfaaGreatDoorGaB
import Derived.Test.YtdcdbcccchadfaaGreatDoorGfA
import Derived.Test.YtdcdbcccchadfaaGreatDoorGhA
import Derived.Test.YtdcdbcccchadfaaGreatDoorGaA
import Derived.Test.YtdcdbcccchadfaaGreatDoorGuA
import Derived.Test.YtdcdbcccchadfaaGreatDoorRest0
set_option maxHeartbeats 4000000
set_option linter.unusedVariables false
set_option linter.unusedSimpArgs false
set_option maxRecDepth 100000
namespace Go.Proofs.YtdcdbcccchadfaaGreatDoor
open Go.RowKit
attribute [local go_sem ↓] Go.wp_at_zero Go.wp_at_succ
theorem turn20_no1 (f m ah al bh bl ch cl : Int) (t : Bool)
    (h0 : Hid (∀ w, FTab w → Ca 13 #[.int .u8 f] w (.bool false)))
    (h3 : Hid (∀ w, FTab w → Ca 12 #[] w (.bool true))) (w : World) (ft : FTab w) :
    Ca 7 #[.int .u8 f, .agg #[.int .u8 m, .bool t], U2 ah al, U2 bh bl, U2 ch cl] w (.bool true) := by
  simp only [Ca, U2] at *
  go_enter Tryz.func7, Tryz.ntmps7
  go_wp2_with fail
  refine vM (h0.out _ (ft.later (bA (bA (bA (bA bR _) _) _) _))) fun w1 b1 => ?_
  go_wp2_with fail
  refine vM (h3.out _ (ft.later (bC (bA (bA (bA (bA bR _) _) _) _) b1))) fun w2 b2 => ?_
  go_wp2_with fail
  go_ret
  exact ⟨rfl, (bC (bC (bA (bA (bA (bA bR _) _) _) _) b1) b2)⟩
theorem turn20_no2 (f m ah al bh bl ch cl : Int) (t : Bool)
    (h0 : Hid (∀ w, FTab w → Ca 13 #[.int .u8 f] w (.bool true)))
    (h1 : Hid (∀ w, Ca 24 #[.int .u8 m] w (.bool false)))
    (h3 : Hid (∀ w, FTab w → Ca 12 #[] w (.bool true))) (w : World) (ft : FTab w) :
    Ca 7 #[.int .u8 f, .agg #[.int .u8 m, .bool t], U2 ah al, U2 bh bl, U2 ch cl] w (.bool true) := by
  simp only [Ca, U2] at *
  go_enter Tryz.func7, Tryz.ntmps7
  go_wp2_with fail
  refine vM (h0.out _ (ft.later (bA (bA (bA (bA bR _) _) _) _))) fun w1 b1 => ?_
  have X0 := ((((HB.newAt (b := w.heap.size) (by simp) _ _).alloc _).alloc _).alloc _).later b1
  have oX0 := X0.o
  go_wp2_with fail
  refine vM (h1.out _) fun w2 b2 => ?_
  clear oX0
  go_wp2_with fail
  refine vM (h3.out _ (ft.later (bC (bC (bA (bA (bA (bA bR _) _) _) _) b1) b2))) fun w3 b3 => ?_
  go_wp2_with fail
  go_ret
  exact ⟨rfl, (bC (bC (bC (bA (bA (bA (bA bR _) _) _) _) b1) b2) b3)⟩
theorem turn20_no3 (f m ah al bh bl ch cl : Int) (t : Bool)
    (h0 : Hid (∀ w, FTab w → Ca 13 #[.int .u8 f] w (.bool true)))
    (h1 : Hid (∀ w, Ca 24 #[.int .u8 m] w (.bool true)))
    (h3 : Hid (∀ w, FTab w → Ca 12 #[] w (.bool true))) (AN : Hid (∀ w, FTab w → ∀ p T, HB w p T #[.int .u64 ah, .int .u64 al, .int .u64 bh, .int .u64 bl, .int .u64 ch, .int .u64 cl] → Ca 25 #[.int .u8 f, .func (.func 26) #[] #[], .slice (some ⟨p, 0, none⟩) 3 3] w (.bool true))) (w : World) (ft : FTab w) :
    Ca 7 #[.int .u8 f, .agg #[.int .u8 m, .bool t], U2 ah al, U2 bh bl, U2 ch cl] w (.bool true) := by
  simp only [Ca, U2] at *
  go_enter Tryz.func7, Tryz.ntmps7
  go_wp2_with fail
  refine vM (h0.out _ (ft.later (bA (bA (bA (bA bR _) _) _) _))) fun w1 b1 => ?_
  have X0 := ((((HB.newAt (b := w.heap.size) (by simp) _ _).alloc _).alloc _).alloc _).later b1
  have X1 := (((HB.newAt (b := w.heap.size + 1) (by simp) _ _).alloc _).alloc _).later b1
  have X2 := ((HB.newAt (b := w.heap.size + 1 + 1) (by simp) _ _).alloc _).later b1
  have X3 := (HB.newAt (b := w.heap.size + 1 + 1 + 1) (by simp) _ _).later b1
  have oX0 := X0.o
  go_wp2_with fail
  refine vM (h1.out _) fun w2 b2 => ?_
  clear oX0
  replace X1 := X1.later b2
  have oX1 := X1.o
  replace X2 := X2.later b2
  have oX2 := X2.o
  replace X3 := X3.later b2
  have oX3 := X3.o
  go_wp2_with fail
  refine vM (AN.out _ (ft.later (bA (bC (bC (bA (bA (bA (bA bR _) _) _) _) b1) b2) _)) _ _ (HB.newAt (b := w2.heap.size) (by simp) _ _)) fun w3 b3 => ?_
  clear oX1 oX2 oX3
  go_wp2_with fail
  refine vM (h3.out _ (ft.later (bC (bC (bC (bA (bA (bA (bA bR _) _) _) _) b1) b2) (bC (bA bR _) b3)))) fun w4 b4 => ?_
  go_wp2_with fail
  go_ret
  exact ⟨rfl, (bC (bC (bC (bC (bA (bA (bA (bA bR _) _) _) _) b1) b2) (bC (bA bR _) b3)) b4)⟩
theorem turn20_main (f m ah al bh bl ch cl mu k rh rl fl ph pl qh ql yh yl vh vl : Int) (t kn yn : Bool)
    (h0 : Hid (∀ w, FTab w → Ca 13 #[.int .u8 f] w (.bool true)))
    (h1 : Hid (∀ w, Ca 24 #[.int .u8 m] w (.bool true)))
    (h3 : Hid (∀ w, FTab w → Ca 10 #[.int .u8 f, .agg #[.int .u8 m, .bool t], U2 ah al, U2 bh bl, U2 ch cl] w (.agg #[.int .u64 rh, .int .u64 rl, .int .u8 fl])))
    (h4 : Hid (∀ w, Ca 27 #[.int .u8 m] w (.int .u8 mu)))
    (h5 : Hid (∀ w, FTab w → Ca 19 #[.int .u8 f, U2 ah al] w (U2 ph pl)))
    (h6 : Hid (∀ w, FTab w → Ca 19 #[.int .u8 f, U2 ch cl] w (U2 qh ql)))
    (h7 : Hid (∀ w, FTab w → Ca 10 #[.int .u8 f, .agg #[.int .u8 mu, .bool t], U2 ph pl, U2 bh bl, U2 qh ql] w (.agg #[.int .u64 yh, .int .u64 yl, .int .u8 fl])))
    (h8 : Hid (∀ w, FTab w → Ca 10 #[.int .u8 f, .agg #[.int .u8 m, .bool t], U2 bh bl, U2 ah al, U2 ch cl] w (.agg #[.int .u64 rh, .int .u64 rl, .int .u8 fl])))
    (h9 : Hid (∀ w, FTab w → Ca 20 #[.int .u8 f, U2 rh rl] w (.tuple #[.int .u8 k, .bool kn]))) (AN : Hid (∀ w, FTab w → ∀ p T, HB w p T #[.int .u64 ah, .int .u64 al, .int .u64 bh, .int .u64 bl, .int .u64 ch, .int .u64 cl] → Ca 25 #[.int .u8 f, .func (.func 26) #[] #[], .slice (some ⟨p, 0, none⟩) 3 3] w (.bool false)))
    (HH : (((k == 0) = true) ∧ Hid (∀ w, FTab w → Ca 20 #[.int .u8 f, U2 yh yl] w (.tuple #[.int .u8 0, .bool yn])) ∧ Hid (∀ w, FTab w → Ca 12 #[] w (.bool true))) ∨ (((k == 0) = false) ∧ (∀ w, (binOp .eql 31 (.agg #[.int .u64 rh, .int .u64 rl, .int .u8 fl]) (.agg #[.int .u64 yh, .int .u64 yl, .int .u8 fl])).run Tryz.prog w = .ok (.bool true) w) ∧ Hid (∀ w, FTab w → Ca 26 #[.int .u8 f, U2 rh rl] w (.bool true)) ∧ Hid (∀ w, FTab w → Ca 12 #[] w (.bool true))) ∨ (((k == 0) = false) ∧ (∀ w, (binOp .eql 28 (U2 yh yl) (U2 vh vl)).run Tryz.prog w = .ok (.bool true) w) ∧ Hid (∀ w, FTab w → Ca 26 #[.int .u8 f, U2 rh rl] w (.bool false)) ∧ Hid (∀ w, FTab w → Ca 19 #[.int .u8 f, U2 rh rl] w (U2 vh vl)) ∧ Hid (∀ w, FTab w → Ca 12 #[] w (.bool true)))) (w : World) (ft : FTab w) :
    Ca 7 #[.int .u8 f, .agg #[.int .u8 m, .bool t], U2 ah al, U2 bh bl, U2 ch cl] w (.bool true) := by
  simp only [Ca, U2] at *
  have NE := neqr20 rh rl fl
  go_enter Tryz.func7, Tryz.ntmps7
  go_wp2_with fail
  refine vM (h0.out _ (ft.later (bA (bA (bA (bA bR _) _) _) _))) fun w1 b1 => ?_
  have X0 := ((((HB.newAt (b := w.heap.size) (by simp) _ _).alloc _).alloc _).alloc _).later b1
  have X1 := (((HB.newAt (b := w.heap.size + 1) (by simp) _ _).alloc _).alloc _).later b1
  have X2 := ((HB.newAt (b := w.heap.size + 1 + 1) (by simp) _ _).alloc _).later b1
  have X3 := (HB.newAt (b := w.heap.size + 1 + 1 + 1) (by simp) _ _).later b1
  have oX0 := X0.o
  go_wp2_with fail
  refine vM (h1.out _) fun w2 b2 => ?_
  clear oX0
  replace X1 := X1.later b2
  have oX1 := X1.o
  replace X2 := X2.later b2
  have oX2 := X2.o
  replace X3 := X3.later b2
  have oX3 := X3.o
  go_wp2_with fail
  refine vM (AN.out _ (ft.later (bA (bC (bC (bA (bA (bA (bA bR _) _) _) _) b1) b2) _)) _ _ (HB.newAt (b := w2.heap.size) (by simp) _ _)) fun w3 b3 => ?_
  clear oX1 oX2 oX3
  replace X0 := X0.later (bC b2 (bC (bA bR _) b3))
  have oX0 := X0.o
  replace X1 := X1.later (bC (bA bR _) b3)
  have oX1 := X1.o
  replace X2 := X2.later (bC (bA bR _) b3)
  have oX2 := X2.o
  replace X3 := X3.later (bC (bA bR _) b3)
  have oX3 := X3.o
  go_wp2_with fail
  refine vM (h3.out _ (ft.later (bC (bC (bC (bA (bA (bA (bA bR _) _) _) _) b1) b2) (bC (bA bR _) b3)))) fun w4 b4 => ?_
  clear oX0 oX1 oX2 oX3
  replace X0 := X0.later b4
  have oX0 := X0.o
  go_wp2_with fail
  refine vM (h4.out _) fun w5 b5 => ?_
  have gX6 : w.heap.size ≤ w4.heap.size + 1 := by have := (bC (bC (bC (bC (bA (bA (bA (bA bR _) _) _) _) b1) b2) (bC (bA bR _) b3)) b4).size; omega
  have nX0_X6 : w.heap.size < w4.heap.size + 1 := by have := X0.lt; omega
  replace X1 := X1.later b4
  have nX1_X6 : w.heap.size + 1 < w4.heap.size + 1 := by have := X1.lt; omega
  replace X2 := X2.later b4
  have nX2_X6 : w.heap.size + 1 + 1 < w4.heap.size + 1 := by have := X2.lt; omega
  replace X3 := X3.later b4
  have nX3_X6 : w.heap.size + 1 + 1 + 1 < w4.heap.size + 1 := by have := X3.lt; omega
  have X5 := ((HB.newAt (b := w4.heap.size) (by simp) _ _).alloc _).later b5
  have X6 := (HB.newAt (b := w4.heap.size + 1) (by simp) _ _).later b5
  clear oX0
  have oX6 := X6.o
  replace X0 := X0.later (bC (bA (bA bR _) _) b5)
  replace X1 := X1.later (bC (bA (bA bR _) _) b5)
  replace X2 := X2.later (bC (bA (bA bR _) _) b5)
  replace X3 := X3.later (bC (bA (bA bR _) _) b5)
  go_wp2_with fail
  refine wp_forget (fun W => HB W w.heap.size 25 #[.int .u8 m, .bool t] ∧ HB W (w.heap.size + 1) 28 #[.int .u64 ah, .int .u64 al] ∧ HB W (w.heap.size + 1 + 1) 28 #[.int .u64 bh, .int .u64 bl] ∧ HB W (w.heap.size + 1 + 1 + 1) 28 #[.int .u64 ch, .int .u64 cl] ∧ HB W w4.heap.size 31 #[.int .u64 rh, .int .u64 rl, .int .u8 fl] ∧ HB W (w4.heap.size + 1) 25 #[.int .u8 mu, .bool t] ∧ Below w.heap.size w W) ⟨(X0.other (by omega) 0 _), (X1.other (by omega) 0 _), (X2.other (by omega) 0 _), (X3.other (by omega) 0 _), (X5.other (by omega) 0 _), (X6.set 0 _), ((bC (bC (bC (bC (bC (bA (bA (bA (bA bR _) _) _) _) b1) b2) (bC (bA bR _) b3)) b4) (bC (bA (bA bR _) _) b5)).setCell (p := ⟨w4.heap.size + 1, 0, none⟩) gX6 _)⟩ (fun w6 hst => ?_)
  obtain ⟨X0, X1, X2, X3, X5, X6, kk⟩ := hst
  clear oX6
  refine vR [] fun w7 kz7 S => ?_
  refine vT 0 S ?_
  refine vT 1 S ?_ (hy := by intro wq hb; have q := (hb.hb X6 (by simp)).o; go_simp; try (with_reducible rfl))
  refine vT 2 S ?_
  refine vT 3 S ?_ (hy := by intro wq hb; have q := (hb.hb X1 (by simp)).o; go_simp; try (with_reducible rfl))
  refine vT 5 S ?_ (hy := by intro wq hb; have q := (hb.hb X2 (by simp)).o; go_simp; try (with_reducible rfl))
  refine vT 6 S ?_
  refine vT 7 S ?_ (hy := by intro wq hb; have q := (hb.hb X3 (by simp)).o; go_simp; try (with_reducible rfl))
  refine vY2 (cC 4 S (h5.out _ (ft.later (bC kk kz7))) fun w8 b8 => ?_) (cA 10 S fun w9 pp6_0 h X7 b9 => ?_)
  replace kz7 := bC kz7 b8
  clear S b8 w7
  revert kz7; revert w8
  refine ?s7_0; rotate_left
  have jX7 := (lZ kz7.size h); replace kz7 := bC kz7 b9
  clear S b9 h w7
  revert kz7; revert jX7; revert X7; revert pp6_0; revert w9
  refine ?s7_1; rotate_left
  intro w10 kz7
  have S := Off.ofB kz7
  refine vY2 (cC 8 S (h6.out _ (ft.later (bC kk kz7))) fun w11 b11 => ?_) (cA 10 S fun w12 pp6_0 h X7 b12 => ?_)
  replace kz7 := bC kz7 b11
  clear S b11 w10
  revert kz7; revert w11
  refine ?s7_2; rotate_left
  have jX7 := (lZ kz7.size h); replace kz7 := bC kz7 b12
  clear S b12 h w10
  revert kz7; revert jX7; revert X7; revert pp6_0; revert w12
  refine ?s7_3; rotate_left
  intro w13 pp6_0 X7 jX7 kz7
  have S := Off.ofB kz7
  refine vY1 (cC 4 S (h5.out _ (ft.later (bC kk kz7))) fun w14 b14 => ?s7_3 w14 pp6_0 (X7.later b14) jX7 (bC kz7 b14))
  intro w15 kz7
  have S := Off.ofB kz7
  refine vY2 (cC 9 S (h7.out _ (ft.later (bC kk kz7))) fun w16 b16 => ?_) (cA 10 S fun w17 pp6_0 h X7 b17 => ?_)
  replace kz7 := bC kz7 b16
  clear S b16 w15
  revert kz7; revert w16
  refine ?s7_4; rotate_left
  have jX7 := (lZ kz7.size h); replace kz7 := bC kz7 b17
  clear S b17 h w15
  revert kz7; revert jX7; revert X7; revert pp6_0; revert w17
  refine ?s7_5; rotate_left
  intro w18 pp6_0 X7 jX7 kz7
  have S := Off.ofB kz7
  refine vY1 (cC 8 S (h6.out _ (ft.later (bC kk kz7))) fun w19 b19 => ?s7_5 w19 pp6_0 (X7.later b19) jX7 (bC kz7 b19))
  intro w20 kz7
  have S := Off.ofB kz7
  refine vY1 (cA 10 S fun w21 pp6_0 h X7 b21 => ?_)
  have jX7 := (lZ kz7.size h); replace kz7 := bC kz7 b21
  clear S b21 h w20
  revert kz7; revert jX7; revert X7; revert pp6_0; revert w21
  refine ?s7_6; rotate_left
  intro w22 pp6_0 X7 jX7 kz7
  have S := Off.ofB kz7
  refine vY1 (cC 9 S (h7.out _ (ft.later (bC kk kz7))) fun w23 b23 => ?s7_6 w23 pp6_0 (X7.later b23) jX7 (bC kz7 b23))
  intro w24 pp6_0 X7 jX7 kz7
  have S := Off.ofB kz7
  refine vY1 (vO 11 fun K hK => ?_)
  have q := X7.o
  go_simp
  refine vW (fun W => HB W pp6_0 31 #[.int .u64 yh, .int .u64 yl, .int .u8 fl] ∧ Below w6.heap.size w6 W) ⟨(((X7.set 0 _).set 1 _).set 2 _), (((kz7.setCell (p := ⟨pp6_0, 0, none⟩) jX7 _).setCell (p := ⟨pp6_0, 1, none⟩) jX7 _).setCell (p := ⟨pp6_0, 2, none⟩) jX7 _)⟩ fun w26 hz => ?_
  clear q X7 S kz7 w24; obtain ⟨X7, kz7⟩ := hz
  refine hK.out _ _ (Off.ofB kz7) fun S => ?_; clear hK K S; refine vP ?_
  revert kz7; revert jX7; revert X7; revert pp6_0; revert w26
  refine ?s7_7; rotate_left
  intro w27 pp6_0 X7 jX7 kz7
  refine vD ?_
  have nX0_X7 : w.heap.size < pp6_0 := by have := X0.lt; omega
  have nX1_X7 : w.heap.size + 1 < pp6_0 := by have := X1.lt; omega
  have nX2_X7 : w.heap.size + 1 + 1 < pp6_0 := by have := X2.lt; omega
  have nX3_X7 : w.heap.size + 1 + 1 + 1 < pp6_0 := by have := X3.lt; omega
  have nX5_X7 : w4.heap.size < pp6_0 := by have := X5.lt; omega
  have gX7 : w.heap.size ≤ pp6_0 := by have := kk.size; omega
  go_wp2_with fail
  replace X0 := X0.later kz7
  replace X1 := X1.later kz7
  replace X2 := X2.later kz7
  replace X3 := X3.later kz7
  replace X5 := X5.later kz7
  refine vR [] fun w28 b28 S28 => ?_
  refine vT 0 S28 ?_ (hy := by intro wq hb; have q := (hb.hb X5 (by simp)).o; go_simp; try (with_reducible rfl))
  refine vT 1 S28 ?_
  refine vT 2 S28 ?_ (hy := by intro wq hb; have q := (hb.hb X0 (by simp)).o; go_simp; try (with_reducible rfl))
  refine vT 3 S28 ?_ (hy := by intro wq hb; have q := (hb.hb X2 (by simp)).o; go_simp; try (with_reducible rfl))
  refine vT 4 S28 ?_ (hy := by intro wq hb; have q := (hb.hb X1 (by simp)).o; go_simp; try (with_reducible rfl))
  refine vT 5 S28 ?_ (hy := by intro wq hb; have q := (hb.hb X3 (by simp)).o; go_simp; try (with_reducible rfl))
  refine vY1 (vC 6 S28 (h8.out _ (ft.later (bC kk (bC kz7 b28)))) (fun _ _ => Off.later) fun w29 b29 S29 => ?_)
  refine vT 7 S29 ?_
  refine vT 8 S29 ?_
  refine vT 9 S29 ?_
  refine vT 10 S29 ?_ (hy := by intro wq hb; have q := (hb.hb X5 (by simp)).o; go_simp; try (with_reducible rfl))
  refine vT 11 S29 ?_
  refine vT 12 S29 ?_ (hy := by intro wq hb; have q := (hb.hb X7 (by simp)).o; go_simp; try (with_reducible rfl))
  refine vT 13 S29 ?_
  refine vT 14 S29 ?_
  refine vD ?_
  replace X5 := X5.later (bC b28 b29)
  have oX5 := X5.o
  go_wp2_with fail
  refine vM (h9.out _ (ft.later (bC kk (bC (bC kz7 b28) b29)))) fun w30 b30 => ?_
  rcases HH with ⟨gk, h10, h11⟩ | ⟨gk, nq, h10, h11⟩ | ⟨gk, nq, h10, h11, h12⟩
  · clear oX5
    replace X7 := X7.later (bC (bC b28 b29) b30)
    have oX7 := X7.o
    go_wp2_with fail
    refine vM (h10.out _ (ft.later (bC kk (bC (bC (bC kz7 b28) b29) b30)))) fun w31 b31 => ?_
    clear oX7
    go_wp2_with fail
    refine vM (h11.out _ (ft.later (bC kk (bC (bC (bC (bC kz7 b28) b29) b30) b31)))) fun w32 b32 => ?_
    go_wp2_with fail
    go_ret
    exact ⟨rfl, (bC kk (bC (bC (bC (bC (bC kz7 b28) b29) b30) b31) b32))⟩
  · clear oX5
    replace X5 := X5.later b30
    have oX5 := X5.o
    go_wp2_with fail
    refine vM (h10.out _ (ft.later (bC kk (bC (bC (bC kz7 b28) b29) b30)))) fun w31 b31 => ?_
    clear oX5
    replace X5 := X5.later b31
    have oX5 := X5.o
    replace X7 := X7.later (bC (bC (bC b28 b29) b30) b31)
    have oX7 := X7.o
    go_wp2_with fail
    refine vM (h11.out _ (ft.later (bC kk (bC (bC (bC (bC kz7 b28) b29) b30) b31)))) fun w32 b32 => ?_
    clear oX5 oX7
    go_wp2_with fail
    go_ret
    exact ⟨rfl, (bC kk (bC (bC (bC (bC (bC kz7 b28) b29) b30) b31) b32))⟩
  · clear oX5
    replace X5 := X5.later b30
    have oX5 := X5.o
    go_wp2_with fail
    refine vM (h10.out _ (ft.later (bC kk (bC (bC (bC kz7 b28) b29) b30)))) fun w31 b31 => ?_
    clear oX5
    go_wp2_with fail
    replace X5 := X5.later b31
    replace X7 := X7.later (bC (bC (bC b28 b29) b30) b31)
    refine vR [] fun w32 b32 S32 => ?_
    refine vT 0 S32 ?_
    refine vT 1 S32 ?_ (hy := by intro wq hb; have q := (hb.hb X7 (by simp)).o; go_simp; try (with_reducible rfl))
    refine vT 2 S32 ?_
    refine vT 3 S32 ?_
    refine vT 4 S32 ?_ (hy := by intro wq hb; have q := (hb.hb X5 (by simp)).o; go_simp; try (with_reducible rfl))
    refine vY1 (vC 5 S32 (h11.out _ (ft.later (bC kk (bC (bC (bC (bC (bC kz7 b28) b29) b30) b31) b32)))) (fun _ _ => Off.later) fun w33 b33 S33 => ?_)
    refine vT 6 S33 ?_
    refine vT 7 S33 ?_
    refine vY1 (vC 8 S33 (h12.out _ (ft.later (bC kk (bC (bC (bC (bC (bC (bC kz7 b28) b29) b30) b31) b32) b33)))) (fun _ _ => Off.later) fun w34 b34 S34 => ?_)
    refine vT 9 S34 ?_
    refine vT 10 S34 ?_
    refine vD ?_
    go_wp2_with fail
    go_ret
    exact ⟨rfl, (bC kk (bC (bC (bC (bC (bC (bC (bC kz7 b28) b29) b30) b31) b32) b33) b34))⟩
end Go.Proofs.YtdcdbcccchadfaaGreatDoor
