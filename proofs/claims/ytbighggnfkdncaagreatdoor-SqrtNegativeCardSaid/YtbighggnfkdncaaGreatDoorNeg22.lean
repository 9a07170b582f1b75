import Derived.Test.YtbighggnfkdncaaGreatDoorRest0
set_option maxHeartbeats 4000000
set_option linter.unusedVariables false
set_option linter.unusedSimpArgs false
set_option maxRecDepth 100000
namespace Go.Proofs.YtbighggnfkdncaaGreatDoor
open Go.RowKit
attribute [local go_sem ↓] Go.wp_at_zero Go.wp_at_succ
theorem neg22_no1 (f m ah al : Int) (t : Bool)
    (h0 : Hid (∀ w, FTab w → Ca 10 #[.int .u8 f, .agg #[.int .u8 m, .bool t], U2 ah al] w (.agg #[.int .u64 0, .int .u64 0, .int .u8 0])))
    (h1 : Hid (∀ w, FTab w → Ca 20 #[.int .u8 f] w (.bool false)))
    (h3 : Hid (∀ w, FTab w → Ca 12 #[] w (.bool true))) (w : World) (ft : FTab w) :
    Ca 8 #[.int .u8 f, .agg #[.int .u8 m, .bool t], U2 ah al] w (.bool true) := by
  simp only [Ca, U2] at *
  have EQ := eqr22 0 0 0
  go_enter Tryz.func8, Tryz.ntmps8
  go_wp2_with fail
  refine vM (h0.out _ (ft.later (bA (bA bR _) _))) fun w1 b1 => ?_
  go_wp2_with fail
  refine vM (h1.out _ (ft.later (bA (bC (bA (bA bR _) _) b1) _))) fun w2 b2 => ?_
  have X2 := (HB.newAt (b := w1.heap.size) (by simp) _ _).later b2
  have oX2 := X2.o
  go_wp2_with fail
  refine vM (h3.out _ (ft.later (bC (bC (bA (bA bR _) _) b1) (bC (bA bR _) b2)))) fun w3 b3 => ?_
  clear oX2
  go_wp2_with fail
  go_ret
  exact ⟨rfl, (bC (bC (bC (bA (bA bR _) _) b1) (bC (bA bR _) b2)) b3)⟩
theorem neg22_no2 (f m ah al : Int) (t : Bool)
    (h0 : Hid (∀ w, FTab w → Ca 10 #[.int .u8 f, .agg #[.int .u8 m, .bool t], U2 ah al] w (.agg #[.int .u64 0, .int .u64 0, .int .u8 0])))
    (h1 : Hid (∀ w, FTab w → Ca 20 #[.int .u8 f] w (.bool true)))
    (h2 : Hid (∀ w, Ca 28 #[.int .u8 m] w (.bool false)))
    (h3 : Hid (∀ w, FTab w → Ca 12 #[] w (.bool true))) (w : World) (ft : FTab w) :
    Ca 8 #[.int .u8 f, .agg #[.int .u8 m, .bool t], U2 ah al] w (.bool true) := by
  simp only [Ca, U2] at *
  have EQ := eqr22 0 0 0
  go_enter Tryz.func8, Tryz.ntmps8
  go_wp2_with fail
  refine vM (h0.out _ (ft.later (bA (bA bR _) _))) fun w1 b1 => ?_
  have X0 := ((HB.newAt (b := w.heap.size) (by simp) _ _).alloc _).later b1
  go_wp2_with fail
  refine vM (h1.out _ (ft.later (bA (bC (bA (bA bR _) _) b1) _))) fun w2 b2 => ?_
  have X2 := (HB.newAt (b := w1.heap.size) (by simp) _ _).later b2
  replace X0 := X0.later (bC (bA bR _) b2)
  have oX0 := X0.o
  go_wp2_with fail
  refine vM (h2.out _) fun w3 b3 => ?_
  clear oX0
  replace X2 := X2.later b3
  have oX2 := X2.o
  go_wp2_with fail
  refine vM (h3.out _ (ft.later (bC (bC (bC (bA (bA bR _) _) b1) (bC (bA bR _) b2)) b3))) fun w4 b4 => ?_
  clear oX2
  go_wp2_with fail
  go_ret
  exact ⟨rfl, (bC (bC (bC (bC (bA (bA bR _) _) b1) (bC (bA bR _) b2)) b3) b4)⟩
theorem neg22_nan (f m ah al k rh rl fl : Int) (t n : Bool)
    (h0 : Hid (∀ w, FTab w → Ca 10 #[.int .u8 f, .agg #[.int .u8 m, .bool t], U2 ah al] w (.agg #[.int .u64 rh, .int .u64 rl, .int .u8 fl])))
    (h1 : Hid (∀ w, FTab w → Ca 20 #[.int .u8 f] w (.bool true)))
    (h2 : Hid (∀ w, Ca 28 #[.int .u8 m] w (.bool true)))
    (h3 : Hid (∀ w, FTab w → Ca 14 #[.int .u8 f, U2 ah al] w (.tuple #[.int .u8 k, .bool n])))
    (h4 : Hid (∀ w, FTab w → Ca 23 #[.int .u8 f, U2 rh rl] w (.bool true)))
    (h5 : Hid (∀ w, FTab w → Ca 29 #[.int .u8 f, U2 rh rl] w (.bool false)))
    (h6 : Hid (∀ w, FTab w → Ca 12 #[] w (.bool true))) (g1 : decide (4 ≤ k) = true) (g2 : (fl == 1) = (k == 5)) (w : World) (ft : FTab w) :
    Ca 8 #[.int .u8 f, .agg #[.int .u8 m, .bool t], U2 ah al] w (.bool true) := by
  simp only [Ca, U2] at *
  go_enter Tryz.func8, Tryz.ntmps8
  go_wp2_with fail
  refine vM (h0.out _ (ft.later (bA (bA bR _) _))) fun w1 b1 => ?_
  have X0 := ((HB.newAt (b := w.heap.size) (by simp) _ _).alloc _).later b1
  have X1 := (HB.newAt (b := w.heap.size + 1) (by simp) _ _).later b1
  go_wp2_with fail
  refine vM (h1.out _ (ft.later (bA (bC (bA (bA bR _) _) b1) _))) fun w2 b2 => ?_
  have X2 := (HB.newAt (b := w1.heap.size) (by simp) _ _).later b2
  replace X0 := X0.later (bC (bA bR _) b2)
  have oX0 := X0.o
  go_wp2_with fail
  refine vM (h2.out _) fun w3 b3 => ?_
  clear oX0
  replace X1 := X1.later (bC (bC (bA bR _) b2) b3)
  have oX1 := X1.o
  go_wp2_with fail
  refine vM (h3.out _ (ft.later (bC (bC (bC (bA (bA bR _) _) b1) (bC (bA bR _) b2)) b3))) fun w4 b4 => ?_
  clear oX1
  replace X2 := X2.later (bC b3 b4)
  have oX2 := X2.o
  go_wp2_with fail
  refine vM (h4.out _ (ft.later (bC (bC (bC (bC (bA (bA bR _) _) b1) (bC (bA bR _) b2)) b3) b4))) fun w5 b5 => ?_
  clear oX2
  replace X2 := X2.later b5
  have oX2 := X2.o
  go_wp2_with fail
  refine vM (h5.out _ (ft.later (bC (bC (bC (bC (bC (bA (bA bR _) _) b1) (bC (bA bR _) b2)) b3) b4) b5))) fun w6 b6 => ?_
  clear oX2
  replace X2 := X2.later b6
  have oX2 := X2.o
  go_wp2_with fail
  refine vM (h6.out _ (ft.later (bC (bC (bC (bC (bC (bC (bA (bA bR _) _) b1) (bC (bA bR _) b2)) b3) b4) b5) b6))) fun w7 b7 => ?_
  clear oX2
  go_wp2_with fail
  go_ret
  exact ⟨rfl, (bC (bC (bC (bC (bC (bC (bC (bA (bA bR _) _) b1) (bC (bA bR _) b2)) b3) b4) b5) b6) b7)⟩
theorem neg22_zero (f m ah al k rh rl fl : Int) (t n : Bool)
    (h0 : Hid (∀ w, FTab w → Ca 10 #[.int .u8 f, .agg #[.int .u8 m, .bool t], U2 ah al] w (.agg #[.int .u64 rh, .int .u64 rl, .int .u8 0])))
    (h1 : Hid (∀ w, FTab w → Ca 20 #[.int .u8 f] w (.bool true)))
    (h2 : Hid (∀ w, Ca 28 #[.int .u8 m] w (.bool true)))
    (h3 : Hid (∀ w, FTab w → Ca 14 #[.int .u8 f, U2 ah al] w (.tuple #[.int .u8 k, .bool n])))
    (h4 : Hid (∀ w, FTab w → Ca 30 #[.int .u8 f, U2 ah al] w (U2 rh rl)))
    (h5 : Hid (∀ w, FTab w → Ca 12 #[] w (.bool true))) (g1 : decide (4 ≤ k) = false) (g2 : (k == 0) = true) (w : World) (ft : FTab w) :
    Ca 8 #[.int .u8 f, .agg #[.int .u8 m, .bool t], U2 ah al] w (.bool true) := by
  simp only [Ca, U2] at *
  have EQ := eqr22 rh rl 0
  go_enter Tryz.func8, Tryz.ntmps8
  go_wp2_with fail
  refine vM (h0.out _ (ft.later (bA (bA bR _) _))) fun w1 b1 => ?_
  have X0 := ((HB.newAt (b := w.heap.size) (by simp) _ _).alloc _).later b1
  have X1 := (HB.newAt (b := w.heap.size + 1) (by simp) _ _).later b1
  go_wp2_with fail
  refine vM (h1.out _ (ft.later (bA (bC (bA (bA bR _) _) b1) _))) fun w2 b2 => ?_
  have X2 := (HB.newAt (b := w1.heap.size) (by simp) _ _).later b2
  replace X0 := X0.later (bC (bA bR _) b2)
  have oX0 := X0.o
  go_wp2_with fail
  refine vM (h2.out _) fun w3 b3 => ?_
  clear oX0
  replace X1 := X1.later (bC (bC (bA bR _) b2) b3)
  have oX1 := X1.o
  go_wp2_with fail
  refine vM (h3.out _ (ft.later (bC (bC (bC (bA (bA bR _) _) b1) (bC (bA bR _) b2)) b3))) fun w4 b4 => ?_
  clear oX1
  go_wp2_with fail
  replace X1 := X1.later b4
  replace X2 := X2.later (bC b3 b4)
  refine vR [] fun w5 b5 S5 => ?_
  refine vT 0 S5 ?_ (hy := by intro wq hb; have q := (hb.hb X2 (by simp)).o; go_simp; try (with_reducible rfl))
  refine vT 1 S5 ?_
  refine vT 2 S5 ?_ (hy := by intro wq hb; have q := (hb.hb X1 (by simp)).o; go_simp; try (with_reducible rfl))
  refine vY1 (vC 3 S5 (h4.out _ (ft.later (bC (bC (bC (bC (bC (bA (bA bR _) _) b1) (bC (bA bR _) b2)) b3) b4) b5))) (fun _ _ => Off.later) fun w6 b6 S6 => ?_)
  refine vT 4 S6 ?_
  refine vT 5 S6 ?_
  refine vT 6 S6 ?_
  refine vY1 (vC 7 S6 (h5.out _ (ft.later (bC (bC (bC (bC (bC (bC (bA (bA bR _) _) b1) (bC (bA bR _) b2)) b3) b4) b5) b6))) (fun _ _ => Off.later) fun w7 b7 S7 => ?_)
  refine vT 8 S7 ?_
  refine vT 9 S7 ?_
  refine vD ?_
  go_wp2_with fail
  go_ret
  exact ⟨rfl, (bC (bC (bC (bC (bC (bC (bC (bA (bA bR _) _) b1) (bC (bA bR _) b2)) b3) b4) b5) b6) b7)⟩
theorem neg22_neg (f m ah al k rh rl fl : Int) (t n : Bool)
    (h0 : Hid (∀ w, FTab w → Ca 10 #[.int .u8 f, .agg #[.int .u8 m, .bool t], U2 ah al] w (.agg #[.int .u64 rh, .int .u64 rl, .int .u8 1])))
    (h1 : Hid (∀ w, FTab w → Ca 20 #[.int .u8 f] w (.bool true)))
    (h2 : Hid (∀ w, Ca 28 #[.int .u8 m] w (.bool true)))
    (h3 : Hid (∀ w, FTab w → Ca 14 #[.int .u8 f, U2 ah al] w (.tuple #[.int .u8 k, .bool n])))
    (h4 : Hid (∀ w, FTab w → Ca 23 #[.int .u8 f, U2 rh rl] w (.bool true)))
    (h5 : Hid (∀ w, FTab w → Ca 12 #[] w (.bool true))) (g1 : decide (4 ≤ k) = false) (g2 : (k == 0) = false) (g3 : n = true) (w : World) (ft : FTab w) :
    Ca 8 #[.int .u8 f, .agg #[.int .u8 m, .bool t], U2 ah al] w (.bool true) := by
  simp only [Ca, U2] at *
  go_enter Tryz.func8, Tryz.ntmps8
  go_wp2_with fail
  refine vM (h0.out _ (ft.later (bA (bA bR _) _))) fun w1 b1 => ?_
  have X0 := ((HB.newAt (b := w.heap.size) (by simp) _ _).alloc _).later b1
  have X1 := (HB.newAt (b := w.heap.size + 1) (by simp) _ _).later b1
  go_wp2_with fail
  refine vM (h1.out _ (ft.later (bA (bC (bA (bA bR _) _) b1) _))) fun w2 b2 => ?_
  have X2 := (HB.newAt (b := w1.heap.size) (by simp) _ _).later b2
  replace X0 := X0.later (bC (bA bR _) b2)
  have oX0 := X0.o
  go_wp2_with fail
  refine vM (h2.out _) fun w3 b3 => ?_
  clear oX0
  replace X1 := X1.later (bC (bC (bA bR _) b2) b3)
  have oX1 := X1.o
  go_wp2_with fail
  refine vM (h3.out _ (ft.later (bC (bC (bC (bA (bA bR _) _) b1) (bC (bA bR _) b2)) b3))) fun w4 b4 => ?_
  clear oX1
  replace X2 := X2.later (bC b3 b4)
  have oX2 := X2.o
  go_wp2_with fail
  refine vM (h4.out _ (ft.later (bC (bC (bC (bC (bA (bA bR _) _) b1) (bC (bA bR _) b2)) b3) b4))) fun w5 b5 => ?_
  clear oX2
  replace X2 := X2.later b5
  have oX2 := X2.o
  go_wp2_with fail
  refine vM (h5.out _ (ft.later (bC (bC (bC (bC (bC (bA (bA bR _) _) b1) (bC (bA bR _) b2)) b3) b4) b5))) fun w6 b6 => ?_
  clear oX2
  go_wp2_with fail
  go_ret
  exact ⟨rfl, (bC (bC (bC (bC (bC (bC (bA (bA bR _) _) b1) (bC (bA bR _) b2)) b3) b4) b5) b6)⟩
theorem neg22_pos (f m ah al k rh rl fl : Int) (t n : Bool)
    (h0 : Hid (∀ w, FTab w → Ca 10 #[.int .u8 f, .agg #[.int .u8 m, .bool t], U2 ah al] w (.agg #[.int .u64 rh, .int .u64 rl, .int .u8 fl])))
    (h1 : Hid (∀ w, FTab w → Ca 20 #[.int .u8 f] w (.bool true)))
    (h2 : Hid (∀ w, Ca 28 #[.int .u8 m] w (.bool true)))
    (h3 : Hid (∀ w, FTab w → Ca 14 #[.int .u8 f, U2 ah al] w (.tuple #[.int .u8 k, .bool n])))
    (h4 : Hid (∀ w, FTab w → Ca 23 #[.int .u8 f, U2 rh rl] w (.bool false)))
    (h5 : Hid (∀ w, FTab w → Ca 12 #[] w (.bool true))) (g1 : decide (4 ≤ k) = false) (g2 : (k == 0) = false) (g3 : n = false) (g4 : bits .and .u8 fl 1 = 0) (w : World) (ft : FTab w) :
    Ca 8 #[.int .u8 f, .agg #[.int .u8 m, .bool t], U2 ah al] w (.bool true) := by
  simp only [Ca, U2] at *
  go_enter Tryz.func8, Tryz.ntmps8
  go_wp2_with fail
  refine vM (h0.out _ (ft.later (bA (bA bR _) _))) fun w1 b1 => ?_
  have X0 := ((HB.newAt (b := w.heap.size) (by simp) _ _).alloc _).later b1
  have X1 := (HB.newAt (b := w.heap.size + 1) (by simp) _ _).later b1
  go_wp2_with fail
  refine vM (h1.out _ (ft.later (bA (bC (bA (bA bR _) _) b1) _))) fun w2 b2 => ?_
  have X2 := (HB.newAt (b := w1.heap.size) (by simp) _ _).later b2
  replace X0 := X0.later (bC (bA bR _) b2)
  have oX0 := X0.o
  go_wp2_with fail
  refine vM (h2.out _) fun w3 b3 => ?_
  clear oX0
  replace X1 := X1.later (bC (bC (bA bR _) b2) b3)
  have oX1 := X1.o
  go_wp2_with fail
  refine vM (h3.out _ (ft.later (bC (bC (bC (bA (bA bR _) _) b1) (bC (bA bR _) b2)) b3))) fun w4 b4 => ?_
  clear oX1
  replace X2 := X2.later (bC b3 b4)
  have oX2 := X2.o
  go_wp2_with fail
  refine vM (h4.out _ (ft.later (bC (bC (bC (bC (bA (bA bR _) _) b1) (bC (bA bR _) b2)) b3) b4))) fun w5 b5 => ?_
  clear oX2
  replace X2 := X2.later b5
  have oX2 := X2.o
  go_wp2_with fail
  refine vM (h5.out _ (ft.later (bC (bC (bC (bC (bC (bA (bA bR _) _) b1) (bC (bA bR _) b2)) b3) b4) b5))) fun w6 b6 => ?_
  clear oX2
  go_wp2_with fail
  go_ret
  exact ⟨rfl, (bC (bC (bC (bC (bC (bC (bA (bA bR _) _) b1) (bC (bA bR _) b2)) b3) b4) b5) b6)⟩
end Go.Proofs.YtbighggnfkdncaaGreatDoor
