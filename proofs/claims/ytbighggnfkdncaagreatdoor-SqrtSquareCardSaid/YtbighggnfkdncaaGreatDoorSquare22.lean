import Derived.Test.YtbighggnfkdncaaGreatDoorRest0
set_option maxHeartbeats 4000000
set_option linter.unusedVariables false
set_option linter.unusedSimpArgs false
set_option maxRecDepth 100000
namespace Go.Proofs.YtbighggnfkdncaaGreatDoor
open Go.RowKit
attribute [local go_sem ↓] Go.wp_at_zero Go.wp_at_succ
theorem square22_no1 (f m ah al mm xh xl sh sl sf : Int) (t : Bool)
    (h0 : Hid (∀ w, FTab w → Ca 13 #[.int .u8 f, U2 ah al] w (U2 xh xl)))
    (h1 : Hid (∀ w, FTab w → Ca 19 #[.int .u8 f, .agg #[.int .u8 mm, .bool t], U2 xh xl, U2 xh xl] w (.agg #[.int .u64 sh, .int .u64 sl, .int .u8 sf])))
    (h2 : Hid (∀ w, FTab w → Ca 20 #[.int .u8 f] w (.bool false)))
    (h4 : Hid (∀ w, FTab w → Ca 12 #[] w (.bool true))) (m2 : m.tmod 5 = mm) (m3 : m % 5 = mm) (w : World) (ft : FTab w) :
    Ca 5 #[.int .u8 f, .agg #[.int .u8 m, .bool t], U2 ah al] w (.bool true) := by
  simp only [Ca, U2] at *
  go_enter Tryz.func5, Tryz.ntmps5
  go_wp2_with fail
  refine vM (h0.out _ (ft.later (bA (bA bR _) _))) fun w1 b1 => ?_
  have gX1 : w.heap.size ≤ w.heap.size + 1 := by omega
  have X0 := ((HB.newAt (b := w.heap.size) (by simp) _ _).alloc _).later b1
  have X1 := (HB.newAt (b := w.heap.size + 1) (by simp) _ _).later b1
  have oX1 := X1.o
  have oX0 := X0.o
  have mX0_X1 : ¬ (w.heap.size = w.heap.size + 1) := by omega
  have mX1_X0 : ¬ (w.heap.size + 1 = w.heap.size) := by omega
  go_wp2_with fail
  refine vM (h1.out _ (ft.later (((bC (bA (bA bR _) _) b1).setCell (p := ⟨w.heap.size + 1, 0, none⟩) gX1 _).setCell (p := ⟨w.heap.size + 1, 1, none⟩) gX1 _))) fun w2 b2 => ?_
  have kk := bC (((bC (bA (bA bR _) _) b1).setCell (p := ⟨w.heap.size + 1, 0, none⟩) gX1 _).setCell (p := ⟨w.heap.size + 1, 1, none⟩) gX1 _) b2
  clear oX1 oX0 mX0_X1 mX1_X0
  go_wp2_with fail
  refine vM (h2.out _ (ft.later (bA kk _))) fun w3 b3 => ?_
  have X2 := (HB.newAt (b := w2.heap.size) (by simp) _ _).later b3
  have oX2 := X2.o
  go_wp2_with fail
  refine vM (h4.out _ (ft.later (bC kk (bC (bA bR _) b3)))) fun w4 b4 => ?_
  clear oX2
  go_wp2_with fail
  go_ret
  exact ⟨rfl, (bC kk (bC (bC (bA bR _) b3) b4))⟩
theorem square22_no2 (f m ah al mm xh xl sh sl sf : Int) (t : Bool)
    (h0 : Hid (∀ w, FTab w → Ca 13 #[.int .u8 f, U2 ah al] w (U2 xh xl)))
    (h1 : Hid (∀ w, FTab w → Ca 19 #[.int .u8 f, .agg #[.int .u8 mm, .bool t], U2 xh xl, U2 xh xl] w (.agg #[.int .u64 sh, .int .u64 sl, .int .u8 sf])))
    (h2 : Hid (∀ w, FTab w → Ca 20 #[.int .u8 f] w (.bool true)))
    (h3 : Hid (∀ w, FTab w → Ca 21 #[.int .u8 f, U2 xh xl] w (.bool false)))
    (h4 : Hid (∀ w, FTab w → Ca 12 #[] w (.bool true))) (m2 : m.tmod 5 = mm) (m3 : m % 5 = mm) (w : World) (ft : FTab w) :
    Ca 5 #[.int .u8 f, .agg #[.int .u8 m, .bool t], U2 ah al] w (.bool true) := by
  simp only [Ca, U2] at *
  go_enter Tryz.func5, Tryz.ntmps5
  go_wp2_with fail
  refine vM (h0.out _ (ft.later (bA (bA bR _) _))) fun w1 b1 => ?_
  have gX1 : w.heap.size ≤ w.heap.size + 1 := by omega
  have X0 := ((HB.newAt (b := w.heap.size) (by simp) _ _).alloc _).later b1
  have X1 := (HB.newAt (b := w.heap.size + 1) (by simp) _ _).later b1
  have oX1 := X1.o
  have oX0 := X0.o
  have mX0_X1 : ¬ (w.heap.size = w.heap.size + 1) := by omega
  have mX1_X0 : ¬ (w.heap.size + 1 = w.heap.size) := by omega
  go_wp2_with fail
  refine vM (h1.out _ (ft.later (((bC (bA (bA bR _) _) b1).setCell (p := ⟨w.heap.size + 1, 0, none⟩) gX1 _).setCell (p := ⟨w.heap.size + 1, 1, none⟩) gX1 _))) fun w2 b2 => ?_
  replace X1 := ((X1.set 0 _).set 1 _).later b2
  have kk := bC (((bC (bA (bA bR _) _) b1).setCell (p := ⟨w.heap.size + 1, 0, none⟩) gX1 _).setCell (p := ⟨w.heap.size + 1, 1, none⟩) gX1 _) b2
  clear oX1 oX0 mX0_X1 mX1_X0
  go_wp2_with fail
  refine vM (h2.out _ (ft.later (bA kk _))) fun w3 b3 => ?_
  have nX1_X2 : w.heap.size + 1 < w2.heap.size := by have := X1.lt; omega
  have X2 := (HB.newAt (b := w2.heap.size) (by simp) _ _).later b3
  replace X1 := X1.later (bC (bA bR _) b3)
  have oX1 := X1.o
  go_wp2_with fail
  refine vM (h3.out _ (ft.later (bC kk (bC (bA bR _) b3)))) fun w4 b4 => ?_
  clear oX1
  replace X2 := X2.later b4
  have oX2 := X2.o
  go_wp2_with fail
  refine vM (h4.out _ (ft.later (bC kk (bC (bC (bA bR _) b3) b4)))) fun w5 b5 => ?_
  clear oX2
  go_wp2_with fail
  go_ret
  exact ⟨rfl, (bC kk (bC (bC (bC (bA bR _) b3) b4) b5))⟩
theorem square22_no3 (f m ah al mm xh xl sh sl sf : Int) (t : Bool)
    (h0 : Hid (∀ w, FTab w → Ca 13 #[.int .u8 f, U2 ah al] w (U2 xh xl)))
    (h1 : Hid (∀ w, FTab w → Ca 19 #[.int .u8 f, .agg #[.int .u8 mm, .bool t], U2 xh xl, U2 xh xl] w (.agg #[.int .u64 sh, .int .u64 sl, .int .u8 sf])))
    (h2 : Hid (∀ w, FTab w → Ca 20 #[.int .u8 f] w (.bool true)))
    (h3 : Hid (∀ w, FTab w → Ca 21 #[.int .u8 f, U2 xh xl] w (.bool true)))
    (h4 : Hid (∀ w, FTab w → Ca 12 #[] w (.bool true))) (m2 : m.tmod 5 = mm) (m3 : m % 5 = mm) (z : (sf != 0) = true) (w : World) (ft : FTab w) :
    Ca 5 #[.int .u8 f, .agg #[.int .u8 m, .bool t], U2 ah al] w (.bool true) := by
  simp only [Ca, U2] at *
  go_enter Tryz.func5, Tryz.ntmps5
  go_wp2_with fail
  refine vM (h0.out _ (ft.later (bA (bA bR _) _))) fun w1 b1 => ?_
  have gX1 : w.heap.size ≤ w.heap.size + 1 := by omega
  have X0 := ((HB.newAt (b := w.heap.size) (by simp) _ _).alloc _).later b1
  have X1 := (HB.newAt (b := w.heap.size + 1) (by simp) _ _).later b1
  have oX1 := X1.o
  have oX0 := X0.o
  have mX0_X1 : ¬ (w.heap.size = w.heap.size + 1) := by omega
  have mX1_X0 : ¬ (w.heap.size + 1 = w.heap.size) := by omega
  go_wp2_with fail
  refine vM (h1.out _ (ft.later (((bC (bA (bA bR _) _) b1).setCell (p := ⟨w.heap.size + 1, 0, none⟩) gX1 _).setCell (p := ⟨w.heap.size + 1, 1, none⟩) gX1 _))) fun w2 b2 => ?_
  replace X1 := ((X1.set 0 _).set 1 _).later b2
  have kk := bC (((bC (bA (bA bR _) _) b1).setCell (p := ⟨w.heap.size + 1, 0, none⟩) gX1 _).setCell (p := ⟨w.heap.size + 1, 1, none⟩) gX1 _) b2
  clear oX1 oX0 mX0_X1 mX1_X0
  go_wp2_with fail
  refine vM (h2.out _ (ft.later (bA kk _))) fun w3 b3 => ?_
  have nX1_X2 : w.heap.size + 1 < w2.heap.size := by have := X1.lt; omega
  have X2 := (HB.newAt (b := w2.heap.size) (by simp) _ _).later b3
  replace X1 := X1.later (bC (bA bR _) b3)
  have oX1 := X1.o
  go_wp2_with fail
  refine vM (h3.out _ (ft.later (bC kk (bC (bA bR _) b3)))) fun w4 b4 => ?_
  clear oX1
  replace X2 := X2.later b4
  have oX2 := X2.o
  go_wp2_with fail
  refine vM (h4.out _ (ft.later (bC kk (bC (bC (bA bR _) b3) b4)))) fun w5 b5 => ?_
  clear oX2
  go_wp2_with fail
  go_ret
  exact ⟨rfl, (bC kk (bC (bC (bC (bA bR _) b3) b4) b5))⟩
theorem square22_main (f m ah al mm xh xl sh sl sf : Int) (t : Bool)
    (h0 : Hid (∀ w, FTab w → Ca 13 #[.int .u8 f, U2 ah al] w (U2 xh xl)))
    (h1 : Hid (∀ w, FTab w → Ca 19 #[.int .u8 f, .agg #[.int .u8 mm, .bool t], U2 xh xl, U2 xh xl] w (.agg #[.int .u64 sh, .int .u64 sl, .int .u8 0])))
    (h2 : Hid (∀ w, FTab w → Ca 20 #[.int .u8 f] w (.bool true)))
    (h3 : Hid (∀ w, FTab w → Ca 21 #[.int .u8 f, U2 xh xl] w (.bool true)))
    (h4 : Hid (∀ w, FTab w → Ca 10 #[.int .u8 f, .agg #[.int .u8 mm, .bool t], U2 sh sl] w (.agg #[.int .u64 xh, .int .u64 xl, .int .u8 0])))
    (h5 : Hid (∀ w, FTab w → Ca 12 #[] w (.bool true))) (m2 : m.tmod 5 = mm) (m3 : m % 5 = mm) (w : World) (ft : FTab w) :
    Ca 5 #[.int .u8 f, .agg #[.int .u8 m, .bool t], U2 ah al] w (.bool true) := by
  simp only [Ca, U2] at *
  have EQ := eqr22 xh xl 0
  go_enter Tryz.func5, Tryz.ntmps5
  go_wp2_with fail
  refine vM (h0.out _ (ft.later (bA (bA bR _) _))) fun w1 b1 => ?_
  have gX1 : w.heap.size ≤ w.heap.size + 1 := by omega
  have X0 := ((HB.newAt (b := w.heap.size) (by simp) _ _).alloc _).later b1
  have X1 := (HB.newAt (b := w.heap.size + 1) (by simp) _ _).later b1
  have oX1 := X1.o
  have oX0 := X0.o
  have mX0_X1 : ¬ (w.heap.size = w.heap.size + 1) := by omega
  have mX1_X0 : ¬ (w.heap.size + 1 = w.heap.size) := by omega
  go_wp2_with fail
  refine vM (h1.out _ (ft.later (((bC (bA (bA bR _) _) b1).setCell (p := ⟨w.heap.size + 1, 0, none⟩) gX1 _).setCell (p := ⟨w.heap.size + 1, 1, none⟩) gX1 _))) fun w2 b2 => ?_
  replace X0 := ((X0.other (by omega) 0 _).other (by omega) 1 _).later b2
  replace X1 := ((X1.set 0 _).set 1 _).later b2
  have kk := bC (((bC (bA (bA bR _) _) b1).setCell (p := ⟨w.heap.size + 1, 0, none⟩) gX1 _).setCell (p := ⟨w.heap.size + 1, 1, none⟩) gX1 _) b2
  clear oX1 oX0 mX0_X1 mX1_X0
  go_wp2_with fail
  refine vM (h2.out _ (ft.later (bA kk _))) fun w3 b3 => ?_
  have nX1_X2 : w.heap.size + 1 < w2.heap.size := by have := X1.lt; omega
  have X2 := (HB.newAt (b := w2.heap.size) (by simp) _ _).later b3
  replace X1 := X1.later (bC (bA bR _) b3)
  have oX1 := X1.o
  go_wp2_with fail
  refine vM (h3.out _ (ft.later (bC kk (bC (bA bR _) b3)))) fun w4 b4 => ?_
  clear oX1
  replace X2 := X2.later b4
  have oX2 := X2.o
  go_wp2_with fail
  clear oX2
  replace X0 := X0.later (bC (bC (bA bR _) b3) b4)
  replace X1 := X1.later b4
  refine vR [] fun w5 b5 S5 => ?_
  refine vT 0 S5 ?_
  refine vT 1 S5 ?_ (hy := by intro wq hb; have q := (hb.hb X0 (by simp)).o; go_simp; try (with_reducible rfl))
  refine vT 2 S5 ?_
  refine vT 3 S5 ?_ (hy := by intro wq hb; have q := (hb.hb X2 (by simp)).o; go_simp; try (with_reducible rfl))
  refine vT 5 S5 ?_ (hy := by intro wq hb; have q := (hb.hb X1 (by simp)).o; go_simp; try (with_reducible rfl))
  refine vT 6 S5 ?_
  refine vY1 (vC 4 S5 (h4.out _ (ft.later (bC kk (bC (bC (bC (bA bR _) b3) b4) b5)))) (fun _ _ => Off.later) fun w6 b6 S6 => ?_)
  refine vT 7 S6 ?_
  refine vT 8 S6 ?_
  refine vY1 (vC 9 S6 (h5.out _ (ft.later (bC kk (bC (bC (bC (bC (bA bR _) b3) b4) b5) b6)))) (fun _ _ => Off.later) fun w7 b7 S7 => ?_)
  refine vT 10 S7 ?_
  refine vT 11 S7 ?_
  refine vD ?_
  go_wp2_with fail
  go_ret
  exact ⟨rfl, (bC kk (bC (bC (bC (bC (bC (bA bR _) b3) b4) b5) b6) b7))⟩
end Go.Proofs.YtbighggnfkdncaaGreatDoor
