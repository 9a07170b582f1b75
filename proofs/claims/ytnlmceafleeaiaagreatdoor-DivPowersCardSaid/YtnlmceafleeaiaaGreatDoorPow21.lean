import Derived.Test.YtnlmceafleeaiaaGreatDoorGwA
import Derived.Test.YtnlmceafleeaiaaGreatDoorGaB
import Derived.Test.YtnlmceafleeaiaaGreatDoorGfA
import Derived.Test.YtnlmceafleeaiaaGreatDoorGhA
import Derived.Test.YtnlmceafleeaiaaGreatDoorGaA
import Derived.Test.YtnlmceafleeaiaaGreatDoorGoes21
import Derived.Test.YtnlmceafleeaiaaGreatDoorRest0
set_option maxHeartbeats 4000000
set_option linter.unusedVariables false
set_option linter.unusedSimpArgs false
set_option maxRecDepth 100000
namespace Go.Proofs.YtnlmceafleeaiaaGreatDoor
open Go.RowKit
attribute [local go_sem ↓] Go.wp_at_zero Go.wp_at_succ
theorem pow21_no1 (f m ah al b : Int) (t : Bool)
    (h0 : Hid (∀ w, FTab w → Ca 20 #[.int .u8 f] w (.bool false)))
    (h3 : Hid (∀ w, FTab w → Ca 12 #[] w (.bool true))) (w : World) (ft : FTab w) :
    Ca 6 #[.int .u8 f, .agg #[.int .u8 m, .bool t], U2 ah al, .int .i16 b] w (.bool true) := by
  simp only [Ca, U2] at *
  go_enter Tryz.func6, Tryz.ntmps6
  go_wp2_with fail
  refine vM (h0.out _ (ft.later (bA (bA bR _) _))) fun w1 b1 => ?_
  go_wp2_with fail
  refine vM (h3.out _ (ft.later (bC (bA (bA bR _) _) b1))) fun w2 b2 => ?_
  go_wp2_with fail
  go_ret
  exact ⟨rfl, (bC (bC (bA (bA bR _) _) b1) b2)⟩
theorem pow21_no2 (f m ah al b : Int) (t : Bool)
    (h0 : Hid (∀ w, FTab w → Ca 20 #[.int .u8 f] w (.bool true)))
    (h1 : Hid (∀ w, Ca 21 #[.int .u8 m] w (.bool false)))
    (h3 : Hid (∀ w, FTab w → Ca 12 #[] w (.bool true))) (w : World) (ft : FTab w) :
    Ca 6 #[.int .u8 f, .agg #[.int .u8 m, .bool t], U2 ah al, .int .i16 b] w (.bool true) := by
  simp only [Ca, U2] at *
  go_enter Tryz.func6, Tryz.ntmps6
  go_wp2_with fail
  refine vM (h0.out _ (ft.later (bA (bA bR _) _))) fun w1 b1 => ?_
  have X0 := ((HB.newAt (b := w.heap.size) (by simp) _ _).alloc _).later b1
  have oX0 := X0.o
  go_wp2_with fail
  refine vM (h1.out _) fun w2 b2 => ?_
  clear oX0
  go_wp2_with fail
  refine vM (h3.out _ (ft.later (bC (bC (bA (bA bR _) _) b1) b2))) fun w3 b3 => ?_
  go_wp2_with fail
  go_ret
  exact ⟨rfl, (bC (bC (bC (bA (bA bR _) _) b1) b2) b3)⟩
theorem pow21_no3 (f m ah al b : Int) (t : Bool)
    (h0 : Hid (∀ w, FTab w → Ca 20 #[.int .u8 f] w (.bool true)))
    (h1 : Hid (∀ w, Ca 21 #[.int .u8 m] w (.bool true)))
    (h2 : Hid (∀ w, FTab w → Ca 24 #[.int .u8 f, U2 ah al] w (.bool true)))
    (h3 : Hid (∀ w, FTab w → Ca 12 #[] w (.bool true))) (w : World) (ft : FTab w) :
    Ca 6 #[.int .u8 f, .agg #[.int .u8 m, .bool t], U2 ah al, .int .i16 b] w (.bool true) := by
  simp only [Ca, U2] at *
  go_enter Tryz.func6, Tryz.ntmps6
  go_wp2_with fail
  refine vM (h0.out _ (ft.later (bA (bA bR _) _))) fun w1 b1 => ?_
  have X0 := ((HB.newAt (b := w.heap.size) (by simp) _ _).alloc _).later b1
  have X1 := (HB.newAt (b := w.heap.size + 1) (by simp) _ _).later b1
  have oX0 := X0.o
  go_wp2_with fail
  refine vM (h1.out _) fun w2 b2 => ?_
  clear oX0
  replace X1 := X1.later b2
  have oX1 := X1.o
  go_wp2_with fail
  refine vM (h2.out _ (ft.later (bC (bC (bA (bA bR _) _) b1) b2))) fun w3 b3 => ?_
  clear oX1
  go_wp2_with fail
  refine vM (h3.out _ (ft.later (bC (bC (bC (bA (bA bR _) _) b1) b2) b3))) fun w4 b4 => ?_
  go_wp2_with fail
  go_ret
  exact ⟨rfl, (bC (bC (bC (bC (bA (bA bR _) _) b1) b2) b3) b4)⟩
theorem pow21_main (f m ah al b em k s1 s2 ph pl qh ql rh rl fl : Int) (t : Bool)
    (h0 : Hid (∀ w, FTab w → Ca 20 #[.int .u8 f] w (.bool true)))
    (h1 : Hid (∀ w, Ca 21 #[.int .u8 m] w (.bool true)))
    (h2 : Hid (∀ w, FTab w → Ca 24 #[.int .u8 f, U2 ah al] w (.bool false)))
    (h3 : Hid (∀ w, FTab w → Ca 23 #[.int .u8 f] w (.int .i64 em)))
    (h4 : Hid (∀ w, FTab w → Ca 22 #[.int .u8 f, .bool false, .int .i64 s1, U2 0 0] w (U2 ph pl)))
    (h5 : Hid (∀ w, FTab w → Ca 22 #[.int .u8 f, .bool false, .int .i64 s2, U2 0 0] w (U2 qh ql)))
    (h6 : Hid (∀ w, FTab w → Ca 10 #[.int .u8 f, .agg #[.int .u8 m, .bool t], U2 ah al, U2 ph pl] w (.agg #[.int .u64 rh, .int .u64 rl, .int .u8 fl])))
    (h7 : Hid (∀ w, FTab w → Ca 15 #[.int .u8 f, .agg #[.int .u8 m, .bool t], U2 ah al, U2 qh ql] w (.agg #[.int .u64 rh, .int .u64 rl, .int .u8 fl])))
    (h8 : Hid (∀ w, FTab w → Ca 12 #[] w (.bool true))) (c1 : IntKind.i64.wrap b = b) (c2 : b.tmod em = k) (c3 : (em == 0) = false) (c4 : ¬ em = 0) (c5 : IntKind.i64.wrap k = k) (c6 : wrap64 k = k) (w1 : IntKind.i64.wrap (em + k) = s1) (w1x : wrap64 (em + k) = s1) (w2 : IntKind.i64.wrap (em - k) = s2) (w2x : wrap64 (em - k) = s2) (w : World) (ft : FTab w) :
    Ca 6 #[.int .u8 f, .agg #[.int .u8 m, .bool t], U2 ah al, .int .i16 b] w (.bool true) := by
  simp only [Ca, U2] at *
  have EQ := eqr21 rh rl fl
  go_enter Tryz.func6, Tryz.ntmps6
  go_wp2_with fail
  refine vM (h0.out _ (ft.later (bA (bA bR _) _))) fun w1 b1 => ?_
  have X0 := ((HB.newAt (b := w.heap.size) (by simp) _ _).alloc _).later b1
  have X1 := (HB.newAt (b := w.heap.size + 1) (by simp) _ _).later b1
  have oX0 := X0.o
  go_wp2_with fail
  refine vM (h1.out _) fun w2 b2 => ?_
  clear oX0
  replace X1 := X1.later b2
  have oX1 := X1.o
  go_wp2_with fail
  refine vM (h2.out _ (ft.later (bC (bC (bA (bA bR _) _) b1) b2))) fun w3 b3 => ?_
  clear oX1
  go_wp2_with fail
  refine vM (h3.out _ (ft.later (bC (bC (bC (bA (bA bR _) _) b1) b2) b3))) fun w4 b4 => ?_
  go_wp2_with fail
  refine vM (h4.out _ (ft.later (bC (bC (bC (bC (bA (bA bR _) _) b1) b2) b3) b4))) fun w5 b5 => ?_
  go_wp2_with fail
  refine vM (h5.out _ (ft.later (bC (bC (bC (bC (bC (bA (bA bR _) _) b1) b2) b3) b4) b5))) fun w6 b6 => ?_
  go_wp2_with fail
  refine vF2 fun w7 b7 X2 X3 => ?_
  replace X0 := X0.later (bC (bC (bC (bC (bC b2 b3) b4) b5) b6) b7)
  replace X1 := X1.later (bC (bC (bC (bC b3 b4) b5) b6) b7)
  refine vR [] fun w8 b8 S8 => ?_
  refine vT 0 S8 ?_
  refine vT 1 S8 ?_ (hy := by intro wq hb; have q := (hb.hb X0 (by simp)).o; go_simp; try (with_reducible rfl))
  refine vT 2 S8 ?_ (hy := by intro wq hb; have q := (hb.hb X1 (by simp)).o; go_simp; try (with_reducible rfl))
  refine vT 3 S8 ?_ (hy := by intro wq hb; have q := (hb.hb X2 (by simp)).o; go_simp; try (with_reducible rfl))
  refine vT 5 S8 ?_
  refine vT 6 S8 ?_ (hy := by intro wq hb; have q := (hb.hb X0 (by simp)).o; go_simp; try (with_reducible rfl))
  refine vT 7 S8 ?_ (hy := by intro wq hb; have q := (hb.hb X1 (by simp)).o; go_simp; try (with_reducible rfl))
  refine vT 8 S8 ?_ (hy := by intro wq hb; have q := (hb.hb X3 (by simp)).o; go_simp; try (with_reducible rfl))
  refine vY1 (vC 4 S8 (h6.out _ (ft.later (bC (bC (bC (bC (bC (bC (bC (bC (bA (bA bR _) _) b1) b2) b3) b4) b5) b6) b7) b8))) (fun _ _ => Off.later) fun w9 b9 S9 => ?_)
  refine vY1 (vC 9 S9 (h7.out _ (ft.later (bC (bC (bC (bC (bC (bC (bC (bC (bC (bA (bA bR _) _) b1) b2) b3) b4) b5) b6) b7) b8) b9))) (fun _ _ => Off.later) fun w10 b10 S10 => ?_)
  refine vT 10 S10 ?_
  refine vT 11 S10 ?_
  refine vY1 (vC 12 S10 (h8.out _ (ft.later (bC (bC (bC (bC (bC (bC (bC (bC (bC (bC (bA (bA bR _) _) b1) b2) b3) b4) b5) b6) b7) b8) b9) b10))) (fun _ _ => Off.later) fun w11 b11 S11 => ?_)
  refine vT 13 S11 ?_
  refine vT 14 S11 ?_
  refine vD ?_
  go_wp2_with fail
  go_ret
  exact ⟨rfl, (bC (bC (bC (bC (bC (bC (bC (bC (bC (bC (bC (bA (bA bR _) _) b1) b2) b3) b4) b5) b6) b7) b8) b9) b10) b11)⟩
end Go.Proofs.YtnlmceafleeaiaaGreatDoor
