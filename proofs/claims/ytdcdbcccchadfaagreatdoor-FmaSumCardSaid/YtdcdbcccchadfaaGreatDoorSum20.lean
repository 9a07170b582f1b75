import Derived.Test.YtdcdbcccchadfaaGreatDoorGwA
import Derived.Test.YtdcdbcccchadfaaGreatDoorGaB
import Derived.Test.YtdcdbcccchadfaaGreatDoorGfA
import Derived.Test.YtdcdbcccchadfaaGreatDoorGhA
import Derived.Test.YtdcdbcccchadfaaGreatDoorGaA
import Derived.Test.YtdcdbcccchadfaaGreatDoorGuA
import Derived.Test.YtdcdbcccchadfaaGreatDoorRest0
set_option maxHeartbeats 4000000
set_option linter.unusedVariables false
set_option linter.unusedSimpArgs false
set_option maxRecDepth 100000
namespace Go.Proofs.YtdcdbcccchadfaaGreatDoor
open Go.RowKit
attribute [local go_sem ↓] Go.wp_at_zero Go.wp_at_succ
theorem sum20_no (f m ah al ch cl : Int) (t : Bool)
    (h0 : Hid (∀ w, FTab w → Ca 13 #[.int .u8 f] w (.bool false)))
    (h1 : Hid (∀ w, FTab w → Ca 10 #[.int .u8 f, .agg #[.int .u8 m, .bool t], U2 ah al, U2 ah al, U2 ch cl] w (.agg #[.int .u64 0, .int .u64 0, .int .u8 0])))
    (h2 : Hid (∀ w, FTab w → Ca 12 #[] w (.bool true))) (w : World) (ft : FTab w) :
    Ca 5 #[.int .u8 f, .agg #[.int .u8 m, .bool t], U2 ah al, U2 ch cl] w (.bool true) := by
  simp only [Ca, U2] at *
  go_enter Tryz.func5, Tryz.ntmps5
  go_wp2_with fail
  refine vM (h0.out _ (ft.later (bA (bA (bA bR _) _) _))) fun w1 b1 => ?_
  have X0 := (((HB.newAt (b := w.heap.size) (by simp) _ _).alloc _).alloc _).later b1
  have X1 := ((HB.newAt (b := w.heap.size + 1) (by simp) _ _).alloc _).later b1
  have X2 := (HB.newAt (b := w.heap.size + 1 + 1) (by simp) _ _).later b1
  have oX0 := X0.o
  have oX1 := X1.o
  have oX2 := X2.o
  go_wp2_with fail
  refine vM (h1.out _ (ft.later (bC (bA (bA (bA bR _) _) _) b1))) fun w2 b2 => ?_
  clear oX0 oX1 oX2
  go_wp2_with fail
  refine vM (h2.out _ (ft.later (bC (bC (bA (bA (bA bR _) _) _) b1) b2))) fun w3 b3 => ?_
  go_wp2_with fail
  go_ret
  exact ⟨rfl, (bC (bC (bC (bA (bA (bA bR _) _) _) b1) b2) b3)⟩
theorem sum20_main (f m ah al ch cl em ph pl rh rl fl : Int) (t : Bool)
    (h0 : Hid (∀ w, FTab w → Ca 13 #[.int .u8 f] w (.bool true)))
    (h1 : Hid (∀ w, FTab w → Ca 18 #[.int .u8 f] w (.int .i64 em)))
    (h2 : Hid (∀ w, FTab w → Ca 21 #[.int .u8 f, .bool false, .int .i64 em, U2 0 0] w (U2 ph pl)))
    (h3 : Hid (∀ w, FTab w → Ca 10 #[.int .u8 f, .agg #[.int .u8 m, .bool t], U2 ah al, U2 ph pl, U2 ch cl] w (.agg #[.int .u64 rh, .int .u64 rl, .int .u8 fl])))
    (h4 : Hid (∀ w, FTab w → Ca 22 #[.int .u8 f, .agg #[.int .u8 m, .bool t], U2 ah al, U2 ch cl] w (.agg #[.int .u64 rh, .int .u64 rl, .int .u8 fl])))
    (h5 : Hid (∀ w, FTab w → Ca 12 #[] w (.bool true))) (w : World) (ft : FTab w) :
    Ca 5 #[.int .u8 f, .agg #[.int .u8 m, .bool t], U2 ah al, U2 ch cl] w (.bool true) := by
  simp only [Ca, U2] at *
  have EQ := eqr20 rh rl fl
  go_enter Tryz.func5, Tryz.ntmps5
  go_wp2_with fail
  refine vM (h0.out _ (ft.later (bA (bA (bA bR _) _) _))) fun w1 b1 => ?_
  have X0 := (((HB.newAt (b := w.heap.size) (by simp) _ _).alloc _).alloc _).later b1
  have X1 := ((HB.newAt (b := w.heap.size + 1) (by simp) _ _).alloc _).later b1
  have X2 := (HB.newAt (b := w.heap.size + 1 + 1) (by simp) _ _).later b1
  go_wp2_with fail
  refine vM (h1.out _ (ft.later (bC (bA (bA (bA bR _) _) _) b1))) fun w2 b2 => ?_
  go_wp2_with fail
  refine vM (h2.out _ (ft.later (bC (bC (bA (bA (bA bR _) _) _) b1) b2))) fun w3 b3 => ?_
  go_wp2_with fail
  refine vF1 fun w4 b4 X3 => ?_
  replace X0 := X0.later (bC (bC b2 b3) b4)
  replace X1 := X1.later (bC (bC b2 b3) b4)
  replace X2 := X2.later (bC (bC b2 b3) b4)
  refine vR [] fun w5 b5 S5 => ?_
  refine vT 0 S5 ?_
  refine vT 1 S5 ?_ (hy := by intro wq hb; have q := (hb.hb X0 (by simp)).o; go_simp; try (with_reducible rfl))
  refine vT 2 S5 ?_ (hy := by intro wq hb; have q := (hb.hb X1 (by simp)).o; go_simp; try (with_reducible rfl))
  refine vT 3 S5 ?_ (hy := by intro wq hb; have q := (hb.hb X3 (by simp)).o; go_simp; try (with_reducible rfl))
  refine vT 4 S5 ?_ (hy := by intro wq hb; have q := (hb.hb X2 (by simp)).o; go_simp; try (with_reducible rfl))
  refine vT 6 S5 ?_
  refine vT 7 S5 ?_ (hy := by intro wq hb; have q := (hb.hb X0 (by simp)).o; go_simp; try (with_reducible rfl))
  refine vT 8 S5 ?_ (hy := by intro wq hb; have q := (hb.hb X1 (by simp)).o; go_simp; try (with_reducible rfl))
  refine vT 9 S5 ?_ (hy := by intro wq hb; have q := (hb.hb X2 (by simp)).o; go_simp; try (with_reducible rfl))
  refine vY1 (vC 5 S5 (h3.out _ (ft.later (bC (bC (bC (bC (bC (bA (bA (bA bR _) _) _) b1) b2) b3) b4) b5))) (fun _ _ => Off.later) fun w6 b6 S6 => ?_)
  refine vY1 (vC 10 S6 (h4.out _ (ft.later (bC (bC (bC (bC (bC (bC (bA (bA (bA bR _) _) _) b1) b2) b3) b4) b5) b6))) (fun _ _ => Off.later) fun w7 b7 S7 => ?_)
  refine vT 11 S7 ?_
  refine vT 12 S7 ?_
  refine vY1 (vC 13 S7 (h5.out _ (ft.later (bC (bC (bC (bC (bC (bC (bC (bA (bA (bA bR _) _) _) b1) b2) b3) b4) b5) b6) b7))) (fun _ _ => Off.later) fun w8 b8 S8 => ?_)
  refine vT 14 S8 ?_
  refine vT 15 S8 ?_
  refine vD ?_
  go_wp2_with fail
  go_ret
  exact ⟨rfl, (bC (bC (bC (bC (bC (bC (bC (bC (bA (bA (bA bR _) _) _) b1) b2) b3) b4) b5) b6) b7) b8)⟩
end Go.Proofs.YtdcdbcccchadfaaGreatDoor
