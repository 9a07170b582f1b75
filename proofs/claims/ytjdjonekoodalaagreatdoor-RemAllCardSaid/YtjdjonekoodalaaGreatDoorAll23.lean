import Derived.Test.YtjdjonekoodalaaGreatDoorGzC
set_option maxHeartbeats 4000000
set_option linter.unusedVariables false
set_option linter.unusedSimpArgs false
set_option maxRecDepth 100000
namespace Go.Proofs.YtjdjonekoodalaaGreatDoor
open Go.RowKit
attribute [local go_sem ↓] Go.wp_at_zero Go.wp_at_succ
theorem all23_far (f ah al bh bl : Int)
    (h0 : Hid (∀ w, Ca 10 #[.int .u8 f, U2 ah al, U2 bh bl] w (.bool true)))
    (h1 : Hid (∀ w, FTab w → Ca 11 #[] w (.bool true))) (g4 : decide (f < 4) = true) (w : World) (ft : FTab w) :
    Ca 3 #[.int .u8 f, U2 ah al, U2 bh bl] w (.bool true) := by
  simp only [Ca, U2] at *
  go_enter Tryz.func3, Tryz.ntmps3
  go_wp2_with fail
  refine vM (h0.out _) fun w1 b1 => ?_
  go_wp2_with fail
  refine vM (h1.out _ (ft.later (bC (bA (bA bR _) _) b1))) fun w2 b2 => ?_
  go_wp2_with fail
  go_ret
  exact ⟨rfl, (bC (bC (bA (bA bR _) _) b1) b2)⟩
theorem all23_near (f ah al bh bl rh rl fl : Int)
    (h0 : Hid (∀ w, Ca 10 #[.int .u8 f, U2 ah al, U2 bh bl] w (.bool false)))
    (h1 : Hid (∀ w, FTab w → Ca 12 #[.int .u8 f, U2 ah al, U2 bh bl] w (.agg #[.int .u64 rh, .int .u64 rl, .int .u8 fl])))
    (h2 : Hid (∀ w, Ca 13 #[.int .u8 f, U2 ah al, U2 bh bl] w (.agg #[.int .u64 rh, .int .u64 rl, .int .u8 fl])))
    (h3 : Hid (∀ w, FTab w → Ca 11 #[] w (.bool true))) (g4 : decide (f < 4) = true) (w : World) (ft : FTab w) :
    Ca 3 #[.int .u8 f, U2 ah al, U2 bh bl] w (.bool true) := by
  simp only [Ca, U2] at *
  have EQ := eqr23 rh rl fl
  go_enter Tryz.func3, Tryz.ntmps3
  go_wp2_with fail
  refine vM (h0.out _) fun w1 b1 => ?_
  have X0 := ((HB.newAt (b := w.heap.size) (by simp) _ _).alloc _).later b1
  have X1 := (HB.newAt (b := w.heap.size + 1) (by simp) _ _).later b1
  go_wp2_with fail
  refine vR [] fun w2 b2 S2 => ?_
  refine vT 0 S2 ?_
  refine vT 1 S2 ?_ (hy := by intro wq hb; have q := (hb.hb X0 (by simp)).o; go_simp; try (with_reducible rfl))
  refine vT 2 S2 ?_ (hy := by intro wq hb; have q := (hb.hb X1 (by simp)).o; go_simp; try (with_reducible rfl))
  refine vT 4 S2 ?_
  refine vT 5 S2 ?_ (hy := by intro wq hb; have q := (hb.hb X0 (by simp)).o; go_simp; try (with_reducible rfl))
  refine vT 6 S2 ?_ (hy := by intro wq hb; have q := (hb.hb X1 (by simp)).o; go_simp; try (with_reducible rfl))
  refine vY1 (vC 3 S2 (h1.out _ (ft.later (bC (bC (bA (bA bR _) _) b1) b2))) (fun _ _ => Off.later) fun w3 b3 S3 => ?_)
  refine vY1 (vC 7 S3 (h2.out _) (fun _ _ => Off.later) fun w4 b4 S4 => ?_)
  refine vT 8 S4 ?_
  refine vT 9 S4 ?_
  refine vY1 (vC 10 S4 (h3.out _ (ft.later (bC (bC (bC (bC (bA (bA bR _) _) b1) b2) b3) b4))) (fun _ _ => Off.later) fun w5 b5 S5 => ?_)
  refine vT 11 S5 ?_
  refine vT 12 S5 ?_
  refine vD ?_
  go_wp2_with fail
  go_ret
  exact ⟨rfl, (bC (bC (bC (bC (bC (bA (bA bR _) _) b1) b2) b3) b4) b5)⟩
theorem all23_no (f ah al bh bl rh rl fl : Int)
    (h1 : Hid (∀ w, FTab w → Ca 12 #[.int .u8 f, U2 ah al, U2 bh bl] w (.agg #[.int .u64 rh, .int .u64 rl, .int .u8 fl])))
    (h2 : Hid (∀ w, Ca 13 #[.int .u8 f, U2 ah al, U2 bh bl] w (.agg #[.int .u64 rh, .int .u64 rl, .int .u8 fl])))
    (h3 : Hid (∀ w, FTab w → Ca 11 #[] w (.bool true))) (g4 : decide (f < 4) = false) (w : World) (ft : FTab w) :
    Ca 3 #[.int .u8 f, U2 ah al, U2 bh bl] w (.bool true) := by
  simp only [Ca, U2] at *
  have EQ := eqr23 rh rl fl
  go_enter Tryz.func3, Tryz.ntmps3
  go_wp2_with fail
  refine vF2 fun w1 b1 X0 X1 => ?_
  refine vR [] fun w2 b2 S2 => ?_
  refine vT 0 S2 ?_
  refine vT 1 S2 ?_ (hy := by intro wq hb; have q := (hb.hb X0 (by simp)).o; go_simp; try (with_reducible rfl))
  refine vT 2 S2 ?_ (hy := by intro wq hb; have q := (hb.hb X1 (by simp)).o; go_simp; try (with_reducible rfl))
  refine vT 4 S2 ?_
  refine vT 5 S2 ?_ (hy := by intro wq hb; have q := (hb.hb X0 (by simp)).o; go_simp; try (with_reducible rfl))
  refine vT 6 S2 ?_ (hy := by intro wq hb; have q := (hb.hb X1 (by simp)).o; go_simp; try (with_reducible rfl))
  refine vY1 (vC 3 S2 (h1.out _ (ft.later (bC b1 b2))) (fun _ _ => Off.later) fun w3 b3 S3 => ?_)
  refine vY1 (vC 7 S3 (h2.out _) (fun _ _ => Off.later) fun w4 b4 S4 => ?_)
  refine vT 8 S4 ?_
  refine vT 9 S4 ?_
  refine vY1 (vC 10 S4 (h3.out _ (ft.later (bC (bC (bC b1 b2) b3) b4))) (fun _ _ => Off.later) fun w5 b5 S5 => ?_)
  refine vT 11 S5 ?_
  refine vT 12 S5 ?_
  refine vD ?_
  go_wp2_with fail
  go_ret
  exact ⟨rfl, (bC (bC (bC (bC b1 b2) b3) b4) b5)⟩
end Go.Proofs.YtjdjonekoodalaaGreatDoor
