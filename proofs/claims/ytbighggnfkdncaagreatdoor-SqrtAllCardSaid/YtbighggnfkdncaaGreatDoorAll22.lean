import Derived.Test.YtbighggnfkdncaaGreatDoorRest0
set_option maxHeartbeats 4000000
set_option linter.unusedVariables false
set_option linter.unusedSimpArgs false
set_option maxRecDepth 100000
namespace Go.Proofs.YtbighggnfkdncaaGreatDoor
open Go.RowKit
attribute [local go_sem ↓] Go.wp_at_zero Go.wp_at_succ
theorem all22_core (f m ah al rh rl fl : Int) (t : Bool)
    (h0 : Hid (∀ w, FTab w → Ca 10 #[.int .u8 f, .agg #[.int .u8 m, .bool t], U2 ah al] w (.agg #[.int .u64 rh, .int .u64 rl, .int .u8 fl])))
    (h1 : Hid (∀ w, Ca 11 #[.int .u8 f, .agg #[.int .u8 m, .bool t], U2 ah al] w (.agg #[.int .u64 rh, .int .u64 rl, .int .u8 fl])))
    (h2 : Hid (∀ w, FTab w → Ca 12 #[] w (.bool true))) (w : World) (ft : FTab w) :
    Ca 3 #[.int .u8 f, .agg #[.int .u8 m, .bool t], U2 ah al] w (.bool true) := by
  simp only [Ca, U2] at *
  have EQ := eqr22 rh rl fl
  go_enter Tryz.func3, Tryz.ntmps3
  go_wp2_with fail
  refine vF2 fun w1 b1 X0 X1 => ?_
  refine vR [] fun w2 b2 S2 => ?_
  refine vT 0 S2 ?_
  refine vT 1 S2 ?_ (hy := by intro wq hb; have q := (hb.hb X0 (by simp)).o; go_simp; try (with_reducible rfl))
  refine vT 2 S2 ?_ (hy := by intro wq hb; have q := (hb.hb X1 (by simp)).o; go_simp; try (with_reducible rfl))
  refine vT 4 S2 ?_
  refine vT 5 S2 ?_ (hy := by intro wq hb; have q := (hb.hb X0 (by simp)).o; go_simp; try (with_reducible rfl))
  refine vT 6 S2 ?_ (hy := by intro wq hb; have q := (hb.hb X1 (by simp)).o; go_simp; try (with_reducible rfl))
  refine vY1 (vC 3 S2 (h0.out _ (ft.later (bC b1 b2))) (fun _ _ => Off.later) fun w3 b3 S3 => ?_)
  refine vY1 (vC 7 S3 (h1.out _) (fun _ _ => Off.later) fun w4 b4 S4 => ?_)
  refine vT 8 S4 ?_
  refine vT 9 S4 ?_
  refine vY1 (vC 10 S4 (h2.out _ (ft.later (bC (bC (bC b1 b2) b3) b4))) (fun _ _ => Off.later) fun w5 b5 S5 => ?_)
  refine vT 11 S5 ?_
  refine vT 12 S5 ?_
  refine vD ?_
  go_wp2_with fail
  go_ret
  exact ⟨rfl, (bC (bC (bC (bC b1 b2) b3) b4) b5)⟩
end Go.Proofs.YtbighggnfkdncaaGreatDoor
