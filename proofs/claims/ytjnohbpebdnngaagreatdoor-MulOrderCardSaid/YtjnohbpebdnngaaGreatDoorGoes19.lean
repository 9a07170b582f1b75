/-
  The walk of the example that every statement of stage 19 asks.
-/
import Derived.Test.YtjnohbpebdnngaaGreatDoorW2
import Derived.Test.YtjnohbpebdnngaaGreatDoorGaB
import Derived.Test.YtjnohbpebdnngaaGreatDoorGfA
import Derived.Test.YtjnohbpebdnngaaGreatDoorGhA
import Derived.Test.YtjnohbpebdnngaaGreatDoorGaA
set_option linter.unusedVariables false
set_option linter.unusedSimpArgs false
set_option maxRecDepth 100000
namespace Go.Proofs.YtjnohbpebdnngaaGreatDoor
open Go.RowKit
attribute [local go_sem ↓] Go.wp_at_zero Go.wp_at_succ

theorem eqr19 (h l c : Int) (w : World) : (binOp .eql 31 (.agg #[.int .u64 h, .int .u64 l, .int .u8 c]) (.agg #[.int .u64 h, .int .u64 l, .int .u8 c])).run Tryz.prog w = .ok (.bool true) w := by
  go_simp
theorem neqr19 (h l c : Int) (w : World) : (binOp .neq 31 (.agg #[.int .u64 h, .int .u64 l, .int .u8 c]) (.agg #[.int .u64 h, .int .u64 l, .int .u8 c])).run Tryz.prog w = .ok (.bool false) w := by
  go_simp
theorem eqw19 (a0 a1 a2 a3 : Int) (w : World) : (binOp .eql 39 (.agg #[.int .u64 a0, .int .u64 a1, .int .u64 a2, .int .u64 a3]) (.agg #[.int .u64 a0, .int .u64 a1, .int .u64 a2, .int .u64 a3])).run Tryz.prog w = .ok (.bool true) w := by
  rw [eql_wide]; simp
theorem eqb19 (h l : Int) (w : World) : (binOp .eql 28 (.agg #[.int .u64 h, .int .u64 l]) (.agg #[.int .u64 h, .int .u64 l])).run Tryz.prog w = .ok (.bool true) w := by
  go_simp

set_option maxHeartbeats 4000000 in
theorem half19 (v : Int)
     (w : World) :
    Ca 36 #[.int .u64 v] w (U2 0 v) := by
  simp only [Ca, U2] at *
  go_enter Tryz.func36, Tryz.ntmps36
  go_wp2_with fail
  refine bodyPost_ret (v := .agg #[.int .u64 0, .int .u64 v]) ?_ rfl ⟨rfl, (bA (Below.refl _ _) _)⟩
  simp [results, Tryz.results36, go_sem]

set_option maxHeartbeats 4000000 in
theorem goes19_core 
    (h2 : Hid (∀ w, FTab w → Ca 11 #[.int .u8 0, .agg #[.int .u8 0, .bool false], U2 0 16384, U2 0 16896] w (.agg #[.int .u64 0, .int .u64 17920, .int .u8 0])))
    (h6 : Hid (∀ w, FTab w → Ca 11 #[.int .u8 0, .agg #[.int .u8 0, .bool false], U2 0 49152, U2 0 16896] w (.agg #[.int .u64 0, .int .u64 50688, .int .u8 0])))
    (h10 : Hid (∀ w, FTab w → Ca 11 #[.int .u8 0, .agg #[.int .u8 0, .bool false], U2 0 0, U2 0 31744] w (.agg #[.int .u64 0, .int .u64 32256, .int .u8 1])))
    (h14 : Hid (∀ w, FTab w → Ca 11 #[.int .u8 0, .agg #[.int .u8 0, .bool false], U2 0 1, U2 0 14336] w (.agg #[.int .u64 0, .int .u64 0, .int .u8 24]))) (w : World) (ft : FTab w) :
    Ca 13 #[] w (.bool true) := by
  simp only [Ca, U2] at *
  go_enter Tryz.func13, Tryz.ntmps13
  go_wp2_with fail
  refine vF1 fun w1 b1 X0 => ?_
  refine vR [] fun w2 b2 S2 => ?_
  refine vT 0 S2 ?_ (hy := by intro wq hb; have q := (hb.hb X0 (by simp)).o; go_simp; try (with_reducible rfl))
  refine vY1 (vC 1 S2 (half19 _ _) (fun _ _ => Off.later) fun w3 b3 S3 => ?_)
  refine vY1 (vC 2 S3 (half19 _ _) (fun _ _ => Off.later) fun w4 b4 S4 => ?_)
  refine vY1 (vC 3 S4 (h2.out _ (ft.later (bC (bC (bC b1 b2) b3) b4))) (fun _ _ => Off.later) fun w5 b5 S5 => ?_)
  refine vY1 (vC 4 S5 (half19 _ _) (fun _ _ => Off.later) fun w6 b6 S6 => ?_)
  refine vT 5 S6 ?_
  refine vT 6 S6 ?_
  refine vT 7 S6 ?_
  refine vT 8 S6 ?_ (hy := by intro wq hb; have q := (hb.hb X0 (by simp)).o; go_simp; try (with_reducible rfl))
  refine vY1 (vC 9 S6 (half19 _ _) (fun _ _ => Off.later) fun w7 b7 S7 => ?_)
  refine vY1 (vC 10 S7 (half19 _ _) (fun _ _ => Off.later) fun w8 b8 S8 => ?_)
  refine vY1 (vC 11 S8 (h6.out _ (ft.later (bC (bC (bC (bC (bC (bC (bC b1 b2) b3) b4) b5) b6) b7) b8))) (fun _ _ => Off.later) fun w9 b9 S9 => ?_)
  refine vY1 (vC 12 S9 (half19 _ _) (fun _ _ => Off.later) fun w10 b10 S10 => ?_)
  refine vT 13 S10 ?_
  refine vT 14 S10 ?_
  refine vT 15 S10 ?_
  refine vT 16 S10 ?_
  refine vT 17 S10 ?_ (hy := by intro wq hb; have q := (hb.hb X0 (by simp)).o; go_simp; try (with_reducible rfl))
  refine vY1 (vC 18 S10 (half19 _ _) (fun _ _ => Off.later) fun w11 b11 S11 => ?_)
  refine vY1 (vC 19 S11 (half19 _ _) (fun _ _ => Off.later) fun w12 b12 S12 => ?_)
  refine vY1 (vC 20 S12 (h10.out _ (ft.later (bC (bC (bC (bC (bC (bC (bC (bC (bC (bC (bC b1 b2) b3) b4) b5) b6) b7) b8) b9) b10) b11) b12))) (fun _ _ => Off.later) fun w13 b13 S13 => ?_)
  refine vY1 (vC 21 S13 (half19 _ _) (fun _ _ => Off.later) fun w14 b14 S14 => ?_)
  refine vT 22 S14 ?_
  refine vT 23 S14 ?_
  refine vT 24 S14 ?_
  refine vT 25 S14 ?_
  refine vT 26 S14 ?_ (hy := by intro wq hb; have q := (hb.hb X0 (by simp)).o; go_simp; try (with_reducible rfl))
  refine vT 30 S14 ?_
  refine vY1 (vC 27 S14 (half19 _ _) (fun _ _ => Off.later) fun w15 b15 S15 => ?_)
  refine vY1 (vC 28 S15 (half19 _ _) (fun _ _ => Off.later) fun w16 b16 S16 => ?_)
  refine vY1 (vC 29 S16 (h14.out _ (ft.later (bC (bC (bC (bC (bC (bC (bC (bC (bC (bC (bC (bC (bC (bC (bC b1 b2) b3) b4) b5) b6) b7) b8) b9) b10) b11) b12) b13) b14) b15) b16))) (fun _ _ => Off.later) fun w17 b17 S17 => ?_)
  refine vT 31 S17 ?_
  refine vT 32 S17 ?_
  refine vT 33 S17 ?_
  refine vD ?_
  go_wp2_with fail
  go_ret
  exact ⟨rfl, (bC (bC (bC (bC (bC (bC (bC (bC (bC (bC (bC (bC (bC (bC (bC (bC b1 b2) b3) b4) b5) b6) b7) b8) b9) b10) b11) b12) b13) b14) b15) b16) b17)⟩



end Go.Proofs.YtjnohbpebdnngaaGreatDoor
