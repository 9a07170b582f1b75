import Derived.Test.YtdcdbcccchadfaaGreatDoorGwA
import Derived.Test.YtdcdbcccchadfaaGreatDoorGaB
import Derived.Test.YtdcdbcccchadfaaGreatDoorGfA
import Derived.Test.YtdcdbcccchadfaaGreatDoorGhA
import Derived.Test.YtdcdbcccchadfaaGreatDoorGaA
import Derived.Test.YtdcdbcccchadfaaGreatDoorFma20M
set_option maxHeartbeats 4000000
set_option linter.unusedVariables false
set_option linter.unusedSimpArgs false
set_option maxRecDepth 100000
namespace Go.Proofs.YtdcdbcccchadfaaGreatDoor
open Go.RowKit
attribute [local go_sem ↓] Go.wp_at_zero Go.wp_at_succ
theorem eqr20 (h l c : Int) (w : World) : (binOp .eql 31 (.agg #[.int .u64 h, .int .u64 l, .int .u8 c]) (.agg #[.int .u64 h, .int .u64 l, .int .u8 c])).run Tryz.prog w = .ok (.bool true) w := by
  go_simp
theorem half20 (v : Int)
     (w : World) :
    Ca 30 #[.int .u64 v] w (U2 0 v) := by
  simp only [Ca, U2] at *
  go_enter Tryz.func30, Tryz.ntmps30
  go_wp2_with fail
  refine bodyPost_ret (v := .agg #[.int .u64 0, .int .u64 v]) ?_ rfl ⟨rfl, (bA bR _)⟩
  simp [results, Tryz.results30, go_sem]
theorem goes20_core
    (h3 : Hid (∀ w, FTab w → Ca 10 #[.int .u8 0, .agg #[.int .u8 0, .bool false], U2 0 16384, U2 0 16896, U2 0 15360] w (.agg #[.int .u64 0, .int .u64 18176, .int .u8 0])))
    (h8 : Hid (∀ w, FTab w → Ca 10 #[.int .u8 0, .agg #[.int .u8 0, .bool false], U2 0 0, U2 0 31744, U2 0 32261] w (.agg #[.int .u64 0, .int .u64 32261, .int .u8 1])))
    (h13 : Hid (∀ w, FTab w → Ca 10 #[.int .u8 0, .agg #[.int .u8 0, .bool false], U2 0 31744, U2 0 15360, U2 0 64512] w (.agg #[.int .u64 0, .int .u64 32256, .int .u8 1])))
    (h18 : Hid (∀ w, FTab w → Ca 10 #[.int .u8 0, .agg #[.int .u8 0, .bool false], U2 0 15361, U2 0 15361, U2 0 48130] w (.agg #[.int .u64 0, .int .u64 16, .int .u8 0]))) (w : World) (ft : FTab w) :
    Ca 12 #[] w (.bool true) := by
  simp only [Ca, U2] at *
  go_enter Tryz.func12, Tryz.ntmps12
  go_wp2_with fail
  refine vF1 fun w1 b1 X0 => ?_
  refine vR [] fun w2 b2 S2 => ?_
  refine vT 0 S2 ?_ (hy := by intro wq hb; have q := (hb.hb X0 (by simp)).o; go_simp; try (with_reducible rfl))
  refine vY1 (vC 1 S2 (half20 _ _) (fun _ _ => Off.later) fun w3 b3 S3 => ?_)
  refine vY1 (vC 2 S3 (half20 _ _) (fun _ _ => Off.later) fun w4 b4 S4 => ?_)
  refine vY1 (vC 3 S4 (half20 _ _) (fun _ _ => Off.later) fun w5 b5 S5 => ?_)
  refine vY1 (vC 4 S5 (h3.out _ (ft.later (bC (bC (bC (bC b1 b2) b3) b4) b5))) (fun _ _ => Off.later) fun w6 b6 S6 => ?_)
  refine vY1 (vC 5 S6 (half20 _ _) (fun _ _ => Off.later) fun w7 b7 S7 => ?_)
  refine vT 6 S7 ?_
  refine vT 7 S7 ?_
  refine vT 8 S7 ?_
  refine vT 9 S7 ?_ (hy := by intro wq hb; have q := (hb.hb X0 (by simp)).o; go_simp; try (with_reducible rfl))
  refine vY1 (vC 10 S7 (half20 _ _) (fun _ _ => Off.later) fun w8 b8 S8 => ?_)
  refine vY1 (vC 11 S8 (half20 _ _) (fun _ _ => Off.later) fun w9 b9 S9 => ?_)
  refine vY1 (vC 12 S9 (half20 _ _) (fun _ _ => Off.later) fun w10 b10 S10 => ?_)
  refine vY1 (vC 13 S10 (h8.out _ (ft.later (bC (bC (bC (bC (bC (bC (bC (bC (bC b1 b2) b3) b4) b5) b6) b7) b8) b9) b10))) (fun _ _ => Off.later) fun w11 b11 S11 => ?_)
  refine vY1 (vC 14 S11 (half20 _ _) (fun _ _ => Off.later) fun w12 b12 S12 => ?_)
  refine vT 15 S12 ?_
  refine vT 16 S12 ?_
  as_aux_lemma =>
    refine vT 17 S12 ?_
    refine vT 18 S12 ?_
    refine vT 19 S12 ?_ (hy := by intro wq hb; have q := (hb.hb X0 (by simp)).o; go_simp; try (with_reducible rfl))
    refine vY1 (vC 20 S12 (half20 _ _) (fun _ _ => Off.later) fun w13 b13 S13 => ?_)
    refine vY1 (vC 21 S13 (half20 _ _) (fun _ _ => Off.later) fun w14 b14 S14 => ?_)
    refine vY1 (vC 22 S14 (half20 _ _) (fun _ _ => Off.later) fun w15 b15 S15 => ?_)
    refine vY1 (vC 23 S15 (h13.out _ (ft.later (bC (bC (bC (bC (bC (bC (bC (bC (bC (bC (bC (bC (bC (bC b1 b2) b3) b4) b5) b6) b7) b8) b9) b10) b11) b12) b13) b14) b15))) (fun _ _ => Off.later) fun w16 b16 S16 => ?_)
    refine vY1 (vC 24 S16 (half20 _ _) (fun _ _ => Off.later) fun w17 b17 S17 => ?_)
    refine vT 25 S17 ?_
    refine vT 26 S17 ?_
    refine vT 27 S17 ?_
    refine vT 28 S17 ?_
    refine vT 29 S17 ?_ (hy := by intro wq hb; have q := (hb.hb X0 (by simp)).o; go_simp; try (with_reducible rfl))
    refine vY1 (vC 30 S17 (half20 _ _) (fun _ _ => Off.later) fun w18 b18 S18 => ?_)
    refine vY1 (vC 31 S18 (half20 _ _) (fun _ _ => Off.later) fun w19 b19 S19 => ?_)
    refine vY1 (vC 32 S19 (half20 _ _) (fun _ _ => Off.later) fun w20 b20 S20 => ?_)
    refine vY1 (vC 33 S20 (h18.out _ (ft.later (bC (bC (bC (bC (bC (bC (bC (bC (bC (bC (bC (bC (bC (bC (bC (bC (bC (bC (bC b1 b2) b3) b4) b5) b6) b7) b8) b9) b10) b11) b12) b13) b14) b15) b16) b17) b18) b19) b20))) (fun _ _ => Off.later) fun w21 b21 S21 => ?_)
    refine vY1 (vC 34 S21 (half20 _ _) (fun _ _ => Off.later) fun w22 b22 S22 => ?_)
    refine vT 35 S22 ?_
    refine vT 36 S22 ?_
    as_aux_lemma =>
      refine vT 37 S22 ?_
      refine vT 38 S22 ?_
      refine vD ?_
      go_wp2_with fail
      go_ret
      exact ⟨rfl, (bC (bC (bC (bC (bC (bC (bC (bC (bC (bC (bC (bC (bC (bC (bC (bC (bC (bC (bC (bC (bC b1 b2) b3) b4) b5) b6) b7) b8) b9) b10) b11) b12) b13) b14) b15) b16) b17) b18) b19) b20) b21) b22)⟩
end Go.Proofs.YtdcdbcccchadfaaGreatDoor
namespace Go.Proofs.YtdcdbcccchadfaaGreatDoor
open Go.RowKit
attribute [local go_sem ↓] Go.wp_at_zero Go.wp_at_succ
theorem goes20_any (A : FmaOK) (w : World) (ft : FTab w) : Calls Tryz.prog 12 #[] w fun e w' => e = .returned (.bool true) ∧ Below w.heap.size w w' := by
  refine goes20_core (lH fun w ft => ?h3) (lH fun w ft => ?h8) (lH fun w ft => ?h13) (lH fun w ft => ?h18) w ft
  case h3 =>
    have h := A.fma 0 0 false 16384 16896 15360 (by decide) (by decide) (by decide) (by decide) (by decide) (by decide +kernel) (by decide) (by decide +kernel) (by decide) (by decide +kernel) w ft
    simp only [show fmB 0 0 16384 16896 15360 = 18176 from by decide +kernel, show fmFl 0 0 false 16384 16896 15360 = 0 from by decide +kernel, show hiOf 16384 = 0 from by decide +kernel, show hiOf 16896 = 0 from by decide +kernel, show hiOf 15360 = 0 from by decide +kernel, show hiOf 18176 = 0 from by decide +kernel, show loOf 16384 = 16384 from by decide +kernel, show loOf 16896 = 16896 from by decide +kernel, show loOf 15360 = 15360 from by decide +kernel, show loOf 18176 = 18176 from by decide +kernel] at h
    exact h
  case h8 =>
    have h := A.fma 0 0 false 0 31744 32261 (by decide) (by decide) (by decide) (by decide) (by decide) (by decide +kernel) (by decide) (by decide +kernel) (by decide) (by decide +kernel) w ft
    simp only [show fmB 0 0 0 31744 32261 = 32261 from by decide +kernel, show fmFl 0 0 false 0 31744 32261 = 1 from by decide +kernel, show hiOf 0 = 0 from by decide +kernel, show hiOf 31744 = 0 from by decide +kernel, show hiOf 32261 = 0 from by decide +kernel, show loOf 0 = 0 from by decide +kernel, show loOf 31744 = 31744 from by decide +kernel, show loOf 32261 = 32261 from by decide +kernel] at h
    exact h
  case h13 =>
    have h := A.fma 0 0 false 31744 15360 64512 (by decide) (by decide) (by decide) (by decide) (by decide) (by decide +kernel) (by decide) (by decide +kernel) (by decide) (by decide +kernel) w ft
    simp only [show fmB 0 0 31744 15360 64512 = 32256 from by decide +kernel, show fmFl 0 0 false 31744 15360 64512 = 1 from by decide +kernel, show hiOf 31744 = 0 from by decide +kernel, show hiOf 15360 = 0 from by decide +kernel, show hiOf 64512 = 0 from by decide +kernel, show hiOf 32256 = 0 from by decide +kernel, show loOf 31744 = 31744 from by decide +kernel, show loOf 15360 = 15360 from by decide +kernel, show loOf 64512 = 64512 from by decide +kernel, show loOf 32256 = 32256 from by decide +kernel] at h
    exact h
  case h18 =>
    have h := A.fma 0 0 false 15361 15361 48130 (by decide) (by decide) (by decide) (by decide) (by decide) (by decide +kernel) (by decide) (by decide +kernel) (by decide) (by decide +kernel) w ft
    simp only [show fmB 0 0 15361 15361 48130 = 16 from by decide +kernel, show fmFl 0 0 false 15361 15361 48130 = 0 from by decide +kernel, show hiOf 15361 = 0 from by decide +kernel, show hiOf 48130 = 0 from by decide +kernel, show hiOf 16 = 0 from by decide +kernel, show loOf 15361 = 15361 from by decide +kernel, show loOf 48130 = 48130 from by decide +kernel, show loOf 16 = 16 from by decide +kernel] at h
    exact h
end Go.Proofs.YtdcdbcccchadfaaGreatDoor
