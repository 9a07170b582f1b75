import Derived.Test.YtnlmceafleeaiaaGreatDoorGwA
import Derived.Test.YtnlmceafleeaiaaGreatDoorGaB
import Derived.Test.YtnlmceafleeaiaaGreatDoorGfA
import Derived.Test.YtnlmceafleeaiaaGreatDoorGhA
import Derived.Test.YtnlmceafleeaiaaGreatDoorGaA
set_option maxHeartbeats 4000000
set_option linter.unusedVariables false
set_option linter.unusedSimpArgs false
set_option maxRecDepth 100000
namespace Go.Proofs.YtnlmceafleeaiaaGreatDoor
open Go.RowKit
attribute [local go_sem ↓] Go.wp_at_zero Go.wp_at_succ
theorem eqb21 (h l : Int) (w : World) : (binOp .eql 28 (.agg #[.int .u64 h, .int .u64 l]) (.agg #[.int .u64 h, .int .u64 l])).run Tryz.prog w = .ok (.bool true) w := by
  go_simp
theorem half21 (v : Int)
     (w : World) :
    Ca 29 #[.int .u64 v] w (U2 0 v) := by
  simp only [Ca, U2] at *
  go_enter Tryz.func29, Tryz.ntmps29
  go_wp2_with fail
  refine bodyPost_ret (v := .agg #[.int .u64 0, .int .u64 v]) ?_ rfl ⟨rfl, (bA bR _)⟩
  simp [results, Tryz.results29, go_sem]
theorem goes21_core
    (h2 : Hid (∀ w, FTab w → Ca 10 #[.int .u8 0, .agg #[.int .u8 0, .bool false], U2 0 15360, U2 0 16896] w (.agg #[.int .u64 0, .int .u64 13653, .int .u8 16])))
    (h6 : Hid (∀ w, FTab w → Ca 10 #[.int .u8 0, .agg #[.int .u8 0, .bool false], U2 0 15360, U2 0 32768] w (.agg #[.int .u64 0, .int .u64 64512, .int .u8 2])))
    (h10 : Hid (∀ w, FTab w → Ca 10 #[.int .u8 0, .agg #[.int .u8 0, .bool false], U2 0 0, U2 0 0] w (.agg #[.int .u64 0, .int .u64 32256, .int .u8 1])))
    (h14 : Hid (∀ w, FTab w → Ca 10 #[.int .u8 0, .agg #[.int .u8 0, .bool false], U2 0 17920, U2 0 16384] w (.agg #[.int .u64 0, .int .u64 16896, .int .u8 0]))) (w : World) (ft : FTab w) :
    Ca 12 #[] w (.bool true) := by
  simp only [Ca, U2] at *
  go_enter Tryz.func12, Tryz.ntmps12
  go_wp2_with fail
  refine vF1 fun w1 b1 X0 => ?_
  refine vR [] fun w2 b2 S2 => ?_
  refine vT 0 S2 ?_ (hy := by intro wq hb; have q := (hb.hb X0 (by simp)).o; go_simp; try (with_reducible rfl))
  refine vY1 (vC 1 S2 (half21 _ _) (fun _ _ => Off.later) fun w3 b3 S3 => ?_)
  refine vY1 (vC 2 S3 (half21 _ _) (fun _ _ => Off.later) fun w4 b4 S4 => ?_)
  refine vY1 (vC 3 S4 (h2.out _ (ft.later (bC (bC (bC b1 b2) b3) b4))) (fun _ _ => Off.later) fun w5 b5 S5 => ?_)
  refine vY1 (vC 4 S5 (half21 _ _) (fun _ _ => Off.later) fun w6 b6 S6 => ?_)
  refine vT 5 S6 ?_
  refine vT 6 S6 ?_
  refine vT 7 S6 ?_
  refine vT 8 S6 ?_ (hy := by intro wq hb; have q := (hb.hb X0 (by simp)).o; go_simp; try (with_reducible rfl))
  refine vY1 (vC 9 S6 (half21 _ _) (fun _ _ => Off.later) fun w7 b7 S7 => ?_)
  refine vY1 (vC 10 S7 (half21 _ _) (fun _ _ => Off.later) fun w8 b8 S8 => ?_)
  refine vY1 (vC 11 S8 (h6.out _ (ft.later (bC (bC (bC (bC (bC (bC (bC b1 b2) b3) b4) b5) b6) b7) b8))) (fun _ _ => Off.later) fun w9 b9 S9 => ?_)
  refine vY1 (vC 12 S9 (half21 _ _) (fun _ _ => Off.later) fun w10 b10 S10 => ?_)
  refine vT 13 S10 ?_
  refine vT 14 S10 ?_
  refine vT 15 S10 ?_
  refine vT 16 S10 ?_
  as_aux_lemma =>
    refine vT 17 S10 ?_ (hy := by intro wq hb; have q := (hb.hb X0 (by simp)).o; go_simp; try (with_reducible rfl))
    refine vY1 (vC 18 S10 (half21 _ _) (fun _ _ => Off.later) fun w11 b11 S11 => ?_)
    refine vY1 (vC 19 S11 (half21 _ _) (fun _ _ => Off.later) fun w12 b12 S12 => ?_)
    refine vY1 (vC 20 S12 (h10.out _ (ft.later (bC (bC (bC (bC (bC (bC (bC (bC (bC (bC (bC b1 b2) b3) b4) b5) b6) b7) b8) b9) b10) b11) b12))) (fun _ _ => Off.later) fun w13 b13 S13 => ?_)
    refine vY1 (vC 21 S13 (half21 _ _) (fun _ _ => Off.later) fun w14 b14 S14 => ?_)
    refine vT 22 S14 ?_
    refine vT 23 S14 ?_
    refine vT 24 S14 ?_
    refine vT 25 S14 ?_
    refine vT 26 S14 ?_ (hy := by intro wq hb; have q := (hb.hb X0 (by simp)).o; go_simp; try (with_reducible rfl))
    refine vY1 (vC 27 S14 (half21 _ _) (fun _ _ => Off.later) fun w15 b15 S15 => ?_)
    refine vY1 (vC 28 S15 (half21 _ _) (fun _ _ => Off.later) fun w16 b16 S16 => ?_)
    refine vY1 (vC 29 S16 (h14.out _ (ft.later (bC (bC (bC (bC (bC (bC (bC (bC (bC (bC (bC (bC (bC (bC (bC b1 b2) b3) b4) b5) b6) b7) b8) b9) b10) b11) b12) b13) b14) b15) b16))) (fun _ _ => Off.later) fun w17 b17 S17 => ?_)
    refine vY1 (vC 30 S17 (half21 _ _) (fun _ _ => Off.later) fun w18 b18 S18 => ?_)
    refine vT 31 S18 ?_
    refine vT 32 S18 ?_
    refine vT 33 S18 ?_
    refine vT 34 S18 ?_
    refine vD ?_
    go_wp2_with fail
    go_ret
    exact ⟨rfl, (bC (bC (bC (bC (bC (bC (bC (bC (bC (bC (bC (bC (bC (bC (bC (bC (bC b1 b2) b3) b4) b5) b6) b7) b8) b9) b10) b11) b12) b13) b14) b15) b16) b17) b18)⟩
theorem plain21_no (f bh bl k : Int) (n : Bool)
    (h0 : Hid (∀ w, FTab w → Ca 14 #[.int .u8 f, U2 bh bl] w (.tuple #[.int .u8 k, .bool n])))
    (h1 : Hid (∀ w, FTab w → Ca 20 #[.int .u8 f] w (.bool false))) (w : World) (ft : FTab w) :
    Ca 13 #[.int .u8 f, U2 bh bl] w (.bool false) := by
  simp only [Ca, U2] at *
  go_enter Tryz.func13, Tryz.ntmps13
  go_wp2_with fail
  refine vM (h0.out _ (ft.later (bA bR _))) fun w1 b1 => ?_
  go_wp2_with fail
  refine vM (h1.out _ (ft.later (bC (bA bR _) b1))) fun w2 b2 => ?_
  go_wp2_with fail
  go_ret
  exact ⟨rfl, (bC (bC (bA bR _) b1) b2)⟩
theorem plain21_a (f bh bl k : Int) (n : Bool)
    (h0 : Hid (∀ w, FTab w → Ca 14 #[.int .u8 f, U2 bh bl] w (.tuple #[.int .u8 k, .bool n])))
    (h1 : Hid (∀ w, FTab w → Ca 20 #[.int .u8 f] w (.bool true))) (g1 : (k == 1) = true) (w : World) (ft : FTab w) :
    Ca 13 #[.int .u8 f, U2 bh bl] w (.bool true) := by
  simp only [Ca, U2] at *
  go_enter Tryz.func13, Tryz.ntmps13
  go_wp2_with fail
  refine vM (h0.out _ (ft.later (bA bR _))) fun w1 b1 => ?_
  go_wp2_with fail
  refine vM (h1.out _ (ft.later (bC (bA bR _) b1))) fun w2 b2 => ?_
  go_wp2_with fail
  go_ret
  exact ⟨rfl, (bC (bC (bA bR _) b1) b2)⟩
theorem plain21_b (f bh bl k : Int) (n : Bool)
    (h0 : Hid (∀ w, FTab w → Ca 14 #[.int .u8 f, U2 bh bl] w (.tuple #[.int .u8 k, .bool n])))
    (h1 : Hid (∀ w, FTab w → Ca 20 #[.int .u8 f] w (.bool true))) (g1 : (k == 1) = false) (w : World) (ft : FTab w) :
    Ca 13 #[.int .u8 f, U2 bh bl] w (.bool ((k == 2))) := by
  simp only [Ca, U2] at *
  go_enter Tryz.func13, Tryz.ntmps13
  go_wp2_with fail
  refine vM (h0.out _ (ft.later (bA bR _))) fun w1 b1 => ?_
  go_wp2_with fail
  refine vM (h1.out _ (ft.later (bC (bA bR _) b1))) fun w2 b2 => ?_
  go_wp2_with fail
  go_ret
  exact ⟨rfl, (bC (bC (bA bR _) b1) b2)⟩
end Go.Proofs.YtnlmceafleeaiaaGreatDoor
