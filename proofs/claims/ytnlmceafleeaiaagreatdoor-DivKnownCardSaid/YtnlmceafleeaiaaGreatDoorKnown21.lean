import Derived.Test.YtnlmceafleeaiaaGreatDoorGwA
import Derived.Test.YtnlmceafleeaiaaGreatDoorGaB
import Derived.Test.YtnlmceafleeaiaaGreatDoorGfA
import Derived.Test.YtnlmceafleeaiaaGreatDoorGhA
import Derived.Test.YtnlmceafleeaiaaGreatDoorGaA
import Derived.Test.YtnlmceafleeaiaaGreatDoorGoes21
import Derived.Test.YtnlmceafleeaiaaGreatDoorRest0
set_option maxHeartbeats 4000000
set_option linter.unusedVariables false
set_option linter.unusedSimpArgs false
set_option maxRecDepth 100000
namespace Go.Proofs.YtnlmceafleeaiaaGreatDoor
open Go.RowKit
attribute [local go_sem ↓] Go.wp_at_zero Go.wp_at_succ
theorem known21_core
    (h2 : Hid (∀ w, FTab w → Ca 10 #[.int .u8 0, .agg #[.int .u8 2, .bool false], U2 0 15360, U2 0 16896] w (.agg #[.int .u64 0, .int .u64 13654, .int .u8 16])))
    (h6 : Hid (∀ w, FTab w → Ca 10 #[.int .u8 0, .agg #[.int .u8 0, .bool false], U2 0 15360, U2 0 64512] w (.agg #[.int .u64 0, .int .u64 32768, .int .u8 0])))
    (h10 : Hid (∀ w, FTab w → Ca 10 #[.int .u8 0, .agg #[.int .u8 0, .bool false], U2 0 31743, U2 0 14336] w (.agg #[.int .u64 0, .int .u64 31744, .int .u8 20])))
    (h14 : Hid (∀ w, FTab w → Ca 10 #[.int .u8 0, .agg #[.int .u8 0, .bool false], U2 0 1, U2 0 16896] w (.agg #[.int .u64 0, .int .u64 0, .int .u8 24])))
    (h17 : Hid (∀ w, FTab w → Ca 10 #[.int .u8 0, .agg #[.int .u8 2, .bool false], U2 0 1, U2 0 16896] w (.agg #[.int .u64 0, .int .u64 1, .int .u8 24])))
    (h21 : Hid (∀ w, FTab w → Ca 10 #[.int .u8 0, .agg #[.int .u8 0, .bool false], U2 0 31745, U2 0 0] w (.agg #[.int .u64 0, .int .u64 32257, .int .u8 1])))
    (h25 : Hid (∀ w, FTab w → Ca 10 #[.int .u8 0, .agg #[.int .u8 0, .bool false], U2 0 0, U2 0 32261] w (.agg #[.int .u64 0, .int .u64 32261, .int .u8 0])))
    (h27 : Hid (∀ w, FTab w → Ca 10 #[.int .u8 2, .agg #[.int .u8 0, .bool false], U2 0 4607182418800017408, U2 0 4621819117588971520] w (.agg #[.int .u64 0, .int .u64 4591870180066957722, .int .u8 16])))
    (h30 : Hid (∀ w, FTab w → Ca 10 #[.int .u8 4, .agg #[.int .u8 0, .bool false], U2 0 1, U2 0 1] w (.agg #[.int .u64 0, .int .u64 0, .int .u8 0])))
    (h31 : Hid (∀ w, FTab w → Ca 12 #[] w (.bool true))) (w : World) (ft : FTab w) :
    Ca 9 #[] w (.bool true) := by
  simp only [Ca, U2] at *
  go_enter Tryz.func9, Tryz.ntmps9
  go_wp2_with fail
  simp only [List.append_eq, List.cons_append, List.nil_append]
  refine vF2 fun w1 b1 X0 X1 => ?_
  refine vR [] fun w2 b2 S2 => ?_
  refine vT 0 S2 ?_ (hy := by intro wq hb; have q := (hb.hb X1 (by simp)).o; go_simp; try (with_reducible rfl))
  refine vY1 (vC 1 S2 (half21 _ _) (fun _ _ => Off.later) fun w3 b3 S3 => ?_)
  refine vY1 (vC 2 S3 (half21 _ _) (fun _ _ => Off.later) fun w4 b4 S4 => ?_)
  refine vY1 (vC 3 S4 (h2.out _ (ft.later (bC (bC (bC b1 b2) b3) b4))) (fun _ _ => Off.later) fun w5 b5 S5 => ?_)
  refine vY1 (vC 4 S5 (half21 _ _) (fun _ _ => Off.later) fun w6 b6 S6 => ?_)
  refine vT 5 S6 ?_
  refine vT 6 S6 ?_
  refine vT 7 S6 ?_
  refine vT 8 S6 ?_ (hy := by intro wq hb; have q := (hb.hb X0 (by simp)).o; go_simp; try (with_reducible rfl))
  refine vY1 (vC 9 S6 (half21 _ _) (fun _ _ => Off.later) fun w7 b7 S7 => ?_)
  refine vY1 (vC 10 S7 (half21 _ _) (fun _ _ => Off.later) fun w8 b8 S8 => ?_)
  refine vY1 (vC 11 S8 (h6.out _ (ft.later (bC (bC (bC (bC (bC (bC (bC b1 b2) b3) b4) b5) b6) b7) b8))) (fun _ _ => Off.later) fun w9 b9 S9 => ?_)
  refine vY1 (vC 12 S9 (half21 _ _) (fun _ _ => Off.later) fun w10 b10 S10 => ?_)
  refine vT 13 S10 ?_
  refine vT 14 S10 ?_
  refine vT 15 S10 ?_
  refine vT 16 S10 ?_
  as_aux_lemma =>
    refine vT 17 S10 ?_ (hy := by intro wq hb; have q := (hb.hb X0 (by simp)).o; go_simp; try (with_reducible rfl))
    refine vY1 (vC 18 S10 (half21 _ _) (fun _ _ => Off.later) fun w11 b11 S11 => ?_)
    refine vY1 (vC 19 S11 (half21 _ _) (fun _ _ => Off.later) fun w12 b12 S12 => ?_)
    refine vY1 (vC 20 S12 (h10.out _ (ft.later (bC (bC (bC (bC (bC (bC (bC (bC (bC (bC (bC b1 b2) b3) b4) b5) b6) b7) b8) b9) b10) b11) b12))) (fun _ _ => Off.later) fun w13 b13 S13 => ?_)
    refine vY1 (vC 21 S13 (half21 _ _) (fun _ _ => Off.later) fun w14 b14 S14 => ?_)
    refine vT 22 S14 ?_
    refine vT 23 S14 ?_
    refine vT 24 S14 ?_
    refine vT 25 S14 ?_
    refine vT 26 S14 ?_ (hy := by intro wq hb; have q := (hb.hb X0 (by simp)).o; go_simp; try (with_reducible rfl))
    refine vT 30 S14 ?_
    refine vY1 (vC 27 S14 (half21 _ _) (fun _ _ => Off.later) fun w15 b15 S15 => ?_)
    refine vY1 (vC 28 S15 (half21 _ _) (fun _ _ => Off.later) fun w16 b16 S16 => ?_)
    refine vY1 (vC 29 S16 (h14.out _ (ft.later (bC (bC (bC (bC (bC (bC (bC (bC (bC (bC (bC (bC (bC (bC (bC b1 b2) b3) b4) b5) b6) b7) b8) b9) b10) b11) b12) b13) b14) b15) b16))) (fun _ _ => Off.later) fun w17 b17 S17 => ?_)
    refine vT 31 S17 ?_
    refine vT 32 S17 ?_
    refine vT 33 S17 ?_
    refine vT 34 S17 ?_ (hy := by intro wq hb; have q := (hb.hb X1 (by simp)).o; go_simp; try (with_reducible rfl))
    refine vY1 (vC 35 S17 (half21 _ _) (fun _ _ => Off.later) fun w18 b18 S18 => ?_)
    refine vY1 (vC 36 S18 (half21 _ _) (fun _ _ => Off.later) fun w19 b19 S19 => ?_)
    as_aux_lemma =>
      refine vY1 (vC 37 S19 (h17.out _ (ft.later (bC (bC (bC (bC (bC (bC (bC (bC (bC (bC (bC (bC (bC (bC (bC (bC (bC (bC b1 b2) b3) b4) b5) b6) b7) b8) b9) b10) b11) b12) b13) b14) b15) b16) b17) b18) b19))) (fun _ _ => Off.later) fun w20 b20 S20 => ?_)
      refine vY1 (vC 38 S20 (half21 _ _) (fun _ _ => Off.later) fun w21 b21 S21 => ?_)
      refine vT 39 S21 ?_
      refine vT 40 S21 ?_
      refine vT 41 S21 ?_
      refine vT 42 S21 ?_
      refine vT 43 S21 ?_ (hy := by intro wq hb; have q := (hb.hb X0 (by simp)).o; go_simp; try (with_reducible rfl))
      refine vY1 (vC 44 S21 (half21 _ _) (fun _ _ => Off.later) fun w22 b22 S22 => ?_)
      refine vY1 (vC 45 S22 (half21 _ _) (fun _ _ => Off.later) fun w23 b23 S23 => ?_)
      refine vY1 (vC 46 S23 (h21.out _ (ft.later (bC (bC (bC (bC (bC (bC (bC (bC (bC (bC (bC (bC (bC (bC (bC (bC (bC (bC (bC (bC (bC (bC b1 b2) b3) b4) b5) b6) b7) b8) b9) b10) b11) b12) b13) b14) b15) b16) b17) b18) b19) b20) b21) b22) b23))) (fun _ _ => Off.later) fun w24 b24 S24 => ?_)
      refine vY1 (vC 47 S24 (half21 _ _) (fun _ _ => Off.later) fun w25 b25 S25 => ?_)
      refine vT 48 S25 ?_
      refine vT 49 S25 ?_
      refine vT 50 S25 ?_
      refine vT 51 S25 ?_
      refine vT 52 S25 ?_ (hy := by intro wq hb; have q := (hb.hb X0 (by simp)).o; go_simp; try (with_reducible rfl))
      refine vY1 (vC 53 S25 (half21 _ _) (fun _ _ => Off.later) fun w26 b26 S26 => ?_)
      refine vY1 (vC 54 S26 (half21 _ _) (fun _ _ => Off.later) fun w27 b27 S27 => ?_)
      refine vY1 (vC 55 S27 (h25.out _ (ft.later (bC (bC (bC (bC (bC (bC (bC (bC (bC (bC (bC (bC (bC (bC (bC (bC (bC (bC (bC (bC (bC (bC (bC (bC (bC (bC b1 b2) b3) b4) b5) b6) b7) b8) b9) b10) b11) b12) b13) b14) b15) b16) b17) b18) b19) b20) b21) b22) b23) b24) b25) b26) b27))) (fun _ _ => Off.later) fun w28 b28 S28 => ?_)
      refine vY1 (vC 56 S28 (half21 _ _) (fun _ _ => Off.later) fun w29 b29 S29 => ?_)
      as_aux_lemma =>
        refine vT 57 S29 ?_
        refine vT 58 S29 ?_
        refine vT 59 S29 ?_
        refine vT 60 S29 ?_
        refine vT 61 S29 ?_ (hy := by intro wq hb; have q := (hb.hb X0 (by simp)).o; go_simp; try (with_reducible rfl))
        refine vT 62 S29 ?_
        refine vT 63 S29 ?_
        refine vT 65 S29 ?_
        refine vT 66 S29 ?_
        refine vY1 (vC 64 S29 (h27.out _ (ft.later (bC (bC (bC (bC (bC (bC (bC (bC (bC (bC (bC (bC (bC (bC (bC (bC (bC (bC (bC (bC (bC (bC (bC (bC (bC (bC (bC (bC b1 b2) b3) b4) b5) b6) b7) b8) b9) b10) b11) b12) b13) b14) b15) b16) b17) b18) b19) b20) b21) b22) b23) b24) b25) b26) b27) b28) b29))) (fun _ _ => Off.later) fun w30 b30 S30 => ?_)
        refine vT 67 S30 ?_
        refine vT 68 S30 ?_
        refine vT 69 S30 ?_
        refine vT 70 S30 ?_ (hy := by intro wq hb; have q := (hb.hb X0 (by simp)).o; go_simp; try (with_reducible rfl))
        refine vT 74 S30 ?_
        refine vY1 (vC 71 S30 (half21 _ _) (fun _ _ => Off.later) fun w31 b31 S31 => ?_)
        refine vY1 (vC 72 S31 (half21 _ _) (fun _ _ => Off.later) fun w32 b32 S32 => ?_)
        refine vY1 (vC 73 S32 (h30.out _ (ft.later (bC (bC (bC (bC (bC (bC (bC (bC (bC (bC (bC (bC (bC (bC (bC (bC (bC (bC (bC (bC (bC (bC (bC (bC (bC (bC (bC (bC (bC (bC (bC b1 b2) b3) b4) b5) b6) b7) b8) b9) b10) b11) b12) b13) b14) b15) b16) b17) b18) b19) b20) b21) b22) b23) b24) b25) b26) b27) b28) b29) b30) b31) b32))) (fun _ _ => Off.later) fun w33 b33 S33 => ?_)
        refine vT 75 S33 ?_
        refine vT 76 S33 ?_
        as_aux_lemma =>
          refine vT 77 S33 ?_
          refine vY1 (vC 78 S33 (h31.out _ (ft.later (bC (bC (bC (bC (bC (bC (bC (bC (bC (bC (bC (bC (bC (bC (bC (bC (bC (bC (bC (bC (bC (bC (bC (bC (bC (bC (bC (bC (bC (bC (bC (bC b1 b2) b3) b4) b5) b6) b7) b8) b9) b10) b11) b12) b13) b14) b15) b16) b17) b18) b19) b20) b21) b22) b23) b24) b25) b26) b27) b28) b29) b30) b31) b32) b33))) (fun _ _ => Off.later) fun w34 b34 S34 => ?_)
          refine vT 79 S34 ?_
          refine vT 80 S34 ?_
          refine vD ?_
          go_wp2_with fail
          go_ret
          exact ⟨rfl, (bC (bC (bC (bC (bC (bC (bC (bC (bC (bC (bC (bC (bC (bC (bC (bC (bC (bC (bC (bC (bC (bC (bC (bC (bC (bC (bC (bC (bC (bC (bC (bC (bC b1 b2) b3) b4) b5) b6) b7) b8) b9) b10) b11) b12) b13) b14) b15) b16) b17) b18) b19) b20) b21) b22) b23) b24) b25) b26) b27) b28) b29) b30) b31) b32) b33) b34)⟩
end Go.Proofs.YtnlmceafleeaiaaGreatDoor
