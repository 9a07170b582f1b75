/-
  The walk of the statement MulKnown.
-/
import Derived.Test.YtjnohbpebdnngaaGreatDoorMul19M
import Derived.Test.YtjnohbpebdnngaaGreatDoorW2
import Derived.Test.YtjnohbpebdnngaaGreatDoorGaB
import Derived.Test.YtjnohbpebdnngaaGreatDoorGfA
import Derived.Test.YtjnohbpebdnngaaGreatDoorGhA
import Derived.Test.YtjnohbpebdnngaaGreatDoorGaA
import Derived.Test.YtjnohbpebdnngaaGreatDoorGoes19
set_option linter.unusedVariables false
set_option linter.unusedSimpArgs false
set_option maxRecDepth 100000
namespace Go.Proofs.YtjnohbpebdnngaaGreatDoor
open Go.RowKit
attribute [local go_sem ↓] Go.wp_at_zero Go.wp_at_succ

set_option maxHeartbeats 4000000 in
theorem known19_core 
    (h0 : Hid (∀ w, Ca 14 #[.agg #[.bool false, .int .u8 2, .int .i64 1, .int .u64 9223372036854775808, .int .u64 0], .agg #[.bool false, .int .u8 1, .int .i64 (-30), .int .u64 13835058055282163712, .int .u64 0]] w (.tuple #[.int .i64 (-28), U4 0 0 0 6917529027641081856])))
    (h1 : Hid (∀ w, Ca 14 #[.agg #[.bool false, .int .u8 0, .int .i64 0, .int .u64 0, .int .u64 0], .agg #[.bool false, .int .u8 2, .int .i64 5, .int .u64 9223372036854775808, .int .u64 0]] w (.tuple #[.int .i64 0, U4 0 0 0 0])))
    (h4 : Hid (∀ w, FTab w → Ca 11 #[.int .u8 0, .agg #[.int .u8 0, .bool false], U2 0 31743, U2 0 16384] w (.agg #[.int .u64 0, .int .u64 31744, .int .u8 20])))
    (h8 : Hid (∀ w, FTab w → Ca 11 #[.int .u8 0, .agg #[.int .u8 0, .bool false], U2 0 64512, U2 0 31744] w (.agg #[.int .u64 0, .int .u64 64512, .int .u8 0])))
    (h12 : Hid (∀ w, FTab w → Ca 11 #[.int .u8 0, .agg #[.int .u8 0, .bool false], U2 0 31744, U2 0 31745] w (.agg #[.int .u64 0, .int .u64 32257, .int .u8 1])))
    (h16 : Hid (∀ w, FTab w → Ca 11 #[.int .u8 0, .agg #[.int .u8 0, .bool false], U2 0 15361, U2 0 15361] w (.agg #[.int .u64 0, .int .u64 15362, .int .u8 16])))
    (h20 : Hid (∀ w, FTab w → Ca 11 #[.int .u8 0, .agg #[.int .u8 2, .bool false], U2 0 1, U2 0 1] w (.agg #[.int .u64 0, .int .u64 1, .int .u8 24])))
    (h24 : Hid (∀ w, FTab w → Ca 11 #[.int .u8 4, .agg #[.int .u8 0, .bool false], U2 0 1, U2 0 1] w (.agg #[.int .u64 0, .int .u64 0, .int .u8 0])))
    (h27 : Hid (∀ w, FTab w → Ca 11 #[.int .u8 0, .agg #[.int .u8 6, .bool false], U2 0 1, U2 0 1] w (.agg #[.int .u64 0, .int .u64 0, .int .u8 0])))
    (h28 : Hid (∀ w, Ca 16 #[.agg #[.bool false, .int .u8 0, .int .i64 0, .int .u64 0, .int .u64 0], .agg #[.bool false, .int .u8 3, .int .i64 0, .int .u64 0, .int .u64 0]] w (.bool true)))
    (h29 : Hid (∀ w, Ca 16 #[.agg #[.bool false, .int .u8 0, .int .i64 0, .int .u64 0, .int .u64 0], .agg #[.bool false, .int .u8 0, .int .i64 0, .int .u64 0, .int .u64 0]] w (.bool false)))
    (h30 : Hid (∀ w, FTab w → Ca 13 #[] w (.bool true))) (w : World) (ft : FTab w) :
    Ca 10 #[] w (.bool true) := by
  simp only [Ca, U2, U4] at *
  have EQ1 := eqw19 0 0 0 6917529027641081856
  have EQ2 := eqw19 0 0 0 0
  go_enter Tryz.func10, Tryz.ntmps10
  go_wp2_with fail
  refine vM (h0.out _) fun w1 b1 => ?_
  have X0 := (HB.newAt (b := w.heap.size) (by simp) _ _).later b1
  go_wp2_with fail
  refine vM (h1.out _) fun w2 b2 => ?_
  have X1 := (HB.newAt (b := w1.heap.size) (by simp) _ _).later b2
  go_wp2_with fail
  simp only [List.append_eq, List.cons_append, List.nil_append]
  refine vF1 fun w3 b3 X2 => ?_
  replace X0 := X0.later (bC (bC (bA (Below.refl _ _) _) b2) b3)
  replace X1 := X1.later b3
  refine vR [] fun w4 b4 S4 => ?_
  refine vT 0 S4 ?_ (hy := by intro wq hb; have q := (hb.hb X0 (by simp)).o; go_simp; try (with_reducible rfl))
  refine vY1 (vC 1 S4 (half19 _ _) (fun _ _ => Off.later) fun w5 b5 S5 => ?_)
  refine vY1 (vC 2 S5 (half19 _ _) (fun _ _ => Off.later) fun w6 b6 S6 => ?_)
  refine vY1 (vC 3 S6 (h4.out _ (ft.later (bC (bC (bC (bC (bC (bC (bA (Below.refl _ _) _) b1) (bC (bA (Below.refl _ _) _) b2)) b3) b4) b5) b6))) (fun _ _ => Off.later) fun w7 b7 S7 => ?_)
  refine vY1 (vC 4 S7 (half19 _ _) (fun _ _ => Off.later) fun w8 b8 S8 => ?_)
  refine vT 5 S8 ?_
  refine vT 6 S8 ?_
  refine vT 7 S8 ?_
  refine vT 8 S8 ?_ (hy := by intro wq hb; have q := (hb.hb X0 (by simp)).o; go_simp; try (with_reducible rfl))
  refine vY1 (vC 9 S8 (half19 _ _) (fun _ _ => Off.later) fun w9 b9 S9 => ?_)
  as_aux_lemma =>
    refine vY1 (vC 10 S9 (half19 _ _) (fun _ _ => Off.later) fun w10 b10 S10 => ?_)
    refine vY1 (vC 11 S10 (h8.out _ (ft.later (bC (bC (bC (bC (bC (bC (bC (bC (bC (bC (bA (Below.refl _ _) _) b1) (bC (bA (Below.refl _ _) _) b2)) b3) b4) b5) b6) b7) b8) b9) b10))) (fun _ _ => Off.later) fun w11 b11 S11 => ?_)
    refine vY1 (vC 12 S11 (half19 _ _) (fun _ _ => Off.later) fun w12 b12 S12 => ?_)
    refine vT 13 S12 ?_
    refine vT 14 S12 ?_
    refine vT 15 S12 ?_
    refine vT 16 S12 ?_
    refine vT 17 S12 ?_ (hy := by intro wq hb; have q := (hb.hb X0 (by simp)).o; go_simp; try (with_reducible rfl))
    refine vY1 (vC 18 S12 (half19 _ _) (fun _ _ => Off.later) fun w13 b13 S13 => ?_)
    refine vY1 (vC 19 S13 (half19 _ _) (fun _ _ => Off.later) fun w14 b14 S14 => ?_)
    refine vY1 (vC 20 S14 (h12.out _ (ft.later (bC (bC (bC (bC (bC (bC (bC (bC (bC (bC (bC (bC (bC (bC (bA (Below.refl _ _) _) b1) (bC (bA (Below.refl _ _) _) b2)) b3) b4) b5) b6) b7) b8) b9) b10) b11) b12) b13) b14))) (fun _ _ => Off.later) fun w15 b15 S15 => ?_)
    refine vY1 (vC 21 S15 (half19 _ _) (fun _ _ => Off.later) fun w16 b16 S16 => ?_)
    refine vT 22 S16 ?_
    refine vT 23 S16 ?_
    refine vT 24 S16 ?_
    as_aux_lemma =>
      refine vT 25 S16 ?_
      refine vT 26 S16 ?_ (hy := by intro wq hb; have q := (hb.hb X0 (by simp)).o; go_simp; try (with_reducible rfl))
      refine vY1 (vC 27 S16 (half19 _ _) (fun _ _ => Off.later) fun w17 b17 S17 => ?_)
      refine vY1 (vC 28 S17 (half19 _ _) (fun _ _ => Off.later) fun w18 b18 S18 => ?_)
      refine vY1 (vC 29 S18 (h16.out _ (ft.later (bC (bC (bC (bC (bC (bC (bC (bC (bC (bC (bC (bC (bC (bC (bC (bC (bC (bC (bA (Below.refl _ _) _) b1) (bC (bA (Below.refl _ _) _) b2)) b3) b4) b5) b6) b7) b8) b9) b10) b11) b12) b13) b14) b15) b16) b17) b18))) (fun _ _ => Off.later) fun w19 b19 S19 => ?_)
      refine vY1 (vC 30 S19 (half19 _ _) (fun _ _ => Off.later) fun w20 b20 S20 => ?_)
      refine vT 31 S20 ?_
      refine vT 32 S20 ?_
      refine vT 33 S20 ?_
      refine vT 34 S20 ?_
      refine vT 35 S20 ?_
      refine vY1 (vC 36 S20 (half19 _ _) (fun _ _ => Off.later) fun w21 b21 S21 => ?_)
      refine vY1 (vC 37 S21 (half19 _ _) (fun _ _ => Off.later) fun w22 b22 S22 => ?_)
      refine vY1 (vC 38 S22 (h20.out _ (ft.later (bC (bC (bC (bC (bC (bC (bC (bC (bC (bC (bC (bC (bC (bC (bC (bC (bC (bC (bC (bC (bC (bC (bA (Below.refl _ _) _) b1) (bC (bA (Below.refl _ _) _) b2)) b3) b4) b5) b6) b7) b8) b9) b10) b11) b12) b13) b14) b15) b16) b17) b18) b19) b20) b21) b22))) (fun _ _ => Off.later) fun w23 b23 S23 => ?_)
      refine vY1 (vC 39 S23 (half19 _ _) (fun _ _ => Off.later) fun w24 b24 S24 => ?_)
      as_aux_lemma =>
        refine vT 40 S24 ?_
        refine vT 41 S24 ?_
        refine vT 42 S24 ?_
        refine vT 43 S24 ?_
        refine vT 44 S24 ?_ (hy := by intro wq hb; have q := (hb.hb X0 (by simp)).o; go_simp; try (with_reducible rfl))
        refine vT 48 S24 ?_
        refine vY1 (vC 45 S24 (half19 _ _) (fun _ _ => Off.later) fun w25 b25 S25 => ?_)
        refine vY1 (vC 46 S25 (half19 _ _) (fun _ _ => Off.later) fun w26 b26 S26 => ?_)
        refine vY1 (vC 47 S26 (h24.out _ (ft.later (bC (bC (bC (bC (bC (bC (bC (bC (bC (bC (bC (bC (bC (bC (bC (bC (bC (bC (bC (bC (bC (bC (bC (bC (bC (bC (bA (Below.refl _ _) _) b1) (bC (bA (Below.refl _ _) _) b2)) b3) b4) b5) b6) b7) b8) b9) b10) b11) b12) b13) b14) b15) b16) b17) b18) b19) b20) b21) b22) b23) b24) b25) b26))) (fun _ _ => Off.later) fun w27 b27 S27 => ?_)
        refine vT 49 S27 ?_
        refine vT 50 S27 ?_
        refine vT 51 S27 ?_
        refine vT 52 S27 ?_
        refine vT 56 S27 ?_
        refine vY1 (vC 53 S27 (half19 _ _) (fun _ _ => Off.later) fun w28 b28 S28 => ?_)
        as_aux_lemma =>
          refine vY1 (vC 54 S28 (half19 _ _) (fun _ _ => Off.later) fun w29 b29 S29 => ?_)
          refine vY1 (vC 55 S29 (h27.out _ (ft.later (bC (bC (bC (bC (bC (bC (bC (bC (bC (bC (bC (bC (bC (bC (bC (bC (bC (bC (bC (bC (bC (bC (bC (bC (bC (bC (bC (bC (bC (bA (Below.refl _ _) _) b1) (bC (bA (Below.refl _ _) _) b2)) b3) b4) b5) b6) b7) b8) b9) b10) b11) b12) b13) b14) b15) b16) b17) b18) b19) b20) b21) b22) b23) b24) b25) b26) b27) b28) b29))) (fun _ _ => Off.later) fun w30 b30 S30 => ?_)
          refine vT 57 S30 ?_
          refine vT 58 S30 ?_
          refine vT 59 S30 ?_
          refine vT 60 S30 ?_
          refine vT 61 S30 ?_
          refine vT 62 S30 ?_
          refine vT 63 S30 ?_
          refine vT 64 S30 ?_ (hy := by intro wq hb; have q := (hb.hb X1 (by simp)).o; go_simp; try (with_reducible rfl))
          refine vT 65 S30 ?_
          refine vT 66 S30 ?_
          refine vT 67 S30 ?_
          refine vT 68 S30 ?_
          refine vT 69 S30 ?_
          as_aux_lemma =>
            refine vT 70 S30 ?_
            refine vT 71 S30 ?_
            refine vT 72 S30 ?_
            refine vT 73 S30 ?_ (hy := by intro wq hb; have q := (hb.hb X2 (by simp)).o; go_simp; try (with_reducible rfl))
            refine vT 74 S30 ?_
            refine vT 75 S30 ?_
            refine vT 76 S30 ?_
            refine vT 77 S30 ?_
            refine vT 78 S30 ?_
            refine vT 79 S30 ?_
            refine vY1 (vC 80 S30 (h28.out _) (fun _ _ => Off.later) fun w31 b31 S31 => ?_)
            refine vT 81 S31 ?_
            refine vT 82 S31 ?_
            refine vT 83 S31 ?_
            refine vT 84 S31 ?_
            as_aux_lemma =>
              refine vY1 (vC 85 S31 (h29.out _) (fun _ _ => Off.later) fun w32 b32 S32 => ?_)
              refine vT 86 S32 ?_
              refine vT 87 S32 ?_
              refine vT 88 S32 ?_
              refine vY1 (vC 89 S32 (h30.out _ (ft.later (bC (bC (bC (bC (bC (bC (bC (bC (bC (bC (bC (bC (bC (bC (bC (bC (bC (bC (bC (bC (bC (bC (bC (bC (bC (bC (bC (bC (bC (bC (bC (bC (bA (Below.refl _ _) _) b1) (bC (bA (Below.refl _ _) _) b2)) b3) b4) b5) b6) b7) b8) b9) b10) b11) b12) b13) b14) b15) b16) b17) b18) b19) b20) b21) b22) b23) b24) b25) b26) b27) b28) b29) b30) b31) b32))) (fun _ _ => Off.later) fun w33 b33 S33 => ?_)
              refine vT 90 S33 ?_
              refine vT 91 S33 ?_
              refine vD ?_
              go_wp2_with fail
              go_ret
              exact ⟨rfl, (bC (bC (bC (bC (bC (bC (bC (bC (bC (bC (bC (bC (bC (bC (bC (bC (bC (bC (bC (bC (bC (bC (bC (bC (bC (bC (bC (bC (bC (bC (bC (bC (bC (bA (Below.refl _ _) _) b1) (bC (bA (Below.refl _ _) _) b2)) b3) b4) b5) b6) b7) b8) b9) b10) b11) b12) b13) b14) b15) b16) b17) b18) b19) b20) b21) b22) b23) b24) b25) b26) b27) b28) b29) b30) b31) b32) b33)⟩



end Go.Proofs.YtjnohbpebdnngaaGreatDoor
