import Derived.Test.YtbighggnfkdncaaGreatDoorGxC
set_option maxHeartbeats 4000000
set_option linter.unusedVariables false
set_option linter.unusedSimpArgs false
set_option maxRecDepth 100000
namespace Go.Proofs.YtbighggnfkdncaaGreatDoor
open Go.RowKit
attribute [local go_sem ↓] Go.wp_at_zero Go.wp_at_succ
theorem known22_core
    (h1 : Hid (∀ w, FTab w → Ca 10 #[.int .u8 0, .agg #[.int .u8 2, .bool false], U2 0 16384] w (.agg #[.int .u64 0, .int .u64 15785, .int .u8 16])))
    (h4 : Hid (∀ w, FTab w → Ca 10 #[.int .u8 0, .agg #[.int .u8 0, .bool false], U2 0 32768] w (.agg #[.int .u64 0, .int .u64 32768, .int .u8 0])))
    (h7 : Hid (∀ w, FTab w → Ca 10 #[.int .u8 0, .agg #[.int .u8 0, .bool false], U2 0 31744] w (.agg #[.int .u64 0, .int .u64 31744, .int .u8 0])))
    (h10 : Hid (∀ w, FTab w → Ca 10 #[.int .u8 0, .agg #[.int .u8 0, .bool false], U2 0 64512] w (.agg #[.int .u64 0, .int .u64 32256, .int .u8 1])))
    (h13 : Hid (∀ w, FTab w → Ca 10 #[.int .u8 0, .agg #[.int .u8 0, .bool false], U2 0 31745] w (.agg #[.int .u64 0, .int .u64 32257, .int .u8 1])))
    (h15 : Hid (∀ w, FTab w → Ca 10 #[.int .u8 2, .agg #[.int .u8 0, .bool false], U2 0 4611686018427387904] w (.agg #[.int .u64 0, .int .u64 4609047870845172685, .int .u8 16])))
    (h16 : Hid (∀ w, FTab w → Ca 10 #[.int .u8 1, .agg #[.int .u8 0, .bool false], U2 0 1073741824] w (.agg #[.int .u64 0, .int .u64 1068827891, .int .u8 16])))
    (h18 : Hid (∀ w, FTab w → Ca 10 #[.int .u8 4, .agg #[.int .u8 0, .bool false], U2 0 1] w (.agg #[.int .u64 0, .int .u64 0, .int .u8 0])))
    (h19 : Hid (∀ w, FTab w → Ca 12 #[] w (.bool true))) (w : World) (ft : FTab w) :
    Ca 9 #[] w (.bool true) := by
  simp only [Ca, U2] at *
  go_enter Tryz.func9, Tryz.ntmps9
  go_wp2_with fail
  simp only [List.append_eq, List.cons_append, List.nil_append]
  refine vF2 fun w1 b1 X0 X1 => ?_
  refine vR [] fun w2 b2 S2 => ?_
  refine vT 0 S2 ?_ (hy := by intro wq hb; have q := (hb.hb X1 (by simp)).o; go_simp; try (with_reducible rfl))
  refine vY1 (vC 1 S2 (half22 _ _) (fun _ _ => Off.later) fun w3 b3 S3 => ?_)
  refine vY1 (vC 2 S3 (h1.out _ (ft.later (bC (bC b1 b2) b3))) (fun _ _ => Off.later) fun w4 b4 S4 => ?_)
  refine vY1 (vC 3 S4 (half22 _ _) (fun _ _ => Off.later) fun w5 b5 S5 => ?_)
  refine vT 4 S5 ?_
  refine vT 5 S5 ?_
  refine vT 6 S5 ?_
  refine vT 7 S5 ?_ (hy := by intro wq hb; have q := (hb.hb X0 (by simp)).o; go_simp; try (with_reducible rfl))
  refine vY1 (vC 8 S5 (half22 _ _) (fun _ _ => Off.later) fun w6 b6 S6 => ?_)
  refine vY1 (vC 9 S6 (h4.out _ (ft.later (bC (bC (bC (bC (bC b1 b2) b3) b4) b5) b6))) (fun _ _ => Off.later) fun w7 b7 S7 => ?_)
  refine vY1 (vC 10 S7 (half22 _ _) (fun _ _ => Off.later) fun w8 b8 S8 => ?_)
  refine vT 11 S8 ?_
  refine vT 12 S8 ?_
  refine vT 13 S8 ?_
  refine vT 14 S8 ?_
  refine vT 15 S8 ?_ (hy := by intro wq hb; have q := (hb.hb X0 (by simp)).o; go_simp; try (with_reducible rfl))
  refine vY1 (vC 16 S8 (half22 _ _) (fun _ _ => Off.later) fun w9 b9 S9 => ?_)
  as_aux_lemma =>
    refine vY1 (vC 17 S9 (h7.out _ (ft.later (bC (bC (bC (bC (bC (bC (bC (bC b1 b2) b3) b4) b5) b6) b7) b8) b9))) (fun _ _ => Off.later) fun w10 b10 S10 => ?_)
    refine vY1 (vC 18 S10 (half22 _ _) (fun _ _ => Off.later) fun w11 b11 S11 => ?_)
    refine vT 19 S11 ?_
    refine vT 20 S11 ?_
    refine vT 21 S11 ?_
    refine vT 22 S11 ?_
    refine vT 23 S11 ?_ (hy := by intro wq hb; have q := (hb.hb X0 (by simp)).o; go_simp; try (with_reducible rfl))
    refine vY1 (vC 24 S11 (half22 _ _) (fun _ _ => Off.later) fun w12 b12 S12 => ?_)
    refine vY1 (vC 25 S12 (h10.out _ (ft.later (bC (bC (bC (bC (bC (bC (bC (bC (bC (bC (bC b1 b2) b3) b4) b5) b6) b7) b8) b9) b10) b11) b12))) (fun _ _ => Off.later) fun w13 b13 S13 => ?_)
    refine vY1 (vC 26 S13 (half22 _ _) (fun _ _ => Off.later) fun w14 b14 S14 => ?_)
    refine vT 27 S14 ?_
    refine vT 28 S14 ?_
    refine vT 29 S14 ?_
    refine vT 30 S14 ?_
    refine vT 31 S14 ?_ (hy := by intro wq hb; have q := (hb.hb X0 (by simp)).o; go_simp; try (with_reducible rfl))
    refine vY1 (vC 32 S14 (half22 _ _) (fun _ _ => Off.later) fun w15 b15 S15 => ?_)
    refine vY1 (vC 33 S15 (h13.out _ (ft.later (bC (bC (bC (bC (bC (bC (bC (bC (bC (bC (bC (bC (bC (bC b1 b2) b3) b4) b5) b6) b7) b8) b9) b10) b11) b12) b13) b14) b15))) (fun _ _ => Off.later) fun w16 b16 S16 => ?_)
    refine vY1 (vC 34 S16 (half22 _ _) (fun _ _ => Off.later) fun w17 b17 S17 => ?_)
    refine vT 35 S17 ?_
    refine vT 36 S17 ?_
    as_aux_lemma =>
      refine vT 37 S17 ?_
      refine vT 38 S17 ?_
      refine vT 39 S17 ?_ (hy := by intro wq hb; have q := (hb.hb X0 (by simp)).o; go_simp; try (with_reducible rfl))
      refine vT 40 S17 ?_
      refine vT 42 S17 ?_
      refine vT 43 S17 ?_
      refine vY1 (vC 41 S17 (h15.out _ (ft.later (bC (bC (bC (bC (bC (bC (bC (bC (bC (bC (bC (bC (bC (bC (bC (bC b1 b2) b3) b4) b5) b6) b7) b8) b9) b10) b11) b12) b13) b14) b15) b16) b17))) (fun _ _ => Off.later) fun w18 b18 S18 => ?_)
      refine vT 44 S18 ?_
      refine vT 45 S18 ?_
      refine vT 46 S18 ?_
      refine vT 47 S18 ?_ (hy := by intro wq hb; have q := (hb.hb X0 (by simp)).o; go_simp; try (with_reducible rfl))
      refine vT 48 S18 ?_
      refine vT 50 S18 ?_
      refine vT 51 S18 ?_
      refine vY1 (vC 49 S18 (h16.out _ (ft.later (bC (bC (bC (bC (bC (bC (bC (bC (bC (bC (bC (bC (bC (bC (bC (bC (bC b1 b2) b3) b4) b5) b6) b7) b8) b9) b10) b11) b12) b13) b14) b15) b16) b17) b18))) (fun _ _ => Off.later) fun w19 b19 S19 => ?_)
      refine vT 52 S19 ?_
      refine vT 53 S19 ?_
      refine vT 54 S19 ?_
      refine vT 55 S19 ?_ (hy := by intro wq hb; have q := (hb.hb X0 (by simp)).o; go_simp; try (with_reducible rfl))
      refine vT 58 S19 ?_
      as_aux_lemma =>
        refine vY1 (vC 56 S19 (half22 _ _) (fun _ _ => Off.later) fun w20 b20 S20 => ?_)
        refine vY1 (vC 57 S20 (h18.out _ (ft.later (bC (bC (bC (bC (bC (bC (bC (bC (bC (bC (bC (bC (bC (bC (bC (bC (bC (bC (bC b1 b2) b3) b4) b5) b6) b7) b8) b9) b10) b11) b12) b13) b14) b15) b16) b17) b18) b19) b20))) (fun _ _ => Off.later) fun w21 b21 S21 => ?_)
        refine vT 59 S21 ?_
        refine vT 60 S21 ?_
        refine vT 61 S21 ?_
        refine vY1 (vC 62 S21 (h19.out _ (ft.later (bC (bC (bC (bC (bC (bC (bC (bC (bC (bC (bC (bC (bC (bC (bC (bC (bC (bC (bC (bC b1 b2) b3) b4) b5) b6) b7) b8) b9) b10) b11) b12) b13) b14) b15) b16) b17) b18) b19) b20) b21))) (fun _ _ => Off.later) fun w22 b22 S22 => ?_)
        refine vT 63 S22 ?_
        refine vT 64 S22 ?_
        refine vD ?_
        go_wp2_with fail
        go_ret
        exact ⟨rfl, (bC (bC (bC (bC (bC (bC (bC (bC (bC (bC (bC (bC (bC (bC (bC (bC (bC (bC (bC (bC (bC b1 b2) b3) b4) b5) b6) b7) b8) b9) b10) b11) b12) b13) b14) b15) b16) b17) b18) b19) b20) b21) b22)⟩
end Go.Proofs.YtbighggnfkdncaaGreatDoor
