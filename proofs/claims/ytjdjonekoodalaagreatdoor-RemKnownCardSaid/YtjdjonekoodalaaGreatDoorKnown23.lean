import Derived.Test.YtjdjonekoodalaaGreatDoorGzC
set_option maxHeartbeats 4000000
set_option linter.unusedVariables false
set_option linter.unusedSimpArgs false
set_option maxRecDepth 100000
namespace Go.Proofs.YtjdjonekoodalaaGreatDoor
open Go.RowKit
attribute [local go_sem ↓] Go.wp_at_zero Go.wp_at_succ
theorem known23_core
    (h2 : Hid (∀ w, FTab w → Ca 12 #[.int .u8 0, U2 0 15360, U2 0 31744] w (.agg #[.int .u64 0, .int .u64 15360, .int .u8 0])))
    (h6 : Hid (∀ w, FTab w → Ca 12 #[.int .u8 0, U2 0 31744, U2 0 15360] w (.agg #[.int .u64 0, .int .u64 32256, .int .u8 1])))
    (h10 : Hid (∀ w, FTab w → Ca 12 #[.int .u8 0, U2 0 31743, U2 0 1] w (.agg #[.int .u64 0, .int .u64 0, .int .u8 0])))
    (h13 : Hid (∀ w, FTab w → Ca 12 #[.int .u8 0, U2 0 14336, U2 0 15360] w (.agg #[.int .u64 0, .int .u64 14336, .int .u8 0])))
    (h17 : Hid (∀ w, FTab w → Ca 12 #[.int .u8 0, U2 0 14337, U2 0 15360] w (.agg #[.int .u64 0, .int .u64 47102, .int .u8 0])))
    (h21 : Hid (∀ w, FTab w → Ca 12 #[.int .u8 0, U2 0 16640, U2 0 15360] w (.agg #[.int .u64 0, .int .u64 14336, .int .u8 0])))
    (h25 : Hid (∀ w, FTab w → Ca 12 #[.int .u8 0, U2 0 32769, U2 0 15360] w (.agg #[.int .u64 0, .int .u64 32769, .int .u8 0])))
    (h29 : Hid (∀ w, FTab w → Ca 12 #[.int .u8 0, U2 0 31745, U2 0 0] w (.agg #[.int .u64 0, .int .u64 32257, .int .u8 1])))
    (h31 : Hid (∀ w, FTab w → Ca 12 #[.int .u8 1, U2 0 2130706432, U2 0 1077936128] w (.agg #[.int .u64 0, .int .u64 3212836864, .int .u8 0])))
    (h34 : Hid (∀ w, FTab w → Ca 12 #[.int .u8 4, U2 0 1, U2 0 1] w (.agg #[.int .u64 0, .int .u64 0, .int .u8 0])))
    (h35 : Hid (∀ w, FTab w → Ca 11 #[] w (.bool true))) (w : World) (ft : FTab w) :
    Ca 9 #[] w (.bool true) := by
  simp only [Ca, U2] at *
  go_enter Tryz.func9, Tryz.ntmps9
  go_wp2_with fail
  refine vM (half23 _ _) fun w1 b1 => ?_
  go_wp2_with fail
  refine vM (half23 _ _) fun w2 b2 => ?_
  go_wp2_with fail
  refine vM (h2.out _ (ft.later (bC b1 b2))) fun w3 b3 => ?_
  go_wp2_with fail
  refine vM (half23 _ _) fun w4 b4 => ?_
  go_wp2_with fail
  refine vM (half23 _ _) fun w5 b5 => ?_
  go_wp2_with fail
  refine vM (half23 _ _) fun w6 b6 => ?_
  go_wp2_with fail
  refine vM (h6.out _ (ft.later (bC (bC (bC (bC (bC b1 b2) b3) b4) b5) b6))) fun w7 b7 => ?_
  go_wp2_with fail
  refine vM (half23 _ _) fun w8 b8 => ?_
  go_wp2_with fail
  refine vM (half23 _ _) fun w9 b9 => ?_
  go_wp2_with fail
  refine vM (half23 _ _) fun w10 b10 => ?_
  go_wp2_with fail
  refine vM (h10.out _ (ft.later (bC (bC (bC (bC (bC (bC (bC (bC (bC b1 b2) b3) b4) b5) b6) b7) b8) b9) b10))) fun w11 b11 => ?_
  go_wp2_with fail
  refine vM (half23 _ _) fun w12 b12 => ?_
  go_wp2_with fail
  refine vM (half23 _ _) fun w13 b13 => ?_
  go_wp2_with fail
  refine vM (h13.out _ (ft.later (bC (bC (bC (bC (bC (bC (bC (bC (bC (bC (bC (bC b1 b2) b3) b4) b5) b6) b7) b8) b9) b10) b11) b12) b13))) fun w14 b14 => ?_
  go_wp2_with fail
  refine vM (half23 _ _) fun w15 b15 => ?_
  go_wp2_with fail
  refine vM (half23 _ _) fun w16 b16 => ?_
  go_wp2_with fail
  refine vM (half23 _ _) fun w17 b17 => ?_
  go_wp2_with fail
  refine vM (h17.out _ (ft.later (bC (bC (bC (bC (bC (bC (bC (bC (bC (bC (bC (bC (bC (bC (bC (bC b1 b2) b3) b4) b5) b6) b7) b8) b9) b10) b11) b12) b13) b14) b15) b16) b17))) fun w18 b18 => ?_
  go_wp2_with fail
  refine vM (half23 _ _) fun w19 b19 => ?_
  go_wp2_with fail
  as_aux_lemma =>
    refine vM (half23 _ _) fun w20 b20 => ?_
    go_wp2_with fail
    refine vM (half23 _ _) fun w21 b21 => ?_
    go_wp2_with fail
    refine vM (h21.out _ (ft.later (bC (bC (bC (bC (bC (bC (bC (bC (bC (bC (bC (bC (bC (bC (bC (bC (bC (bC (bC (bC b1 b2) b3) b4) b5) b6) b7) b8) b9) b10) b11) b12) b13) b14) b15) b16) b17) b18) b19) b20) b21))) fun w22 b22 => ?_
    go_wp2_with fail
    refine vM (half23 _ _) fun w23 b23 => ?_
    go_wp2_with fail
    refine vM (half23 _ _) fun w24 b24 => ?_
    go_wp2_with fail
    refine vM (half23 _ _) fun w25 b25 => ?_
    go_wp2_with fail
    refine vM (h25.out _ (ft.later (bC (bC (bC (bC (bC (bC (bC (bC (bC (bC (bC (bC (bC (bC (bC (bC (bC (bC (bC (bC (bC (bC (bC (bC b1 b2) b3) b4) b5) b6) b7) b8) b9) b10) b11) b12) b13) b14) b15) b16) b17) b18) b19) b20) b21) b22) b23) b24) b25))) fun w26 b26 => ?_
    go_wp2_with fail
    refine vM (half23 _ _) fun w27 b27 => ?_
    go_wp2_with fail
    refine vM (half23 _ _) fun w28 b28 => ?_
    go_wp2_with fail
    refine vM (half23 _ _) fun w29 b29 => ?_
    go_wp2_with fail
    refine vM (h29.out _ (ft.later (bC (bC (bC (bC (bC (bC (bC (bC (bC (bC (bC (bC (bC (bC (bC (bC (bC (bC (bC (bC (bC (bC (bC (bC (bC (bC (bC (bC b1 b2) b3) b4) b5) b6) b7) b8) b9) b10) b11) b12) b13) b14) b15) b16) b17) b18) b19) b20) b21) b22) b23) b24) b25) b26) b27) b28) b29))) fun w30 b30 => ?_
    go_wp2_with fail
    refine vM (half23 _ _) fun w31 b31 => ?_
    go_wp2_with fail
    refine vM (h31.out _ (ft.later (bC (bC (bC (bC (bC (bC (bC (bC (bC (bC (bC (bC (bC (bC (bC (bC (bC (bC (bC (bC (bC (bC (bC (bC (bC (bC (bC (bC (bC (bC b1 b2) b3) b4) b5) b6) b7) b8) b9) b10) b11) b12) b13) b14) b15) b16) b17) b18) b19) b20) b21) b22) b23) b24) b25) b26) b27) b28) b29) b30) b31))) fun w32 b32 => ?_
    go_wp2_with fail
    refine vM (half23 _ _) fun w33 b33 => ?_
    go_wp2_with fail
    refine vM (half23 _ _) fun w34 b34 => ?_
    go_wp2_with fail
    refine vM (h34.out _ (ft.later (bC (bC (bC (bC (bC (bC (bC (bC (bC (bC (bC (bC (bC (bC (bC (bC (bC (bC (bC (bC (bC (bC (bC (bC (bC (bC (bC (bC (bC (bC (bC (bC (bC b1 b2) b3) b4) b5) b6) b7) b8) b9) b10) b11) b12) b13) b14) b15) b16) b17) b18) b19) b20) b21) b22) b23) b24) b25) b26) b27) b28) b29) b30) b31) b32) b33) b34))) fun w35 b35 => ?_
    go_wp2_with fail
    refine vM (h35.out _ (ft.later (bC (bC (bC (bC (bC (bC (bC (bC (bC (bC (bC (bC (bC (bC (bC (bC (bC (bC (bC (bC (bC (bC (bC (bC (bC (bC (bC (bC (bC (bC (bC (bC (bC (bC b1 b2) b3) b4) b5) b6) b7) b8) b9) b10) b11) b12) b13) b14) b15) b16) b17) b18) b19) b20) b21) b22) b23) b24) b25) b26) b27) b28) b29) b30) b31) b32) b33) b34) b35))) fun w36 b36 => ?_
    go_wp2_with fail
    go_ret
    exact ⟨rfl, (bC (bC (bC (bC (bC (bC (bC (bC (bC (bC (bC (bC (bC (bC (bC (bC (bC (bC (bC (bC (bC (bC (bC (bC (bC (bC (bC (bC (bC (bC (bC (bC (bC (bC (bC b1 b2) b3) b4) b5) b6) b7) b8) b9) b10) b11) b12) b13) b14) b15) b16) b17) b18) b19) b20) b21) b22) b23) b24) b25) b26) b27) b28) b29) b30) b31) b32) b33) b34) b35) b36)⟩
end Go.Proofs.YtjdjonekoodalaaGreatDoor
