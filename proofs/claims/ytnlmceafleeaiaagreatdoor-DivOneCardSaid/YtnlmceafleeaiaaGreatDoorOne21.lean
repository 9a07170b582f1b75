import Derived.Test.YtnlmceafleeaiaaGreatDoorGwA
import Derived.Test.YtnlmceafleeaiaaGreatDoorGaB
import Derived.Test.YtnlmceafleeaiaaGreatDoorGfA
import Derived.Test.YtnlmceafleeaiaaGreatDoorGhA
import Derived.Test.YtnlmceafleeaiaaGreatDoorGaA
import Derived.Test.YtnlmceafleeaiaaGreatDoorGoes21
import Derived.Test.YtnlmceafleeaiaaGreatDoorRest0
set_option maxHeartbeats 4000000
set_option linter.unusedVariables false
set_option linter.unusedSimpArgs false
set_option maxRecDepth 100000
namespace Go.Proofs.YtnlmceafleeaiaaGreatDoor
open Go.RowKit
attribute [local go_sem ↓] Go.wp_at_zero Go.wp_at_succ
theorem one21_no1 (f m ah al : Int) (t : Bool)
    (h0 : Hid (∀ w, FTab w → Ca 20 #[.int .u8 f] w (.bool false)))
    (h2 : Hid (∀ w, FTab w → Ca 10 #[.int .u8 f, .agg #[.int .u8 m, .bool t], U2 ah al, U2 ah al] w (.agg #[.int .u64 0, .int .u64 0, .int .u8 0])))
    (h3 : Hid (∀ w, FTab w → Ca 12 #[] w (.bool true))) (w : World) (ft : FTab w) :
    Ca 5 #[.int .u8 f, .agg #[.int .u8 m, .bool t], U2 ah al] w (.bool true) := by
  simp only [Ca, U2] at *
  have EQ := eqr21 0 0 0
  go_enter Tryz.func5, Tryz.ntmps5
  go_wp2_with fail
  refine vM (h0.out _ (ft.later (bA (bA bR _) _))) fun w1 b1 => ?_
  have X0 := ((HB.newAt (b := w.heap.size) (by simp) _ _).alloc _).later b1
  have X1 := (HB.newAt (b := w.heap.size + 1) (by simp) _ _).later b1
  have oX0 := X0.o
  have oX1 := X1.o
  go_wp2_with fail
  refine vM (h2.out _ (ft.later (bC (bA (bA bR _) _) b1))) fun w2 b2 => ?_
  clear oX0 oX1
  go_wp2_with fail
  refine vM (h3.out _ (ft.later (bC (bC (bA (bA bR _) _) b1) b2))) fun w3 b3 => ?_
  go_wp2_with fail
  go_ret
  exact ⟨rfl, (bC (bC (bC (bA (bA bR _) _) b1) b2) b3)⟩
theorem one21_no2 (f m ah al : Int) (t : Bool)
    (h0 : Hid (∀ w, FTab w → Ca 20 #[.int .u8 f] w (.bool true)))
    (h1 : Hid (∀ w, Ca 21 #[.int .u8 m] w (.bool false)))
    (h2 : Hid (∀ w, FTab w → Ca 10 #[.int .u8 f, .agg #[.int .u8 m, .bool t], U2 ah al, U2 ah al] w (.agg #[.int .u64 0, .int .u64 0, .int .u8 0])))
    (h3 : Hid (∀ w, FTab w → Ca 12 #[] w (.bool true))) (w : World) (ft : FTab w) :
    Ca 5 #[.int .u8 f, .agg #[.int .u8 m, .bool t], U2 ah al] w (.bool true) := by
  simp only [Ca, U2] at *
  have EQ := eqr21 0 0 0
  go_enter Tryz.func5, Tryz.ntmps5
  go_wp2_with fail
  refine vM (h0.out _ (ft.later (bA (bA bR _) _))) fun w1 b1 => ?_
  have X0 := ((HB.newAt (b := w.heap.size) (by simp) _ _).alloc _).later b1
  have X1 := (HB.newAt (b := w.heap.size + 1) (by simp) _ _).later b1
  have oX0 := X0.o
  go_wp2_with fail
  refine vM (h1.out _) fun w2 b2 => ?_
  clear oX0
  replace X0 := X0.later b2
  have oX0 := X0.o
  replace X1 := X1.later b2
  have oX1 := X1.o
  go_wp2_with fail
  refine vM (h2.out _ (ft.later (bC (bC (bA (bA bR _) _) b1) b2))) fun w3 b3 => ?_
  clear oX0 oX1
  go_wp2_with fail
  refine vM (h3.out _ (ft.later (bC (bC (bC (bA (bA bR _) _) b1) b2) b3))) fun w4 b4 => ?_
  go_wp2_with fail
  go_ret
  exact ⟨rfl, (bC (bC (bC (bC (bA (bA bR _) _) b1) b2) b3) b4)⟩
theorem one21_main (f m ah al em ph pl kh kl : Int) (t : Bool)
    (h0 : Hid (∀ w, FTab w → Ca 20 #[.int .u8 f] w (.bool true)))
    (h1 : Hid (∀ w, Ca 21 #[.int .u8 m] w (.bool true)))
    (h2 : Hid (∀ w, FTab w → Ca 23 #[.int .u8 f] w (.int .i64 em)))
    (h3 : Hid (∀ w, FTab w → Ca 22 #[.int .u8 f, .bool false, .int .i64 em, U2 0 0] w (U2 ph pl)))
    (HH : (Hid (∀ w, FTab w → Ca 24 #[.int .u8 f, U2 ah al] w (.bool true)) ∧ Hid (∀ w, FTab w → Ca 13 #[.int .u8 f, U2 ah al] w (.bool false)) ∧ Hid (∀ w, FTab w → Ca 12 #[] w (.bool true))) ∨ (Hid (∀ w, FTab w → Ca 24 #[.int .u8 f, U2 ah al] w (.bool false)) ∧ Hid (∀ w, FTab w → Ca 10 #[.int .u8 f, .agg #[.int .u8 m, .bool t], U2 ah al, U2 ph pl] w (.agg #[.int .u64 kh, .int .u64 kl, .int .u8 0])) ∧ Hid (∀ w, FTab w → Ca 16 #[.int .u8 f, U2 ah al] w (U2 kh kl)) ∧ Hid (∀ w, FTab w → Ca 13 #[.int .u8 f, U2 ah al] w (.bool false)) ∧ Hid (∀ w, FTab w → Ca 12 #[] w (.bool true))) ∨ (Hid (∀ w, FTab w → Ca 24 #[.int .u8 f, U2 ah al] w (.bool false)) ∧ Hid (∀ w, FTab w → Ca 10 #[.int .u8 f, .agg #[.int .u8 m, .bool t], U2 ah al, U2 ph pl] w (.agg #[.int .u64 kh, .int .u64 kl, .int .u8 0])) ∧ Hid (∀ w, FTab w → Ca 16 #[.int .u8 f, U2 ah al] w (U2 kh kl)) ∧ Hid (∀ w, FTab w → Ca 13 #[.int .u8 f, U2 ah al] w (.bool true)) ∧ Hid (∀ w, FTab w → Ca 10 #[.int .u8 f, .agg #[.int .u8 m, .bool t], U2 ah al, U2 ah al] w (.agg #[.int .u64 ph, .int .u64 pl, .int .u8 0])) ∧ Hid (∀ w, FTab w → Ca 12 #[] w (.bool true)))) (w : World) (ft : FTab w) :
    Ca 5 #[.int .u8 f, .agg #[.int .u8 m, .bool t], U2 ah al] w (.bool true) := by
  simp only [Ca, U2] at *
  have EQ := eqr21 ph pl 0
  have NE := neqr21 kh kl 0
  go_enter Tryz.func5, Tryz.ntmps5
  go_wp2_with fail
  refine vM (h0.out _ (ft.later (bA (bA bR _) _))) fun w1 b1 => ?_
  have X0 := ((HB.newAt (b := w.heap.size) (by simp) _ _).alloc _).later b1
  have X1 := (HB.newAt (b := w.heap.size + 1) (by simp) _ _).later b1
  have oX0 := X0.o
  go_wp2_with fail
  refine vM (h1.out _) fun w2 b2 => ?_
  clear oX0
  go_wp2_with fail
  refine vM (h2.out _ (ft.later (bC (bC (bA (bA bR _) _) b1) b2))) fun w3 b3 => ?_
  go_wp2_with fail
  refine vM (h3.out _ (ft.later (bC (bC (bC (bA (bA bR _) _) b1) b2) b3))) fun w4 b4 => ?_
  rcases HH with ⟨h4, h7, h9⟩ | ⟨h4, h5, h6, h7, h9⟩ | ⟨h4, h5, h6, h7, h8, h9⟩
  · go_wp2_with fail
    refine vF1 fun w5 b5 X2 => ?_
    replace X1 := X1.later (bC (bC (bC b2 b3) b4) b5)
    refine vR [] fun w6 b6 S6 => ?_
    refine vT 0 S6 ?_
    refine vT 1 S6 ?_ (hy := by intro wq hb; have q := (hb.hb X1 (by simp)).o; go_simp; try (with_reducible rfl))
    refine vY1 (vC 2 S6 (h4.out _ (ft.later (bC (bC (bC (bC (bC (bC (bA (bA bR _) _) b1) b2) b3) b4) b5) b6))) (fun _ _ => Off.later) fun w7 b7 S7 => ?_)
    refine vT 3 S7 ?_
    refine vT 4 S7 ?_
    refine vN 5 S7 ?_
    refine vN 6 S7 ?_
    refine vN 7 S7 ?_
    refine vN 8 S7 ?_
    refine vN 9 S7 ?_
    refine vN 10 S7 ?_
    refine vN 11 S7 ?_
    refine vN 12 S7 ?_
    refine vN 13 S7 ?_
    refine vN 14 S7 ?_
    refine vT 15 S7 ?_
    refine vD ?_
    go_wp2_with fail
    replace X1 := X1.later (bC b6 b7)
    refine vR [] fun w8 b8 S8 => ?_
    refine vT 0 S8 ?_
    refine vT 1 S8 ?_ (hy := by intro wq hb; have q := (hb.hb X1 (by simp)).o; go_simp; try (with_reducible rfl))
    refine vY1 (vC 2 S8 (h7.out _ (ft.later (bC (bC (bC (bC (bC (bC (bC (bC (bA (bA bR _) _) b1) b2) b3) b4) b5) b6) b7) b8))) (fun _ _ => Off.later) fun w9 b9 S9 => ?_)
    refine vT 3 S9 ?_
    refine vT 4 S9 ?_
    refine vN 5 S9 ?_
    refine vN 6 S9 ?_
    refine vN 7 S9 ?_
    refine vN 8 S9 ?_
    refine vN 9 S9 ?_
    refine vN 10 S9 ?_
    refine vN 11 S9 ?_
    refine vN 12 S9 ?_
    refine vT 13 S9 ?_
    refine vT 14 S9 ?_
    refine vY1 (vC 15 S9 (h9.out _ (ft.later (bC (bC (bC (bC (bC (bC (bC (bC (bC (bA (bA bR _) _) b1) b2) b3) b4) b5) b6) b7) b8) b9))) (fun _ _ => Off.later) fun w10 b10 S10 => ?_)
    refine vT 16 S10 ?_
    refine vT 17 S10 ?_
    refine vD ?_
    go_wp2_with fail
    go_ret
    exact ⟨rfl, (bC (bC (bC (bC (bC (bC (bC (bC (bC (bC (bA (bA bR _) _) b1) b2) b3) b4) b5) b6) b7) b8) b9) b10)⟩
  · go_wp2_with fail
    refine vF1 fun w5 b5 X2 => ?_
    replace X0 := X0.later (bC (bC (bC b2 b3) b4) b5)
    replace X1 := X1.later (bC (bC (bC b2 b3) b4) b5)
    refine vR [] fun w6 b6 S6 => ?_
    refine vT 0 S6 ?_
    refine vT 1 S6 ?_ (hy := by intro wq hb; have q := (hb.hb X1 (by simp)).o; go_simp; try (with_reducible rfl))
    refine vY1 (vC 2 S6 (h4.out _ (ft.later (bC (bC (bC (bC (bC (bC (bA (bA bR _) _) b1) b2) b3) b4) b5) b6))) (fun _ _ => Off.later) fun w7 b7 S7 => ?_)
    refine vT 3 S7 ?_
    refine vT 4 S7 ?_
    refine vT 5 S7 ?_
    refine vT 6 S7 ?_ (hy := by intro wq hb; have q := (hb.hb X0 (by simp)).o; go_simp; try (with_reducible rfl))
    refine vT 7 S7 ?_ (hy := by intro wq hb; have q := (hb.hb X1 (by simp)).o; go_simp; try (with_reducible rfl))
    refine vT 8 S7 ?_ (hy := by intro wq hb; have q := (hb.hb X2 (by simp)).o; go_simp; try (with_reducible rfl))
    refine vT 10 S7 ?_
    refine vT 11 S7 ?_ (hy := by intro wq hb; have q := (hb.hb X1 (by simp)).o; go_simp; try (with_reducible rfl))
    refine vY1 (vC 9 S7 (h5.out _ (ft.later (bC (bC (bC (bC (bC (bC (bC (bA (bA bR _) _) b1) b2) b3) b4) b5) b6) b7))) (fun _ _ => Off.later) fun w8 b8 S8 => ?_)
    refine vY1 (vC 12 S8 (h6.out _ (ft.later (bC (bC (bC (bC (bC (bC (bC (bC (bA (bA bR _) _) b1) b2) b3) b4) b5) b6) b7) b8))) (fun _ _ => Off.later) fun w9 b9 S9 => ?_)
    refine vT 13 S9 ?_
    refine vT 14 S9 ?_
    refine vT 15 S9 ?_
    refine vD ?_
    go_wp2_with fail
    replace X1 := X1.later (bC (bC (bC b6 b7) b8) b9)
    refine vR [] fun w10 b10 S10 => ?_
    refine vT 0 S10 ?_
    refine vT 1 S10 ?_ (hy := by intro wq hb; have q := (hb.hb X1 (by simp)).o; go_simp; try (with_reducible rfl))
    refine vY1 (vC 2 S10 (h7.out _ (ft.later (bC (bC (bC (bC (bC (bC (bC (bC (bC (bC (bA (bA bR _) _) b1) b2) b3) b4) b5) b6) b7) b8) b9) b10))) (fun _ _ => Off.later) fun w11 b11 S11 => ?_)
    refine vT 3 S11 ?_
    refine vT 4 S11 ?_
    refine vN 5 S11 ?_
    refine vN 6 S11 ?_
    refine vN 7 S11 ?_
    refine vN 8 S11 ?_
    refine vN 9 S11 ?_
    refine vN 10 S11 ?_
    refine vN 11 S11 ?_
    refine vN 12 S11 ?_
    refine vT 13 S11 ?_
    refine vT 14 S11 ?_
    refine vY1 (vC 15 S11 (h9.out _ (ft.later (bC (bC (bC (bC (bC (bC (bC (bC (bC (bC (bC (bA (bA bR _) _) b1) b2) b3) b4) b5) b6) b7) b8) b9) b10) b11))) (fun _ _ => Off.later) fun w12 b12 S12 => ?_)
    refine vT 16 S12 ?_
    refine vT 17 S12 ?_
    refine vD ?_
    go_wp2_with fail
    go_ret
    exact ⟨rfl, (bC (bC (bC (bC (bC (bC (bC (bC (bC (bC (bC (bC (bA (bA bR _) _) b1) b2) b3) b4) b5) b6) b7) b8) b9) b10) b11) b12)⟩
  · go_wp2_with fail
    refine vF1 fun w5 b5 X2 => ?_
    replace X0 := X0.later (bC (bC (bC b2 b3) b4) b5)
    replace X1 := X1.later (bC (bC (bC b2 b3) b4) b5)
    refine vR [] fun w6 b6 S6 => ?_
    refine vT 0 S6 ?_
    refine vT 1 S6 ?_ (hy := by intro wq hb; have q := (hb.hb X1 (by simp)).o; go_simp; try (with_reducible rfl))
    refine vY1 (vC 2 S6 (h4.out _ (ft.later (bC (bC (bC (bC (bC (bC (bA (bA bR _) _) b1) b2) b3) b4) b5) b6))) (fun _ _ => Off.later) fun w7 b7 S7 => ?_)
    refine vT 3 S7 ?_
    refine vT 4 S7 ?_
    refine vT 5 S7 ?_
    refine vT 6 S7 ?_ (hy := by intro wq hb; have q := (hb.hb X0 (by simp)).o; go_simp; try (with_reducible rfl))
    refine vT 7 S7 ?_ (hy := by intro wq hb; have q := (hb.hb X1 (by simp)).o; go_simp; try (with_reducible rfl))
    refine vT 8 S7 ?_ (hy := by intro wq hb; have q := (hb.hb X2 (by simp)).o; go_simp; try (with_reducible rfl))
    refine vT 10 S7 ?_
    refine vT 11 S7 ?_ (hy := by intro wq hb; have q := (hb.hb X1 (by simp)).o; go_simp; try (with_reducible rfl))
    refine vY1 (vC 9 S7 (h5.out _ (ft.later (bC (bC (bC (bC (bC (bC (bC (bA (bA bR _) _) b1) b2) b3) b4) b5) b6) b7))) (fun _ _ => Off.later) fun w8 b8 S8 => ?_)
    refine vY1 (vC 12 S8 (h6.out _ (ft.later (bC (bC (bC (bC (bC (bC (bC (bC (bA (bA bR _) _) b1) b2) b3) b4) b5) b6) b7) b8))) (fun _ _ => Off.later) fun w9 b9 S9 => ?_)
    refine vT 13 S9 ?_
    refine vT 14 S9 ?_
    refine vT 15 S9 ?_
    refine vD ?_
    go_wp2_with fail
    replace X0 := X0.later (bC (bC (bC b6 b7) b8) b9)
    replace X1 := X1.later (bC (bC (bC b6 b7) b8) b9)
    replace X2 := X2.later (bC (bC (bC b6 b7) b8) b9)
    refine vR [] fun w10 b10 S10 => ?_
    refine vT 0 S10 ?_
    refine vT 1 S10 ?_ (hy := by intro wq hb; have q := (hb.hb X1 (by simp)).o; go_simp; try (with_reducible rfl))
    refine vY1 (vC 2 S10 (h7.out _ (ft.later (bC (bC (bC (bC (bC (bC (bC (bC (bC (bC (bA (bA bR _) _) b1) b2) b3) b4) b5) b6) b7) b8) b9) b10))) (fun _ _ => Off.later) fun w11 b11 S11 => ?_)
    refine vT 3 S11 ?_
    refine vT 4 S11 ?_
    refine vT 5 S11 ?_
    refine vT 6 S11 ?_ (hy := by intro wq hb; have q := (hb.hb X0 (by simp)).o; go_simp; try (with_reducible rfl))
    refine vT 7 S11 ?_ (hy := by intro wq hb; have q := (hb.hb X1 (by simp)).o; go_simp; try (with_reducible rfl))
    refine vT 8 S11 ?_ (hy := by intro wq hb; have q := (hb.hb X1 (by simp)).o; go_simp; try (with_reducible rfl))
    refine vT 10 S11 ?_ (hy := by intro wq hb; have q := (hb.hb X2 (by simp)).o; go_simp; try (with_reducible rfl))
    refine vT 11 S11 ?_
    refine vY1 (vC 9 S11 (h8.out _ (ft.later (bC (bC (bC (bC (bC (bC (bC (bC (bC (bC (bC (bA (bA bR _) _) b1) b2) b3) b4) b5) b6) b7) b8) b9) b10) b11))) (fun _ _ => Off.later) fun w12 b12 S12 => ?_)
    refine vT 12 S12 ?_
    refine vT 13 S12 ?_
    refine vT 14 S12 ?_
    refine vY1 (vC 15 S12 (h9.out _ (ft.later (bC (bC (bC (bC (bC (bC (bC (bC (bC (bC (bC (bC (bA (bA bR _) _) b1) b2) b3) b4) b5) b6) b7) b8) b9) b10) b11) b12))) (fun _ _ => Off.later) fun w13 b13 S13 => ?_)
    refine vT 16 S13 ?_
    refine vT 17 S13 ?_
    refine vD ?_
    go_wp2_with fail
    go_ret
    exact ⟨rfl, (bC (bC (bC (bC (bC (bC (bC (bC (bC (bC (bC (bC (bC (bA (bA bR _) _) b1) b2) b3) b4) b5) b6) b7) b8) b9) b10) b11) b12) b13)⟩
end Go.Proofs.YtnlmceafleeaiaaGreatDoor
