/-
  The walk of the statement MulOne.
-/
import Derived.Test.YtjnohbpebdnngaaGreatDoorMul19M
import Derived.Test.YtjnohbpebdnngaaGreatDoorW2
import Derived.Test.YtjnohbpebdnngaaGreatDoorGaB
import Derived.Test.YtjnohbpebdnngaaGreatDoorGfA
import Derived.Test.YtjnohbpebdnngaaGreatDoorGhA
import Derived.Test.YtjnohbpebdnngaaGreatDoorGaA
import Derived.Test.YtjnohbpebdnngaaGreatDoorGoes19
set_option linter.unusedVariables false
set_option linter.unusedSimpArgs false
set_option maxRecDepth 100000
namespace Go.Proofs.YtjnohbpebdnngaaGreatDoor
open Go.RowKit
attribute [local go_sem ↓] Go.wp_at_zero Go.wp_at_succ

set_option maxHeartbeats 4000000 in
theorem one19_no1 (f m ah al : Int) (t : Bool)
    (h0 : Hid (∀ w, FTab w → Ca 22 #[.int .u8 f] w (.bool false)))
    (h3 : Hid (∀ w, FTab w → Ca 13 #[] w (.bool true))) (w : World) (ft : FTab w) :
    Ca 7 #[.int .u8 f, .agg #[.int .u8 m, .bool t], U2 ah al] w (.bool true) := by
  simp only [Ca, U2] at *
  go_enter Tryz.func7, Tryz.ntmps7
  go_wp2_with fail
  refine vM (h0.out _ (ft.later (bA (bA (Below.refl _ _) _) _))) fun w1 b1 => ?_
  go_wp2_with fail
  refine vM (h3.out _ (ft.later (bC (bA (bA (Below.refl _ _) _) _) b1))) fun w2 b2 => ?_
  go_wp2_with fail
  go_ret
  exact ⟨rfl, (bC (bC (bA (bA (Below.refl _ _) _) _) b1) b2)⟩

set_option maxHeartbeats 4000000 in
theorem one19_no2 (f m ah al : Int) (t : Bool)
    (h0 : Hid (∀ w, FTab w → Ca 22 #[.int .u8 f] w (.bool true)))
    (h1 : Hid (∀ w, Ca 23 #[.int .u8 m] w (.bool false)))
    (h3 : Hid (∀ w, FTab w → Ca 13 #[] w (.bool true))) (w : World) (ft : FTab w) :
    Ca 7 #[.int .u8 f, .agg #[.int .u8 m, .bool t], U2 ah al] w (.bool true) := by
  simp only [Ca, U2] at *
  go_enter Tryz.func7, Tryz.ntmps7
  go_wp2_with fail
  refine vM (h0.out _ (ft.later (bA (bA (Below.refl _ _) _) _))) fun w1 b1 => ?_
  have X0 := ((HB.newAt (b := w.heap.size) (by simp) _ _).alloc _).later b1
  have oX0 := X0.o
  go_wp2_with fail
  refine vM (h1.out _) fun w2 b2 => ?_
  clear oX0
  go_wp2_with fail
  refine vM (h3.out _ (ft.later (bC (bC (bA (bA (Below.refl _ _) _) _) b1) b2))) fun w3 b3 => ?_
  go_wp2_with fail
  go_ret
  exact ⟨rfl, (bC (bC (bC (bA (bA (Below.refl _ _) _) _) b1) b2) b3)⟩

set_option maxHeartbeats 4000000 in
theorem one19_no3 (f m ah al : Int) (t : Bool)
    (h0 : Hid (∀ w, FTab w → Ca 22 #[.int .u8 f] w (.bool true)))
    (h1 : Hid (∀ w, Ca 23 #[.int .u8 m] w (.bool true)))
    (h2 : Hid (∀ w, FTab w → Ca 25 #[.int .u8 f, U2 ah al] w (.bool true)))
    (h3 : Hid (∀ w, FTab w → Ca 13 #[] w (.bool true))) (w : World) (ft : FTab w) :
    Ca 7 #[.int .u8 f, .agg #[.int .u8 m, .bool t], U2 ah al] w (.bool true) := by
  simp only [Ca, U2] at *
  go_enter Tryz.func7, Tryz.ntmps7
  go_wp2_with fail
  refine vM (h0.out _ (ft.later (bA (bA (Below.refl _ _) _) _))) fun w1 b1 => ?_
  have X0 := ((HB.newAt (b := w.heap.size) (by simp) _ _).alloc _).later b1
  have X1 := (HB.newAt (b := w.heap.size + 1) (by simp) _ _).later b1
  have oX0 := X0.o
  go_wp2_with fail
  refine vM (h1.out _) fun w2 b2 => ?_
  clear oX0
  replace X1 := X1.later b2
  have oX1 := X1.o
  go_wp2_with fail
  refine vM (h2.out _ (ft.later (bC (bC (bA (bA (Below.refl _ _) _) _) b1) b2))) fun w3 b3 => ?_
  clear oX1
  go_wp2_with fail
  refine vM (h3.out _ (ft.later (bC (bC (bC (bA (bA (Below.refl _ _) _) _) b1) b2) b3))) fun w4 b4 => ?_
  go_wp2_with fail
  go_ret
  exact ⟨rfl, (bC (bC (bC (bC (bA (bA (Below.refl _ _) _) _) b1) b2) b3) b4)⟩

set_option maxHeartbeats 4000000 in
theorem one19_main (f m ah al em e2 ph pl qh ql zh zl rh rl fl : Int) (t : Bool)
    (h0 : Hid (∀ w, FTab w → Ca 22 #[.int .u8 f] w (.bool true)))
    (h1 : Hid (∀ w, Ca 23 #[.int .u8 m] w (.bool true)))
    (h2 : Hid (∀ w, FTab w → Ca 25 #[.int .u8 f, U2 ah al] w (.bool false)))
    (h3 : Hid (∀ w, FTab w → Ca 29 #[.int .u8 f] w (.int .i64 em)))
    (h4 : Hid (∀ w, FTab w → Ca 28 #[.int .u8 f, .bool false, .int .i64 em, U2 0 0] w (U2 ph pl)))
    (h6 : Hid (∀ w, FTab w → Ca 28 #[.int .u8 f, .bool false, .int .i64 e2, U2 0 0] w (U2 qh ql)))
    (h7 : Hid (∀ w, FTab w → Ca 11 #[.int .u8 f, .agg #[.int .u8 m, .bool t], U2 ah al, U2 ph pl] w (.agg #[.int .u64 zh, .int .u64 zl, .int .u8 0])))
    (h8 : Hid (∀ w, FTab w → Ca 30 #[.int .u8 f, U2 ah al] w (U2 zh zl)))
    (h9 : Hid (∀ w, FTab w → Ca 11 #[.int .u8 f, .agg #[.int .u8 m, .bool t], U2 ah al, U2 qh ql] w (.agg #[.int .u64 rh, .int .u64 rl, .int .u8 fl])))
    (h10 : Hid (∀ w, FTab w → Ca 31 #[.int .u8 f, .agg #[.int .u8 m, .bool t], U2 ah al, U2 ah al] w (.agg #[.int .u64 rh, .int .u64 rl, .int .u8 fl])))
    (h11 : Hid (∀ w, FTab w → Ca 13 #[] w (.bool true))) (w1 : IntKind.i64.wrap (em + 1) = e2) (w1x : wrap64 (em + 1) = e2) (w : World) (ft : FTab w) :
    Ca 7 #[.int .u8 f, .agg #[.int .u8 m, .bool t], U2 ah al] w (.bool true) := by
  simp only [Ca, U2] at *
  have EQ := eqr19 rh rl fl
  have EZ := eqr19 zh zl 0
  go_enter Tryz.func7, Tryz.ntmps7
  go_wp2_with fail
  refine vM (h0.out _ (ft.later (bA (bA (Below.refl _ _) _) _))) fun w1 b1 => ?_
  have X0 := ((HB.newAt (b := w.heap.size) (by simp) _ _).alloc _).later b1
  have X1 := (HB.newAt (b := w.heap.size + 1) (by simp) _ _).later b1
  have oX0 := X0.o
  go_wp2_with fail
  refine vM (h1.out _) fun w2 b2 => ?_
  clear oX0
  replace X1 := X1.later b2
  have oX1 := X1.o
  go_wp2_with fail
  refine vM (h2.out _ (ft.later (bC (bC (bA (bA (Below.refl _ _) _) _) b1) b2))) fun w3 b3 => ?_
  clear oX1
  go_wp2_with fail
  refine vM (h3.out _ (ft.later (bC (bC (bC (bA (bA (Below.refl _ _) _) _) b1) b2) b3))) fun w4 b4 => ?_
  go_wp2_with fail
  refine vM (h4.out _ (ft.later (bC (bC (bC (bC (bA (bA (Below.refl _ _) _) _) b1) b2) b3) b4))) fun w5 b5 => ?_
  go_wp2_with fail
  refine vM (h3.out _ (ft.later (bA (bC (bC (bC (bC (bC (bA (bA (Below.refl _ _) _) _) b1) b2) b3) b4) b5) _))) fun w6 b6 => ?_
  have X2 := (HB.newAt (b := w5.heap.size) (by simp) _ _).later b6
  go_wp2_with fail
  refine vM (h6.out _ (ft.later (bC (bC (bC (bC (bC (bC (bA (bA (Below.refl _ _) _) _) b1) b2) b3) b4) b5) (bC (bA (Below.refl _ _) _) b6)))) fun w7 b7 => ?_
  go_wp2_with fail
  refine vF1 fun w8 b8 X3 => ?_
  replace X0 := X0.later (bC (bC (bC (bC (bC (bC b2 b3) b4) b5) (bC (bA (Below.refl _ _) _) b6)) b7) b8)
  replace X1 := X1.later (bC (bC (bC (bC (bC b3 b4) b5) (bC (bA (Below.refl _ _) _) b6)) b7) b8)
  replace X2 := X2.later (bC b7 b8)
  refine vR [] fun w9 b9 S9 => ?_
  refine vT 0 S9 ?_
  refine vT 1 S9 ?_ (hy := by intro wq hb; have q := (hb.hb X0 (by simp)).o; go_simp; try (with_reducible rfl))
  refine vT 2 S9 ?_ (hy := by intro wq hb; have q := (hb.hb X1 (by simp)).o; go_simp; try (with_reducible rfl))
  refine vT 3 S9 ?_ (hy := by intro wq hb; have q := (hb.hb X2 (by simp)).o; go_simp; try (with_reducible rfl))
  refine vT 5 S9 ?_
  refine vT 6 S9 ?_ (hy := by intro wq hb; have q := (hb.hb X1 (by simp)).o; go_simp; try (with_reducible rfl))
  refine vY1 (vC 4 S9 (h7.out _ (ft.later (bC (bC (bC (bC (bC (bC (bC (bC (bC (bA (bA (Below.refl _ _) _) _) b1) b2) b3) b4) b5) (bC (bA (Below.refl _ _) _) b6)) b7) b8) b9))) (fun _ _ => Off.later) fun w10 b10 S10 => ?_)
  refine vY1 (vC 7 S10 (h8.out _ (ft.later (bC (bC (bC (bC (bC (bC (bC (bC (bC (bC (bA (bA (Below.refl _ _) _) _) b1) b2) b3) b4) b5) (bC (bA (Below.refl _ _) _) b6)) b7) b8) b9) b10))) (fun _ _ => Off.later) fun w11 b11 S11 => ?_)
  refine vT 8 S11 ?_
  refine vT 9 S11 ?_
  refine vT 10 S11 ?_
  refine vT 11 S11 ?_
  refine vT 12 S11 ?_ (hy := by intro wq hb; have q := (hb.hb X0 (by simp)).o; go_simp; try (with_reducible rfl))
  refine vT 13 S11 ?_ (hy := by intro wq hb; have q := (hb.hb X1 (by simp)).o; go_simp; try (with_reducible rfl))
  refine vT 14 S11 ?_ (hy := by intro wq hb; have q := (hb.hb X3 (by simp)).o; go_simp; try (with_reducible rfl))
  refine vT 16 S11 ?_
  refine vT 17 S11 ?_ (hy := by intro wq hb; have q := (hb.hb X0 (by simp)).o; go_simp; try (with_reducible rfl))
  refine vT 18 S11 ?_ (hy := by intro wq hb; have q := (hb.hb X1 (by simp)).o; go_simp; try (with_reducible rfl))
  refine vT 19 S11 ?_ (hy := by intro wq hb; have q := (hb.hb X1 (by simp)).o; go_simp; try (with_reducible rfl))
  refine vY1 (vC 15 S11 (h9.out _ (ft.later (bC (bC (bC (bC (bC (bC (bC (bC (bC (bC (bC (bA (bA (Below.refl _ _) _) _) b1) b2) b3) b4) b5) (bC (bA (Below.refl _ _) _) b6)) b7) b8) b9) b10) b11))) (fun _ _ => Off.later) fun w12 b12 S12 => ?_)
  refine vY1 (vC 20 S12 (h10.out _ (ft.later (bC (bC (bC (bC (bC (bC (bC (bC (bC (bC (bC (bC (bA (bA (Below.refl _ _) _) _) b1) b2) b3) b4) b5) (bC (bA (Below.refl _ _) _) b6)) b7) b8) b9) b10) b11) b12))) (fun _ _ => Off.later) fun w13 b13 S13 => ?_)
  refine vT 21 S13 ?_
  refine vT 22 S13 ?_
  refine vT 23 S13 ?_
  refine vY1 (vC 24 S13 (h11.out _ (ft.later (bC (bC (bC (bC (bC (bC (bC (bC (bC (bC (bC (bC (bC (bA (bA (Below.refl _ _) _) _) b1) b2) b3) b4) b5) (bC (bA (Below.refl _ _) _) b6)) b7) b8) b9) b10) b11) b12) b13))) (fun _ _ => Off.later) fun w14 b14 S14 => ?_)
  refine vT 25 S14 ?_
  refine vT 26 S14 ?_
  refine vD ?_
  go_wp2_with fail
  go_ret
  exact ⟨rfl, (bC (bC (bC (bC (bC (bC (bC (bC (bC (bC (bC (bC (bC (bC (bA (bA (Below.refl _ _) _) _) b1) b2) b3) b4) b5) (bC (bA (Below.refl _ _) _) b6)) b7) b8) b9) b10) b11) b12) b13) b14)⟩



end Go.Proofs.YtjnohbpebdnngaaGreatDoor
