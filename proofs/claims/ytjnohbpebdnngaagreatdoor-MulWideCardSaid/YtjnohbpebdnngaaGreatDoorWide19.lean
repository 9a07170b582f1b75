/-
  The walk of the statement MulWide.
-/
import Derived.Test.YtjnohbpebdnngaaGreatDoorMul19M
import Derived.Test.YtjnohbpebdnngaaGreatDoorW2
import Derived.Test.YtjnohbpebdnngaaGreatDoorGaB
import Derived.Test.YtjnohbpebdnngaaGreatDoorGfA
import Derived.Test.YtjnohbpebdnngaaGreatDoorGhA
import Derived.Test.YtjnohbpebdnngaaGreatDoorGaA
import Derived.Test.YtjnohbpebdnngaaGreatDoorGoes19
set_option linter.unusedVariables false
set_option linter.unusedSimpArgs false
set_option maxRecDepth 100000
namespace Go.Proofs.YtjnohbpebdnngaaGreatDoor
open Go.RowKit
attribute [local go_sem ↓] Go.wp_at_zero Go.wp_at_succ

set_option maxHeartbeats 4000000 in
theorem widened19 (f g ex bh bl xh xl rh rl cb : Int) (ng k : Bool)
    (h0 : Hid (∀ w, FTab w → Ca 20 #[.int .u8 f, U2 bh bl] w (.agg #[.bool ng, .int .u8 cb, .int .i64 ex, .int .u64 xh, .int .u64 xl])))
    (h1 : Hid (∀ w, FTab w → Ca 51 #[.int .u8 g, .agg #[.bool ng, .int .u8 cb, .int .i64 ex, .int .u64 xh, .int .u64 xl]] w (.tuple #[U2 rh rl, .bool k]))) (w1 : IntKind.u8.wrap (f + 1) = g) (w2 : (f + 1) % 256 = g) (w : World) (ft : FTab w) :
    Ca 19 #[.int .u8 f, U2 bh bl] w (U2 rh rl) := by
  simp only [Ca, U2] at *
  go_enter Tryz.func19, Tryz.ntmps19
  go_wp2_with fail
  refine vM (h0.out _ (ft.later (bA (bA (Below.refl _ _) _) _))) fun w1 b1 => ?_
  have gX1 : w.heap.size ≤ w.heap.size + 1 := by omega
  have X1 := (HB.newAt (b := w.heap.size + 1) (by simp) _ _).later b1
  go_wp2_with fail
  refine vM (h1.out _ (ft.later (bA (bC (bA (bA (Below.refl _ _) _) _) b1) _))) fun w2 b2 => ?_
  replace X1 := X1.later (bC (bA (Below.refl _ _) _) b2)
  have oX1 := X1.o
  go_wp2_with fail
  refine bodyPost_ret (v := .agg #[.int .u64 rh, .int .u64 rl]) ?_ rfl ⟨rfl, (bA (((bC (bC (bA (bA (Below.refl _ _) _) _) b1) (bC (bA (Below.refl _ _) _) b2)).setCell (p := ⟨w.heap.size + 1, 0, none⟩) gX1 _).setCell (p := ⟨w.heap.size + 1, 1, none⟩) gX1 _) _)⟩
  simp [results, Tryz.results19, go_sem, oX1]

set_option maxHeartbeats 4000000 in
theorem wide19_nf (f m ah al bh bl mm : Int) (t : Bool)
    (h2 : Hid (∀ w, FTab w → Ca 13 #[] w (.bool true))) (m2 : m.tmod 5 = mm) (m3 : m % 5 = mm) (g1 : decide (2 < f) = true) (w : World) (ft : FTab w) :
    Ca 5 #[.int .u8 f, .agg #[.int .u8 m, .bool t], U2 ah al, U2 bh bl] w (.bool true) := by
  simp only [Ca, U2] at *
  go_enter Tryz.func5, Tryz.ntmps5
  go_wp2_with fail
  refine vM (h2.out _ (ft.later (bA (bA (bA (Below.refl _ _) _) _) _))) fun w1 b1 => ?_
  go_wp2_with fail
  go_ret
  exact ⟨rfl, (bC (bA (bA (bA (Below.refl _ _) _) _) _) b1)⟩

set_option maxHeartbeats 4000000 in
theorem wide19_na (f m ah al bh bl mm : Int) (t : Bool)
    (h0 : Hid (∀ w, FTab w → Ca 18 #[.int .u8 f, U2 ah al] w (.bool false)))
    (h2 : Hid (∀ w, FTab w → Ca 13 #[] w (.bool true))) (m2 : m.tmod 5 = mm) (m3 : m % 5 = mm) (g1 : decide (2 < f) = false) (w : World) (ft : FTab w) :
    Ca 5 #[.int .u8 f, .agg #[.int .u8 m, .bool t], U2 ah al, U2 bh bl] w (.bool true) := by
  simp only [Ca, U2] at *
  go_enter Tryz.func5, Tryz.ntmps5
  go_wp2_with fail
  refine vM (h0.out _ (ft.later (bA (bA (bA (Below.refl _ _) _) _) _))) fun w1 b1 => ?_
  go_wp2_with fail
  refine vM (h2.out _ (ft.later (bC (bA (bA (bA (Below.refl _ _) _) _) _) b1))) fun w2 b2 => ?_
  go_wp2_with fail
  go_ret
  exact ⟨rfl, (bC (bC (bA (bA (bA (Below.refl _ _) _) _) _) b1) b2)⟩

set_option maxHeartbeats 4000000 in
theorem wide19_nb (f m ah al bh bl mm : Int) (t : Bool)
    (h0 : Hid (∀ w, FTab w → Ca 18 #[.int .u8 f, U2 ah al] w (.bool true)))
    (h1 : Hid (∀ w, FTab w → Ca 18 #[.int .u8 f, U2 bh bl] w (.bool false)))
    (h2 : Hid (∀ w, FTab w → Ca 13 #[] w (.bool true))) (m2 : m.tmod 5 = mm) (m3 : m % 5 = mm) (g1 : decide (2 < f) = false) (w : World) (ft : FTab w) :
    Ca 5 #[.int .u8 f, .agg #[.int .u8 m, .bool t], U2 ah al, U2 bh bl] w (.bool true) := by
  simp only [Ca, U2] at *
  go_enter Tryz.func5, Tryz.ntmps5
  go_wp2_with fail
  refine vM (h0.out _ (ft.later (bA (bA (bA (Below.refl _ _) _) _) _))) fun w1 b1 => ?_
  have X2 := (HB.newAt (b := w.heap.size + 1 + 1) (by simp) _ _).later b1
  have oX2 := X2.o
  go_wp2_with fail
  refine vM (h1.out _ (ft.later (bC (bA (bA (bA (Below.refl _ _) _) _) _) b1))) fun w2 b2 => ?_
  clear oX2
  go_wp2_with fail
  refine vM (h2.out _ (ft.later (bC (bC (bA (bA (bA (Below.refl _ _) _) _) _) b1) b2))) fun w3 b3 => ?_
  go_wp2_with fail
  go_ret
  exact ⟨rfl, (bC (bC (bC (bA (bA (bA (Below.refl _ _) _) _) _) b1) b2) b3)⟩

set_option maxHeartbeats 4000000 in
theorem wide19_main (f m ah al bh bl mm g cn en ph pl qh ql sh sl nh nl rh rl fl : Int) (t ng : Bool)
    (h0 : Hid (∀ w, FTab w → Ca 18 #[.int .u8 f, U2 ah al] w (.bool true)))
    (h1 : Hid (∀ w, FTab w → Ca 18 #[.int .u8 f, U2 bh bl] w (.bool true)))
    (h2 : Hid (∀ w, FTab w → Ca 19 #[.int .u8 f, U2 ah al] w (U2 ph pl)))
    (h3 : Hid (∀ w, FTab w → Ca 19 #[.int .u8 f, U2 bh bl] w (U2 qh ql)))
    (h4 : Hid (∀ w, FTab w → Ca 11 #[.int .u8 g, .agg #[.int .u8 mm, .bool t], U2 ph pl, U2 qh ql] w (.agg #[.int .u64 sh, .int .u64 sl, .int .u8 0])))
    (h5 : Hid (∀ w, FTab w → Ca 20 #[.int .u8 g, U2 sh sl] w (.agg #[.bool ng, .int .u8 cn, .int .i64 en, .int .u64 nh, .int .u64 nl])))
    (h6 : Hid (∀ w, FTab w → Ca 11 #[.int .u8 f, .agg #[.int .u8 mm, .bool t], U2 ah al, U2 bh bl] w (.agg #[.int .u64 rh, .int .u64 rl, .int .u8 fl])))
    (h7 : Hid (∀ w, FTab w → Ca 21 #[.int .u8 f, .agg #[.int .u8 mm, .bool t], .bool ng, .int .i64 en, U4 0 0 nl nh] w (.agg #[.int .u64 rh, .int .u64 rl, .int .u8 fl])))
    (h8 : Hid (∀ w, FTab w → Ca 13 #[] w (.bool true))) (m2 : m.tmod 5 = mm) (m3 : m % 5 = mm) (g1 : decide (2 < f) = false) (w1 : IntKind.u8.wrap (f + 1) = g) (w2 : (f + 1) % 256 = g) (w : World) (ft : FTab w) :
    Ca 5 #[.int .u8 f, .agg #[.int .u8 m, .bool t], U2 ah al, U2 bh bl] w (.bool true) := by
  simp only [Ca, U2, U4] at *
  have EQ := eqr19 rh rl fl
  go_enter Tryz.func5, Tryz.ntmps5
  go_wp2_with fail
  refine vM (h0.out _ (ft.later (bA (bA (bA (Below.refl _ _) _) _) _))) fun w1 b1 => ?_
  have X0 := (((HB.newAt (b := w.heap.size) (by simp) _ _).alloc _).alloc _).later b1
  have X1 := ((HB.newAt (b := w.heap.size + 1) (by simp) _ _).alloc _).later b1
  have X2 := (HB.newAt (b := w.heap.size + 1 + 1) (by simp) _ _).later b1
  have oX2 := X2.o
  go_wp2_with fail
  refine vM (h1.out _ (ft.later (bC (bA (bA (bA (Below.refl _ _) _) _) _) b1))) fun w2 b2 => ?_
  clear oX2
  go_wp2_with fail
  replace X0 := X0.later b2
  replace X1 := X1.later b2
  replace X2 := X2.later b2
  refine vR [] fun w3 kz3 S => ?_
  refine vT 0 S ?_
  refine vT 1 S ?_
  refine vT 2 S ?_ (hy := by intro wq hb; have q := (hb.hb X0 (by simp)).o; go_simp; try (with_reducible rfl))
  refine vT 3 S ?_
  refine vT 4 S ?_ (hy := by intro wq hb; have q := (hb.hb X1 (by simp)).o; go_simp; try (with_reducible rfl))
  refine vT 6 S ?_
  refine vT 7 S ?_ (hy := by intro wq hb; have q := (hb.hb X2 (by simp)).o; go_simp; try (with_reducible rfl))
  refine vY2 (cC 5 S (h2.out _ (ft.later (bC (bC (bC (bA (bA (bA (Below.refl _ _) _) _) _) b1) b2) kz3))) fun w4 b4 => ?_) (cA 10 S fun w5 pp2_0 h X3 b5 => ?_)
  replace kz3 := bC kz3 b4
  clear S b4 w3
  revert kz3; revert w4
  refine ?s3_0; rotate_left
  have jX3 := (Nat.le_trans kz3.size h); replace kz3 := bC kz3 b5
  clear S b5 h w3
  revert kz3; revert jX3; revert X3; revert pp2_0; revert w5
  refine ?s3_1; rotate_left
  intro w6 kz3
  have S := Off.ofB kz3
  refine vY2 (cC 8 S (h3.out _ (ft.later (bC (bC (bC (bA (bA (bA (Below.refl _ _) _) _) _) b1) b2) kz3))) fun w7 b7 => ?_) (cA 10 S fun w8 pp2_0 h X3 b8 => ?_)
  replace kz3 := bC kz3 b7
  clear S b7 w6
  revert kz3; revert w7
  refine ?s3_2; rotate_left
  have jX3 := (Nat.le_trans kz3.size h); replace kz3 := bC kz3 b8
  clear S b8 h w6
  revert kz3; revert jX3; revert X3; revert pp2_0; revert w8
  refine ?s3_3; rotate_left
  intro w9 pp2_0 X3 jX3 kz3
  have S := Off.ofB kz3
  refine vY1 (cC 5 S (h2.out _ (ft.later (bC (bC (bC (bA (bA (bA (Below.refl _ _) _) _) _) b1) b2) kz3))) fun w10 b10 => ?s3_3 w10 pp2_0 (X3.later b10) jX3 (bC kz3 b10))
  intro w11 kz3
  have S := Off.ofB kz3
  refine vY2 (cC 9 S (h4.out _ (ft.later (bC (bC (bC (bA (bA (bA (Below.refl _ _) _) _) _) b1) b2) kz3))) fun w12 b12 => ?_) (cA 10 S fun w13 pp2_0 h X3 b13 => ?_)
  replace kz3 := bC kz3 b12
  clear S b12 w11
  revert kz3; revert w12
  refine ?s3_4; rotate_left
  have jX3 := (Nat.le_trans kz3.size h); replace kz3 := bC kz3 b13
  clear S b13 h w11
  revert kz3; revert jX3; revert X3; revert pp2_0; revert w13
  refine ?s3_5; rotate_left
  intro w14 pp2_0 X3 jX3 kz3
  have S := Off.ofB kz3
  refine vY1 (cC 8 S (h3.out _ (ft.later (bC (bC (bC (bA (bA (bA (Below.refl _ _) _) _) _) b1) b2) kz3))) fun w15 b15 => ?s3_5 w15 pp2_0 (X3.later b15) jX3 (bC kz3 b15))
  intro w16 kz3
  have S := Off.ofB kz3
  refine vY1 (cA 10 S fun w17 pp2_0 h X3 b17 => ?_)
  have jX3 := (Nat.le_trans kz3.size h); replace kz3 := bC kz3 b17
  clear S b17 h w16
  revert kz3; revert jX3; revert X3; revert pp2_0; revert w17
  refine ?s3_6; rotate_left
  intro w18 pp2_0 X3 jX3 kz3
  have S := Off.ofB kz3
  refine vY1 (cC 9 S (h4.out _ (ft.later (bC (bC (bC (bA (bA (bA (Below.refl _ _) _) _) _) b1) b2) kz3))) fun w19 b19 => ?s3_6 w19 pp2_0 (X3.later b19) jX3 (bC kz3 b19))
  intro w20 pp2_0 X3 jX3 kz3
  have S := Off.ofB kz3
  refine vY1 (vO 11 fun K hK => ?_)
  have q := X3.o
  go_simp
  refine vW (fun W => HB W pp2_0 31 #[.int .u64 sh, .int .u64 sl, .int .u8 0] ∧ Below w2.heap.size w2 W) ⟨(((X3.set 0 _).set 1 _).set 2 _), (((kz3.setCell (p := ⟨pp2_0, 0, none⟩) jX3 _).setCell (p := ⟨pp2_0, 1, none⟩) jX3 _).setCell (p := ⟨pp2_0, 2, none⟩) jX3 _)⟩ fun w22 hz => ?_
  clear q X3 S kz3 w20; obtain ⟨X3, kz3⟩ := hz
  refine hK.out _ _ (Off.ofB kz3) fun S => ?_; clear hK K S; refine vP ?_
  revert kz3; revert jX3; revert X3; revert pp2_0; revert w22
  refine ?s3_7; rotate_left
  intro w23 pp2_0 X3 jX3 kz3
  refine vD ?_
  have nX0_X3 : w.heap.size < pp2_0 := by have := X0.lt; omega
  have nX1_X3 : w.heap.size + 1 < pp2_0 := by have := X1.lt; omega
  have nX2_X3 : w.heap.size + 1 + 1 < pp2_0 := by have := X2.lt; omega
  have gX3 : w.heap.size ≤ pp2_0 := by have := (bC (bC (bA (bA (bA (Below.refl _ _) _) _) _) b1) b2).size; omega
  have oX3 := X3.o
  go_wp2_with fail
  refine vM (h5.out _ (ft.later (bC (bC (bC (bA (bA (bA (Below.refl _ _) _) _) _) b1) b2) kz3))) fun w24 b24 => ?_
  clear oX3
  replace X0 := X0.later (bC kz3 b24)
  have oX0 := X0.o
  replace X1 := X1.later (bC kz3 b24)
  have oX1 := X1.o
  replace X2 := X2.later (bC kz3 b24)
  have oX2 := X2.o
  go_wp2_with fail
  refine vM (h6.out _ (ft.later (bA (bC (bC (bC (bC (bA (bA (bA (Below.refl _ _) _) _) _) b1) b2) kz3) b24) _))) fun w25 b25 => ?_
  have X4 := (HB.newAt (b := w24.heap.size) (by simp) _ _).later b25
  clear oX0 oX1 oX2
  go_wp2_with fail
  refine vF1 fun w26 b26 X5 => ?_
  replace X0 := X0.later (bC (bC (bA (Below.refl _ _) _) b25) b26)
  replace X4 := X4.later b26
  refine vR [] fun w27 b27 S27 => ?_
  refine vT 0 S27 ?_ (hy := by intro wq hb; have q := (hb.hb X5 (by simp)).o; go_simp; try (with_reducible rfl))
  refine vT 1 S27 ?_
  refine vT 2 S27 ?_ (hy := by intro wq hb; have q := (hb.hb X0 (by simp)).o; go_simp; try (with_reducible rfl))
  refine vT 3 S27 ?_
  refine vT 4 S27 ?_ (hy := by intro wq hb; have q := (hb.hb X4 (by simp)).o; go_simp; try (with_reducible rfl))
  refine vT 5 S27 ?_
  refine vT 6 S27 ?_ (hy := by intro wq hb; have q := (hb.hb X4 (by simp)).o; go_simp; try (with_reducible rfl))
  refine vT 7 S27 ?_
  refine vT 8 S27 ?_
  refine vT 9 S27 ?_ (hy := by intro wq hb; have q := (hb.hb X4 (by simp)).o; go_simp; try (with_reducible rfl))
  refine vT 10 S27 ?_
  refine vT 11 S27 ?_
  refine vT 12 S27 ?_ (hy := by intro wq hb; have q := (hb.hb X4 (by simp)).o; go_simp; try (with_reducible rfl))
  refine vT 13 S27 ?_
  refine vY1 (vC 14 S27 (h7.out _ (ft.later (bC (bC (bC (bC (bC (bC (bC (bA (bA (bA (Below.refl _ _) _) _) _) b1) b2) kz3) b24) (bC (bA (Below.refl _ _) _) b25)) b26) b27))) (fun _ _ => Off.later) fun w28 b28 S28 => ?_)
  refine vT 15 S28 ?_
  refine vT 16 S28 ?_
  refine vY1 (vC 17 S28 (h8.out _ (ft.later (bC (bC (bC (bC (bC (bC (bC (bC (bA (bA (bA (Below.refl _ _) _) _) _) b1) b2) kz3) b24) (bC (bA (Below.refl _ _) _) b25)) b26) b27) b28))) (fun _ _ => Off.later) fun w29 b29 S29 => ?_)
  refine vT 18 S29 ?_
  refine vT 19 S29 ?_
  refine vD ?_
  go_wp2_with fail
  go_ret
  exact ⟨rfl, (bC (bC (bC (bC (bC (bC (bC (bC (bC (bA (bA (bA (Below.refl _ _) _) _) _) b1) b2) kz3) b24) (bC (bA (Below.refl _ _) _) b25)) b26) b27) b28) b29)⟩



end Go.Proofs.YtjnohbpebdnngaaGreatDoor
