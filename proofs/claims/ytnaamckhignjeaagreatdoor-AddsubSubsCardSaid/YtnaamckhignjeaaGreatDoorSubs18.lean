/-
  The walk of the statement AddsubSubs.
-/
import Derived.Test.YtnaamckhignjeaaGreatDoorAdd18M
import Derived.Test.YtnaamckhignjeaaGreatDoorW2
import Derived.Test.YtnaamckhignjeaaGreatDoorGfA
import Derived.Test.YtnaamckhignjeaaGreatDoorGhA
import Derived.Test.YtnaamckhignjeaaGreatDoorGaA
import Derived.Test.YtnaamckhignjeaaGreatDoorGoes18
set_option linter.unusedVariables false
set_option linter.unusedSimpArgs false
set_option maxRecDepth 100000
namespace Go.Proofs.YtnaamckhignjeaaGreatDoor
open Go.RowKit
attribute [local go_sem ↓] Go.wp_at_zero Go.wp_at_succ

set_option maxHeartbeats 4000000 in
theorem subs18_core (f m ah al bh bl ex FR qh ql rh rl fl : Int) (t ng x y : Bool)
    (h2 : Hid (∀ w, FTab w → Ca 16 #[.int .u8 f, .agg #[.int .u8 m, .bool t], U2 ah al, U2 bh bl] w (.agg #[.int .u64 rh, .int .u64 rl, .int .u8 fl])))
    (h3 : Hid (∀ w, Ca 12 #[.int .u8 f, .agg #[.int .u8 m, .bool t], U2 ah al, U2 bh bl, .bool true] w (.agg #[.int .u64 rh, .int .u64 rl, .int .u8 fl])))
    (h4 : Hid (∀ w, FTab w → Ca 17 #[.int .u8 f, U2 bh bl] w (U2 qh ql))) (RS : Hid (∀ w, Calls Tryz.prog 14 #[.int .u8 f, U2 bh bl] w fun e w' => ∃ v, e = .returned (.tuple #[.bool ng, .int .i64 ex, v]) ∧ IsNum w' v FR ∧ Below w.heap.size w w')) (MK : Hid (∀ w v, IsNum w v FR → Ca 15 #[.int .u8 f, .bool (!ng), .int .i64 ex, v] w (U2 qh ql)))
    (HH : ((x = true) ∧ (y = true) ∧ Hid (∀ w, Ca 18 #[.agg #[.int .u8 m, .bool t], .bool x, .bool y] w (.bool true)) ∧ Hid (∀ w, FTab w → Ca 13 #[] w (.bool true))) ∨ ((x = false) ∧ (y = false) ∧ Hid (∀ w, Ca 18 #[.agg #[.int .u8 m, .bool t], .bool x, .bool y] w (.bool false)) ∧ Hid (∀ w, FTab w → Ca 13 #[] w (.bool true))) ∨ ((x = true) ∧ (y = false) ∧ Hid (∀ w, Ca 18 #[.agg #[.int .u8 m, .bool t], .bool x, .bool y] w (.bool ((m == 3)))) ∧ Hid (∀ w, FTab w → Ca 13 #[] w (.bool true))) ∨ ((x = false) ∧ (y = true) ∧ Hid (∀ w, Ca 18 #[.agg #[.int .u8 m, .bool t], .bool x, .bool y] w (.bool ((m == 3)))) ∧ Hid (∀ w, FTab w → Ca 13 #[] w (.bool true)))) (w : World) (ft : FTab w) :
    Ca 4 #[.int .u8 f, .agg #[.int .u8 m, .bool t], U2 ah al, U2 bh bl, .bool x, .bool y] w (.bool true) := by
  simp only [Ca, U2] at *
  have EQ := eqr18 rh rl fl
  have EB := eqb18 qh ql
  go_enter Tryz.func4, Tryz.ntmps4
  go_wp2_with fail
  refine vE (RS.out _) fun v1 w1 nv1 b1 => ?_
  have X0 := (((HB.newAt (b := w.heap.size) (by simp) _ _).alloc _).alloc _).later b1
  have X1 := ((HB.newAt (b := w.heap.size + 1) (by simp) _ _).alloc _).later b1
  have X2 := (HB.newAt (b := w.heap.size + 1 + 1) (by simp) _ _).later b1
  go_wp2_with fail
  refine vM (MK.out _ _ nv1) fun w2 b2 => ?_
  clear nv1
  go_wp2_with fail
  refine vF1 fun w3 b3 X3 => ?_
  replace X0 := X0.later (bC b2 b3)
  replace X1 := X1.later (bC b2 b3)
  replace X2 := X2.later (bC b2 b3)
  refine vR [] fun w4 b4 S4 => ?_
  refine vT 0 S4 ?_
  refine vT 1 S4 ?_ (hy := by intro wq hb; have q := (hb.hb X0 (by simp)).o; go_simp; try (with_reducible rfl))
  refine vT 2 S4 ?_ (hy := by intro wq hb; have q := (hb.hb X1 (by simp)).o; go_simp; try (with_reducible rfl))
  refine vT 3 S4 ?_ (hy := by intro wq hb; have q := (hb.hb X2 (by simp)).o; go_simp; try (with_reducible rfl))
  refine vT 5 S4 ?_
  refine vT 6 S4 ?_ (hy := by intro wq hb; have q := (hb.hb X0 (by simp)).o; go_simp; try (with_reducible rfl))
  refine vT 7 S4 ?_ (hy := by intro wq hb; have q := (hb.hb X1 (by simp)).o; go_simp; try (with_reducible rfl))
  refine vT 8 S4 ?_ (hy := by intro wq hb; have q := (hb.hb X2 (by simp)).o; go_simp; try (with_reducible rfl))
  refine vY1 (vC 4 S4 (h2.out _ (ft.later (bC (bC (bC (bC (bA (bA (bA (Below.refl _ _) _) _) _) b1) b2) b3) b4))) (fun _ _ => Off.later) fun w5 b5 S5 => ?_)
  refine vY1 (vC 9 S5 (h3.out _) (fun _ _ => Off.later) fun w6 b6 S6 => ?_)
  refine vT 10 S6 ?_
  refine vT 11 S6 ?_
  refine vT 12 S6 ?_
  refine vT 13 S6 ?_ (hy := by intro wq hb; have q := (hb.hb X2 (by simp)).o; go_simp; try (with_reducible rfl))
  refine vT 15 S6 ?_ (hy := by intro wq hb; have q := (hb.hb X3 (by simp)).o; go_simp; try (with_reducible rfl))
  refine vY1 (vC 14 S6 (h4.out _ (ft.later (bC (bC (bC (bC (bC (bC (bA (bA (bA (Below.refl _ _) _) _) _) b1) b2) b3) b4) b5) b6))) (fun _ _ => Off.later) fun w7 b7 S7 => ?_)
  refine vT 16 S7 ?_
  refine vT 17 S7 ?_
  refine vT 18 S7 ?_
  refine vT 19 S7 ?_ (hy := by intro wq hb; have q := (hb.hb X0 (by simp)).o; go_simp; try (with_reducible rfl))
  refine vT 20 S7 ?_
  refine vT 21 S7 ?_
  refine vT 23 S7 ?_
  rcases HH with ⟨rfl, rfl, h5, h6⟩ | ⟨rfl, rfl, h5, h6⟩ | ⟨rfl, rfl, h5, h6⟩ | ⟨rfl, rfl, h5, h6⟩
  · refine vY1 (vC 22 S7 (h5.out _) (fun _ _ => Off.later) fun w8 b8 S8 => ?_)
    refine vT 24 S8 ?_
    refine vT 25 S8 ?_
    refine vT 26 S8 ?_
    refine vT 27 S8 ?_
    refine vN 28 S8 ?_
    refine vN 29 S8 ?_
    refine vN 30 S8 ?_
    refine vN 31 S8 ?_
    refine vN 32 S8 ?_
    refine vN 33 S8 ?_
    refine vN 34 S8 ?_
    refine vN 35 S8 ?_
    refine vT 36 S8 ?_
    refine vT 37 S8 ?_
    refine vT 38 S8 ?_
    refine vT 39 S8 ?_
    refine vY1 (vC 40 S8 (h6.out _ (ft.later (bC (bC (bC (bC (bC (bC (bC (bC (bA (bA (bA (Below.refl _ _) _) _) _) b1) b2) b3) b4) b5) b6) b7) b8))) (fun _ _ => Off.later) fun w9 b9 S9 => ?_)
    refine vT 41 S9 ?_
    refine vT 42 S9 ?_
    refine vD ?_
    go_wp2_with fail
    go_ret
    exact ⟨rfl, (bC (bC (bC (bC (bC (bC (bC (bC (bC (bA (bA (bA (Below.refl _ _) _) _) _) b1) b2) b3) b4) b5) b6) b7) b8) b9)⟩
  · refine vY1 (vC 22 S7 (h5.out _) (fun _ _ => Off.later) fun w8 b8 S8 => ?_)
    refine vT 24 S8 ?_
    refine vN 25 S8 ?_
    refine vT 26 S8 ?_
    refine vT 27 S8 ?_
    refine vT 28 S8 ?_
    refine vT 29 S8 ?_
    refine vT 30 S8 ?_
    refine vT 31 S8 ?_
    refine vN 32 S8 ?_
    refine vN 33 S8 ?_
    refine vN 34 S8 ?_
    refine vT 35 S8 ?_
    refine vT 36 S8 ?_
    refine vT 37 S8 ?_
    refine vT 38 S8 ?_
    refine vT 39 S8 ?_
    refine vY1 (vC 40 S8 (h6.out _ (ft.later (bC (bC (bC (bC (bC (bC (bC (bC (bA (bA (bA (Below.refl _ _) _) _) _) b1) b2) b3) b4) b5) b6) b7) b8))) (fun _ _ => Off.later) fun w9 b9 S9 => ?_)
    refine vT 41 S9 ?_
    refine vT 42 S9 ?_
    refine vD ?_
    go_wp2_with fail
    go_ret
    exact ⟨rfl, (bC (bC (bC (bC (bC (bC (bC (bC (bC (bA (bA (bA (Below.refl _ _) _) _) _) b1) b2) b3) b4) b5) b6) b7) b8) b9)⟩
  · refine vY1 (vC 22 S7 (h5.out _) (fun _ _ => Off.later) fun w8 b8 S8 => ?_)
    refine vT 24 S8 ?_
    refine vT 25 S8 ?_
    refine vT 26 S8 ?_
    refine vT 27 S8 ?_
    refine vT 28 S8 ?_
    refine vT 29 S8 ?_
    refine vT 30 S8 ?_
    refine vT 31 S8 ?_
    refine vT 32 S8 ?_
    refine vT 33 S8 ?_ (hy := by intro wq hb; have q := (hb.hb X0 (by simp)).o; go_simp; try (with_reducible rfl))
    refine vT 34 S8 ?_
    refine vT 35 S8 ?_
    refine vT 36 S8 ?_
    refine vT 37 S8 ?_
    refine vT 38 S8 ?_
    refine vT 39 S8 ?_
    refine vY1 (vC 40 S8 (h6.out _ (ft.later (bC (bC (bC (bC (bC (bC (bC (bC (bA (bA (bA (Below.refl _ _) _) _) _) b1) b2) b3) b4) b5) b6) b7) b8))) (fun _ _ => Off.later) fun w9 b9 S9 => ?_)
    refine vT 41 S9 ?_
    refine vT 42 S9 ?_
    refine vD ?_
    go_wp2_with fail
    go_ret
    exact ⟨rfl, (bC (bC (bC (bC (bC (bC (bC (bC (bC (bA (bA (bA (Below.refl _ _) _) _) _) b1) b2) b3) b4) b5) b6) b7) b8) b9)⟩
  · refine vY1 (vC 22 S7 (h5.out _) (fun _ _ => Off.later) fun w8 b8 S8 => ?_)
    refine vT 24 S8 ?_
    refine vN 25 S8 ?_
    refine vT 26 S8 ?_
    refine vT 27 S8 ?_
    refine vT 28 S8 ?_
    refine vT 29 S8 ?_
    refine vT 30 S8 ?_
    refine vT 31 S8 ?_
    refine vT 32 S8 ?_
    refine vT 33 S8 ?_ (hy := by intro wq hb; have q := (hb.hb X0 (by simp)).o; go_simp; try (with_reducible rfl))
    refine vT 34 S8 ?_
    refine vT 35 S8 ?_
    refine vT 36 S8 ?_
    refine vT 37 S8 ?_
    refine vT 38 S8 ?_
    refine vT 39 S8 ?_
    refine vY1 (vC 40 S8 (h6.out _ (ft.later (bC (bC (bC (bC (bC (bC (bC (bC (bA (bA (bA (Below.refl _ _) _) _) _) b1) b2) b3) b4) b5) b6) b7) b8))) (fun _ _ => Off.later) fun w9 b9 S9 => ?_)
    refine vT 41 S9 ?_
    refine vT 42 S9 ?_
    refine vD ?_
    go_wp2_with fail
    go_ret
    exact ⟨rfl, (bC (bC (bC (bC (bC (bC (bC (bC (bC (bA (bA (bA (Below.refl _ _) _) _) _) b1) b2) b3) b4) b5) b6) b7) b8) b9)⟩



end Go.Proofs.YtnaamckhignjeaaGreatDoor
