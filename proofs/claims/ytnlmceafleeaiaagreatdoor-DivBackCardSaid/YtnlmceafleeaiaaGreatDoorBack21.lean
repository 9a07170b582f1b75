import Derived.Test.YtnlmceafleeaiaaGreatDoorGwA
import Derived.Test.YtnlmceafleeaiaaGreatDoorGaB
import Derived.Test.YtnlmceafleeaiaaGreatDoorGfA
import Derived.Test.YtnlmceafleeaiaaGreatDoorGhA
import Derived.Test.YtnlmceafleeaiaaGreatDoorGaA
import Derived.Test.YtnlmceafleeaiaaGreatDoorGoes21
set_option maxHeartbeats 4000000
set_option linter.unusedVariables false
set_option linter.unusedSimpArgs false
set_option maxRecDepth 100000
namespace Go.Proofs.YtnlmceafleeaiaaGreatDoor
open Go.RowKit
attribute [local go_sem ↓] Go.wp_at_zero Go.wp_at_succ
theorem back21_no1 (f ah al bh bl : Int)
    (h0 : Hid (∀ w, FTab w → Ca 13 #[.int .u8 f, U2 ah al] w (.bool false)))
    (h2 : Hid (∀ w, FTab w → Ca 12 #[] w (.bool true))) (w : World) (ft : FTab w) :
    Ca 4 #[.int .u8 f, U2 ah al, U2 bh bl] w (.bool true) := by
  simp only [Ca, U2] at *
  go_enter Tryz.func4, Tryz.ntmps4
  go_wp2_with fail
  refine vM (h0.out _ (ft.later (bA (bA (bA bR _) _) _))) fun w1 b1 => ?_
  go_wp2_with fail
  refine vM (h2.out _ (ft.later (bC (bA (bA (bA bR _) _) _) b1))) fun w2 b2 => ?_
  go_wp2_with fail
  go_ret
  exact ⟨rfl, (bC (bC (bA (bA (bA bR _) _) _) b1) b2)⟩
theorem back21_no2 (f ah al bh bl : Int)
    (h0 : Hid (∀ w, FTab w → Ca 13 #[.int .u8 f, U2 ah al] w (.bool true)))
    (h1 : Hid (∀ w, FTab w → Ca 13 #[.int .u8 f, U2 bh bl] w (.bool false)))
    (h2 : Hid (∀ w, FTab w → Ca 12 #[] w (.bool true))) (w : World) (ft : FTab w) :
    Ca 4 #[.int .u8 f, U2 ah al, U2 bh bl] w (.bool true) := by
  simp only [Ca, U2] at *
  go_enter Tryz.func4, Tryz.ntmps4
  go_wp2_with fail
  refine vM (h0.out _ (ft.later (bA (bA (bA bR _) _) _))) fun w1 b1 => ?_
  have X1 := ((HB.newAt (b := w.heap.size + 1) (by simp) _ _).alloc _).later b1
  have oX1 := X1.o
  go_wp2_with fail
  refine vM (h1.out _ (ft.later (bC (bA (bA (bA bR _) _) _) b1))) fun w2 b2 => ?_
  clear oX1
  go_wp2_with fail
  refine vM (h2.out _ (ft.later (bC (bC (bA (bA (bA bR _) _) _) b1) b2))) fun w3 b3 => ?_
  go_wp2_with fail
  go_ret
  exact ⟨rfl, (bC (bC (bC (bA (bA (bA bR _) _) _) b1) b2) b3)⟩
theorem back21_first (f ah al bh bl qf c d ka ek nl nh rf of qh ql rh rl th tl vh vl oh ol : Int) (cn na sg eo : Bool)
    (h0 : Hid (∀ w, FTab w → Ca 13 #[.int .u8 f, U2 ah al] w (.bool true)))
    (h1 : Hid (∀ w, FTab w → Ca 13 #[.int .u8 f, U2 bh bl] w (.bool true)))
    (h2 : Hid (∀ w, FTab w → Ca 10 #[.int .u8 f, .agg #[.int .u8 4, .bool false], U2 ah al, U2 bh bl] w (.agg #[.int .u64 qh, .int .u64 ql, .int .u8 qf])))
    (h3 : Hid (∀ w, FTab w → Ca 14 #[.int .u8 f, U2 qh ql] w (.tuple #[.int .u8 c, .bool cn])))
    (HH : (((qf == 0) = true) ∧ Hid (∀ w, FTab w → Ca 15 #[.int .u8 f, .agg #[.int .u8 4, .bool false], U2 qh ql, U2 bh bl] w (.agg #[.int .u64 rh, .int .u64 rl, .int .u8 rf])) ∧ Hid (∀ w, FTab w → Ca 16 #[.int .u8 f, U2 ah al] w (U2 rh rl)) ∧ Hid (∀ w, FTab w → Ca 12 #[] w (.bool true))) ∨ (((qf == 0) = false) ∧ ((c != 2) = true) ∧ Hid (∀ w, FTab w → Ca 12 #[] w (.bool true))) ∨ (((qf == 0) = false) ∧ ((c != 2) = false) ∧ ((qf != 16) = true) ∧ Hid (∀ w, FTab w → Ca 12 #[] w (.bool true)))) (w : World) (ft : FTab w) :
    Ca 4 #[.int .u8 f, U2 ah al, U2 bh bl] w (.bool true) := by
  simp only [Ca, U2] at *
  have EQ := eqb21 rh rl
  go_enter Tryz.func4, Tryz.ntmps4
  go_wp2_with fail
  refine vM (h0.out _ (ft.later (bA (bA (bA bR _) _) _))) fun w1 b1 => ?_
  have X0 := (((HB.newAt (b := w.heap.size) (by simp) _ _).alloc _).alloc _).later b1
  have X1 := ((HB.newAt (b := w.heap.size + 1) (by simp) _ _).alloc _).later b1
  have X2 := (HB.newAt (b := w.heap.size + 1 + 1) (by simp) _ _).later b1
  have oX1 := X1.o
  go_wp2_with fail
  refine vM (h1.out _ (ft.later (bC (bA (bA (bA bR _) _) _) b1))) fun w2 b2 => ?_
  clear oX1
  replace X2 := X2.later b2
  have oX2 := X2.o
  replace X0 := X0.later b2
  have oX0 := X0.o
  replace X1 := X1.later b2
  have oX1 := X1.o
  go_wp2_with fail
  refine vM (h2.out _ (ft.later (bC (bC (bA (bA (bA bR _) _) _) b1) b2))) fun w3 b3 => ?_
  clear oX2 oX0 oX1
  go_wp2_with fail
  refine vM (h3.out _ (ft.later (bA (bC (bC (bC (bA (bA (bA bR _) _) _) b1) b2) b3) _))) fun w4 b4 => ?_
  have X3 := (HB.newAt (b := w3.heap.size) (by simp) _ _).later b4
  have oX3 := X3.o
  rcases HH with ⟨g0, h4, h5, h6⟩ | ⟨g0, g1, h4⟩ | ⟨g0, g1, g2, h4⟩
  · go_wp2_with fail
    clear oX3
    have hfd1 : ∀ w : World, (Instr.field 31 (.agg #[.int .u64 rh, .int .u64 rl, .int .u8 rf]) 0).run Tryz.prog w = .ok (.agg #[.int .u64 rh, .int .u64 rl]) w := fun _ => by kernel_rfl
    replace X0 := X0.later (bC b3 (bC (bA bR _) b4))
    replace X1 := X1.later (bC b3 (bC (bA bR _) b4))
    replace X2 := X2.later (bC b3 (bC (bA bR _) b4))
    refine vR [] fun w5 b5 S5 => ?_
    refine vT 0 S5 ?_
    refine vT 1 S5 ?_ (hy := by intro wq hb; have q := (hb.hb X2 (by simp)).o; go_simp; try (with_reducible rfl))
    refine vT 2 S5 ?_
    refine vT 3 S5 ?_ (hy := by intro wq hb; have q := (hb.hb X3 (by simp)).o; go_simp; try (with_reducible rfl))
    refine vT 4 S5 ?_ (hy := by intro wq hb; have q := (hb.hb X1 (by simp)).o; go_simp; try (with_reducible rfl))
    refine vT 7 S5 ?_
    refine vT 8 S5 ?_ (hy := by intro wq hb; have q := (hb.hb X0 (by simp)).o; go_simp; try (with_reducible rfl))
    refine vY1 (vC 5 S5 (h4.out _ (ft.later (bC (bC (bC (bC (bC (bA (bA (bA bR _) _) _) b1) b2) b3) (bC (bA bR _) b4)) b5))) (fun _ _ => Off.later) fun w6 b6 S6 => ?_)
    refine vT 6 S6 ?_
    refine vY1 (vC 9 S6 (h5.out _ (ft.later (bC (bC (bC (bC (bC (bC (bA (bA (bA bR _) _) _) b1) b2) b3) (bC (bA bR _) b4)) b5) b6))) (fun _ _ => Off.later) fun w7 b7 S7 => ?_)
    refine vT 10 S7 ?_
    refine vT 11 S7 ?_
    refine vY1 (vC 12 S7 (h6.out _ (ft.later (bC (bC (bC (bC (bC (bC (bC (bA (bA (bA bR _) _) _) b1) b2) b3) (bC (bA bR _) b4)) b5) b6) b7))) (fun _ _ => Off.later) fun w8 b8 S8 => ?_)
    refine vT 13 S8 ?_
    refine vT 14 S8 ?_
    refine vD ?_
    go_wp2_with fail
    go_ret
    exact ⟨rfl, (bC (bC (bC (bC (bC (bC (bC (bC (bA (bA (bA bR _) _) _) b1) b2) b3) (bC (bA bR _) b4)) b5) b6) b7) b8)⟩
  · go_wp2_with fail
    refine vM (h4.out _ (ft.later (bC (bC (bC (bC (bA (bA (bA bR _) _) _) b1) b2) b3) (bC (bA bR _) b4)))) fun w5 b5 => ?_
    clear oX3
    go_wp2_with fail
    go_ret
    exact ⟨rfl, (bC (bC (bC (bC (bC (bA (bA (bA bR _) _) _) b1) b2) b3) (bC (bA bR _) b4)) b5)⟩
  · go_wp2_with fail
    refine vM (h4.out _ (ft.later (bC (bC (bC (bC (bA (bA (bA bR _) _) _) b1) b2) b3) (bC (bA bR _) b4)))) fun w5 b5 => ?_
    clear oX3
    go_wp2_with fail
    go_ret
    exact ⟨rfl, (bC (bC (bC (bC (bC (bA (bA (bA bR _) _) _) b1) b2) b3) (bC (bA bR _) b4)) b5)⟩
end Go.Proofs.YtnlmceafleeaiaaGreatDoor
