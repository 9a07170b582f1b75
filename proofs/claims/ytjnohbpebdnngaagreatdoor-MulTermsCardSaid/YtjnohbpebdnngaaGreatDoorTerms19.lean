/-
  The walk of the statement MulTerms.
-/
import Derived.Test.YtjnohbpebdnngaaGreatDoorW2
import Derived.Test.YtjnohbpebdnngaaGreatDoorGaB
import Derived.Test.YtjnohbpebdnngaaGreatDoorGfA
import Derived.Test.YtjnohbpebdnngaaGreatDoorGhA
import Derived.Test.YtjnohbpebdnngaaGreatDoorGaA
import Derived.Test.YtjnohbpebdnngaaGreatDoorGoes19
set_option linter.unusedVariables false
set_option linter.unusedSimpArgs false
set_option maxRecDepth 100000
namespace Go.Proofs.YtjnohbpebdnngaaGreatDoor
open Go.RowKit
attribute [local go_sem ↓] Go.wp_at_zero Go.wp_at_succ

set_option maxHeartbeats 4000000 in
theorem terms19_core (ca cb ea eb xh xl yh yl e s0 s1 s2 s3 : Int) (sa sb i : Bool)
    (h0 : Hid (∀ w, Ca 14 #[.agg #[.bool sa, .int .u8 ca, .int .i64 ea, .int .u64 xh, .int .u64 xl], .agg #[.bool sb, .int .u8 cb, .int .i64 eb, .int .u64 yh, .int .u64 yl]] w (.tuple #[.int .i64 e, U4 s0 s1 s2 s3])))
    (h1 : Hid (∀ w, Ca 15 #[.agg #[.bool sa, .int .u8 ca, .int .i64 ea, .int .u64 xh, .int .u64 xl], .agg #[.bool sb, .int .u8 cb, .int .i64 eb, .int .u64 yh, .int .u64 yl]] w (.tuple #[.int .i64 e, U4 s0 s1 s2 s3])))
    (h2 : Hid (∀ w, Ca 16 #[.agg #[.bool sa, .int .u8 ca, .int .i64 ea, .int .u64 xh, .int .u64 xl], .agg #[.bool sb, .int .u8 cb, .int .i64 eb, .int .u64 yh, .int .u64 yl]] w (.bool i)))
    (h3 : Hid (∀ w, Ca 17 #[.int .u8 ca, .int .u8 cb] w (.bool i)))
    (h4 : Hid (∀ w, FTab w → Ca 13 #[] w (.bool true))) (w : World) (ft : FTab w) :
    Ca 4 #[.agg #[.bool sa, .int .u8 ca, .int .i64 ea, .int .u64 xh, .int .u64 xl], .agg #[.bool sb, .int .u8 cb, .int .i64 eb, .int .u64 yh, .int .u64 yl]] w (.bool true) := by
  simp only [Ca, U4] at *
  have EQ := eqw19 s0 s1 s2 s3
  go_enter Tryz.func4, Tryz.ntmps4
  go_wp2_with fail
  refine vM (h0.out _) fun w1 b1 => ?_
  have X0 := ((HB.newAt (b := w.heap.size) (by simp) _ _).alloc _).later b1
  have X1 := (HB.newAt (b := w.heap.size + 1) (by simp) _ _).later b1
  have oX0 := X0.o
  have oX1 := X1.o
  go_wp2_with fail
  refine vM (h1.out _) fun w2 b2 => ?_
  have X2 := (HB.newAt (b := w1.heap.size) (by simp) _ _).later b2
  clear oX0 oX1
  go_wp2_with fail
  refine vF1 fun w3 b3 X3 => ?_
  replace X0 := X0.later (bC (bC (bA (Below.refl _ _) _) b2) b3)
  replace X1 := X1.later (bC (bC (bA (Below.refl _ _) _) b2) b3)
  replace X2 := X2.later b3
  refine vR [] fun w4 b4 S4 => ?_
  refine vT 0 S4 ?_
  refine vT 1 S4 ?_
  refine vT 2 S4 ?_
  refine vT 3 S4 ?_
  refine vT 4 S4 ?_ (hy := by intro wq hb; have q := (hb.hb X2 (by simp)).o; go_simp; try (with_reducible rfl))
  refine vT 5 S4 ?_ (hy := by intro wq hb; have q := (hb.hb X3 (by simp)).o; go_simp; try (with_reducible rfl))
  refine vT 6 S4 ?_
  refine vT 7 S4 ?_
  refine vT 8 S4 ?_
  refine vT 9 S4 ?_ (hy := by intro wq hb; have q := (hb.hb X0 (by simp)).o; go_simp; try (with_reducible rfl))
  refine vT 10 S4 ?_ (hy := by intro wq hb; have q := (hb.hb X1 (by simp)).o; go_simp; try (with_reducible rfl))
  refine vT 12 S4 ?_
  refine vT 13 S4 ?_ (hy := by intro wq hb; have q := (hb.hb X0 (by simp)).o; go_simp; try (with_reducible rfl))
  refine vT 14 S4 ?_
  refine vT 15 S4 ?_ (hy := by intro wq hb; have q := (hb.hb X1 (by simp)).o; go_simp; try (with_reducible rfl))
  refine vY1 (vC 11 S4 (h2.out _) (fun _ _ => Off.later) fun w5 b5 S5 => ?_)
  refine vY1 (vC 16 S5 (h3.out _) (fun _ _ => Off.later) fun w6 b6 S6 => ?_)
  refine vT 17 S6 ?_
  refine vT 18 S6 ?_
  refine vT 19 S6 ?_
  refine vY1 (vC 20 S6 (h4.out _ (ft.later (bC (bC (bC (bC (bC (bC (bA (bA (Below.refl _ _) _) _) b1) (bC (bA (Below.refl _ _) _) b2)) b3) b4) b5) b6))) (fun _ _ => Off.later) fun w7 b7 S7 => ?_)
  refine vT 21 S7 ?_
  refine vT 22 S7 ?_
  refine vD ?_
  go_wp2_with fail
  go_ret
  exact ⟨rfl, (bC (bC (bC (bC (bC (bC (bC (bA (bA (Below.refl _ _) _) _) b1) (bC (bA (Below.refl _ _) _) b2)) b3) b4) b5) b6) b7)⟩



end Go.Proofs.YtjnohbpebdnngaaGreatDoor
