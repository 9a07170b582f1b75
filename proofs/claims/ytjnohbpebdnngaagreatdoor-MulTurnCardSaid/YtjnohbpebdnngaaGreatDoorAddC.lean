/-
  Walks through package addsub's functions.
-/
import Derived.Test.YtjnohbpebdnngaaGreatDoorAdd18M
import Derived.Test.YtjnohbpebdnngaaGreatDoorW2
import Derived.Test.YtjnohbpebdnngaaGreatDoorGjB
import Derived.Test.YtjnohbpebdnngaaGreatDoorPackG
import Derived.Test.YtjnohbpebdnngaaGreatDoorMagG
import Derived.Test.YtjnohbpebdnngaaGreatDoorGeB
import Derived.Test.YtjnohbpebdnngaaGreatDoorGhA
import Derived.Test.YtjnohbpebdnngaaGreatDoorGaA
import Derived.Test.YtjnohbpebdnngaaGreatDoorGaB
set_option linter.unusedVariables false
set_option linter.unusedSimpArgs false
set_option maxRecDepth 100000
namespace Go.Proofs.YtjnohbpebdnngaaGreatDoor
open Go.RowKit
attribute [local go_sem ↓] Go.wp_at_zero Go.wp_at_succ

set_option maxHeartbeats 4000000 in
theorem ad_opposed_a (ca cb ea eb xh xl yh yl : Int) (sa sb : Bool)
     (g1 : (ca == 3) = false) (w : World) :
    Ca 71 #[.agg #[.bool sa, .int .u8 ca, .int .i64 ea, .int .u64 xh, .int .u64 xl], .agg #[.bool sb, .int .u8 cb, .int .i64 eb, .int .u64 yh, .int .u64 yl]] w (.bool false) := by
  simp only [Ca] at *
  go_enter Tryz.func71, Tryz.ntmps71
  go_wp2_with fail
  go_ret
  exact ⟨rfl, (bA (bA (Below.refl _ _) _) _)⟩

set_option maxHeartbeats 4000000 in
theorem ad_opposed_b (cb ea eb xh xl yh yl : Int) (sa sb : Bool)
     (g1 : (cb == 3) = false) (w : World) :
    Ca 71 #[.agg #[.bool sa, .int .u8 3, .int .i64 ea, .int .u64 xh, .int .u64 xl], .agg #[.bool sb, .int .u8 cb, .int .i64 eb, .int .u64 yh, .int .u64 yl]] w (.bool false) := by
  simp only [Ca] at *
  go_enter Tryz.func71, Tryz.ntmps71
  go_wp2_with fail
  go_ret
  exact ⟨rfl, (bA (bA (Below.refl _ _) _) _)⟩

set_option maxHeartbeats 4000000 in
theorem ad_opposed_c (ea eb xh xl yh yl : Int) (sa sb : Bool)
     (w : World) :
    Ca 71 #[.agg #[.bool sa, .int .u8 3, .int .i64 ea, .int .u64 xh, .int .u64 xl], .agg #[.bool sb, .int .u8 3, .int .i64 eb, .int .u64 yh, .int .u64 yl]] w (.bool ((sa != sb))) := by
  simp only [Ca] at *
  go_enter Tryz.func71, Tryz.ntmps71
  go_wp2_with fail
  go_ret
  exact ⟨rfl, (bA (bA (Below.refl _ _) _) _)⟩

set_option maxHeartbeats 4000000 in
theorem ad_nought_same (m : Int) (t a b : Bool)
     (g1 : (a == b) = true) (w : World) :
    Ca 73 #[.agg #[.int .u8 m, .bool t], .bool a, .bool b] w (.bool a) := by
  simp only [Ca] at *
  go_enter Tryz.func73, Tryz.ntmps73
  go_wp2_with fail
  go_ret
  exact ⟨rfl, (bA (Below.refl _ _) _)⟩

set_option maxHeartbeats 4000000 in
theorem ad_nought_diff (m : Int) (t a b : Bool)
     (g1 : (a == b) = false) (w : World) :
    Ca 73 #[.agg #[.int .u8 m, .bool t], .bool a, .bool b] w (.bool ((m == 3))) := by
  simp only [Ca] at *
  go_enter Tryz.func73, Tryz.ntmps73
  go_wp2_with fail
  go_ret
  exact ⟨rfl, (bA (Below.refl _ _) _)⟩

set_option maxHeartbeats 4000000 in
theorem ad_turn (f ex bh bl qh ql rh rl : Int) (ng : Bool)
    (h0 : Hid (∀ w, FTab w → Ca 52 #[.int .u8 f, U2 bh bl] w (.tuple #[.bool ng, .int .i64 ex, U2 qh ql])))
    (h1 : Hid (∀ w, FTab w → Ca 28 #[.int .u8 f, .bool (!ng), .int .i64 ex, U2 qh ql] w (U2 rh rl))) (w : World) (ft : FTab w) :
    Ca 27 #[.int .u8 f, U2 bh bl] w (U2 rh rl) := by
  simp only [Ca, U2] at *
  go_enter Tryz.func27, Tryz.ntmps27
  go_wp2_with fail
  refine vM (h0.out _ (ft.later (bA (bA (Below.refl _ _) _) _))) fun w1 b1 => ?_
  have gX1 : w.heap.size ≤ w.heap.size + 1 := by omega
  have X1 := (HB.newAt (b := w.heap.size + 1) (by simp) _ _).later b1
  go_wp2_with fail
  refine vM (h1.out _ (ft.later (bA (bC (bA (bA (Below.refl _ _) _) _) b1) _))) fun w2 b2 => ?_
  replace X1 := X1.later (bC (bA (Below.refl _ _) _) b2)
  have oX1 := X1.o
  go_wp2_with fail
  refine bodyPost_ret (v := .agg #[.int .u64 rh, .int .u64 rl]) ?_ rfl ⟨rfl, (((bC (bC (bA (bA (Below.refl _ _) _) _) b1) (bC (bA (Below.refl _ _) _) b2)).setCell (p := ⟨w.heap.size + 1, 0, none⟩) gX1 _).setCell (p := ⟨w.heap.size + 1, 1, none⟩) gX1 _)⟩
  simp [results, Tryz.results27, go_sem, oX1]

set_option maxHeartbeats 4000000 in
theorem ad_added (ea eb e x0 x1 x2 x3 y0 y1 y2 y3 s0 s1 s2 s3 : Int)
    (h0 : Hid (∀ w, Ca 174 #[T5 ea x0 x1 x2 x3, T5 eb y0 y1 y2 y3] w (T5 e s0 s1 s2 s3))) (w : World) :
    Ca 130 #[T5 ea x0 x1 x2 x3, T5 eb y0 y1 y2 y3] w (.tuple #[T5 e s0 s1 s2 s3, .bool false]) := by
  simp only [Ca, T5] at *
  go_enter Tryz.func130, Tryz.ntmps130
  go_wp2_with fail
  refine vM (h0.out _) fun w1 b1 => ?_
  have gX2 : w.heap.size ≤ w.heap.size + 1 + 1 := by omega
  have X2 := (HB.newAt (b := w.heap.size + 1 + 1) (by simp) _ _).later b1
  have oX2 := X2.o
  go_wp2_with fail
  refine bodyPost_ret (v := .tuple #[.agg #[.int .i64 e, .int .u64 s0, .int .u64 s1, .int .u64 s2, .int .u64 s3], .bool false]) ?_ rfl ⟨rfl, ((((((bC (bA (bA (bA (Below.refl _ _) _) _) _) b1).setCell (p := ⟨w.heap.size + 1 + 1, 0, none⟩) gX2 _).setCell (p := ⟨w.heap.size + 1 + 1, 1, none⟩) gX2 _).setCell (p := ⟨w.heap.size + 1 + 1, 2, none⟩) gX2 _).setCell (p := ⟨w.heap.size + 1 + 1, 3, none⟩) gX2 _).setCell (p := ⟨w.heap.size + 1 + 1, 4, none⟩) gX2 _)⟩
  simp [results, Tryz.results130, go_sem, oX2]

set_option maxHeartbeats 4000000 in
theorem ad_sum1_1 (bx bz : Nat) (ca cb ea eb xh xl yh yl : Int) (sa sb : Bool)
     (g1 : (sa == sb) = true) (w : World) (cX0_0 : w.cell? ⟨bx, 0, none⟩ = some (.bool sa)) (cX1_0 : w.cell? ⟨bz, 0, none⟩ = some (.bool sb)) :
    Ca 129 #[.pointer (some ⟨bx, 0, none⟩), .pointer (some ⟨bz, 0, none⟩)] w (.func (.func 130) #[] #[]) := by
  simp only [Ca] at *
  go_enter Tryz.func129, Tryz.ntmps129
  have oX0 : bx < w.heap.size := World.block_lt_of_cell? _ _ cX0_0
  have oX1 : bz < w.heap.size := World.block_lt_of_cell? _ _ cX1_0
  go_wp2_with fail
  go_ret
  exact ⟨rfl, (Below.refl _ _)⟩

set_option maxHeartbeats 4000000 in
theorem ad_sum1_0 (bx bz : Nat) (ca cb ea eb xh xl yh yl : Int) (sa sb : Bool)
     (g1 : (sa == sb) = false) (w : World) (cX0_0 : w.cell? ⟨bx, 0, none⟩ = some (.bool sa)) (cX1_0 : w.cell? ⟨bz, 0, none⟩ = some (.bool sb)) :
    Ca 129 #[.pointer (some ⟨bx, 0, none⟩), .pointer (some ⟨bz, 0, none⟩)] w (.func (.func 131) #[] #[]) := by
  simp only [Ca] at *
  go_enter Tryz.func129, Tryz.ntmps129
  have oX0 : bx < w.heap.size := World.block_lt_of_cell? _ _ cX0_0
  have oX1 : bz < w.heap.size := World.block_lt_of_cell? _ _ cX1_0
  go_wp2_with fail
  go_ret
  exact ⟨rfl, (Below.refl _ _)⟩

set_option maxHeartbeats 4000000 in
theorem ad_sum_1 (ca cb ea eb e xh xl yh yl s0 s1 s2 s3 : Int) (sa sb tu : Bool)
    (h1 : Hid (∀ w, Ca 132 #[.agg #[.bool sa, .int .u8 ca, .int .i64 ea, .int .u64 xh, .int .u64 xl]] w (T5 ea 0 0 xl xh)))
    (h2 : Hid (∀ w, Ca 132 #[.agg #[.bool sb, .int .u8 cb, .int .i64 eb, .int .u64 yh, .int .u64 yl]] w (T5 eb 0 0 yl yh)))
    (h3 : Hid (∀ w, Ca 130 #[T5 ea 0 0 xl xh, T5 eb 0 0 yl yh] w (.tuple #[T5 e s0 s1 s2 s3, .bool tu]))) (SEL : Hid (∀ bx by_ w, w.cell? ⟨bx, 0, none⟩ = some (.bool sa) → w.cell? ⟨by_, 0, none⟩ = some (.bool sb) → Ca 129 #[.pointer (some ⟨bx, 0, none⟩), .pointer (some ⟨by_, 0, none⟩)] w (.func (.func 130) #[] #[]))) (w : World) :
    Ca 72 #[.agg #[.bool sa, .int .u8 ca, .int .i64 ea, .int .u64 xh, .int .u64 xl], .agg #[.bool sb, .int .u8 cb, .int .i64 eb, .int .u64 yh, .int .u64 yl]] w (.tuple #[T5 e s0 s1 s2 s3, .bool ((!(sa == tu)))]) := by
  simp only [Ca, T5] at *
  go_enter Tryz.func72, Tryz.ntmps72
  go_wp2_with fail
  have gX2 : w.heap.size ≤ w.heap.size + 1 + 1 := by omega
  refine vF3 fun w1 b1 X0 X1 X2 => ?_
  refine vR [] fun w2 kz2 S => ?_
  refine vT 0 S ?_
  refine vT 2 S ?_ (hy := by intro wq hb; have q := (hb.hb X0 (by simp)).o; go_simp; try (with_reducible rfl))
  refine vT 4 S ?_ (hy := by intro wq hb; have q := (hb.hb X1 (by simp)).o; go_simp; try (with_reducible rfl))
  refine vY2 (cC 1 S (SEL.out _ _ _ ((X0.later kz2).cell 0) ((X1.later kz2).cell 0)) fun w3 b3 => ?_) (cA 10 S fun w4 pp1_0 h X3 b4 => ?_)
  replace kz2 := bC kz2 b3
  clear S b3 w2
  revert kz2; revert w3
  refine ?s2_0; rotate_left
  have jX3 := (Nat.le_trans kz2.size h); replace kz2 := bC kz2 b4
  clear S b4 h w2
  revert kz2; revert jX3; revert X3; revert pp1_0; revert w4
  refine ?s2_1; rotate_left
  intro w5 kz2
  have S := Off.ofB kz2
  refine vY2 (cC 3 S (h1.out _) fun w6 b6 => ?_) (cA 10 S fun w7 pp1_0 h X3 b7 => ?_)
  replace kz2 := bC kz2 b6
  clear S b6 w5
  revert kz2; revert w6
  refine ?s2_2; rotate_left
  have jX3 := (Nat.le_trans kz2.size h); replace kz2 := bC kz2 b7
  clear S b7 h w5
  revert kz2; revert jX3; revert X3; revert pp1_0; revert w7
  refine ?s2_3; rotate_left
  intro w8 pp1_0 X3 jX3 kz2
  have S := Off.ofB kz2
  refine vY1 (cC 1 S (SEL.out _ _ _ ((X0.later kz2).cell 0) ((X1.later kz2).cell 0)) fun w9 b9 => ?s2_3 w9 pp1_0 (X3.later b9) jX3 (bC kz2 b9))
  intro w10 kz2
  have S := Off.ofB kz2
  refine vY2 (cC 5 S (h2.out _) fun w11 b11 => ?_) (cA 10 S fun w12 pp1_0 h X3 b12 => ?_)
  replace kz2 := bC kz2 b11
  clear S b11 w10
  revert kz2; revert w11
  refine ?s2_4; rotate_left
  have jX3 := (Nat.le_trans kz2.size h); replace kz2 := bC kz2 b12
  clear S b12 h w10
  revert kz2; revert jX3; revert X3; revert pp1_0; revert w12
  refine ?s2_5; rotate_left
  intro w13 pp1_0 X3 jX3 kz2
  have S := Off.ofB kz2
  refine vY1 (cC 3 S (h1.out _) fun w14 b14 => ?s2_5 w14 pp1_0 (X3.later b14) jX3 (bC kz2 b14))
  intro w15 kz2
  have S := Off.ofB kz2
  refine vY2 (cC 6 S (h3.out _) fun w16 b16 => ?_) (cA 10 S fun w17 pp1_0 h X3 b17 => ?_)
  replace kz2 := bC kz2 b16
  refine vT 7 (Off.ofB kz2) ?_
  refine vT 8 (Off.ofB kz2) ?_
  refine vT 9 (Off.ofB kz2) ?_
  clear S b16 w15
  revert kz2; revert w16
  refine ?s2_6; rotate_left
  have jX3 := (Nat.le_trans kz2.size h); replace kz2 := bC kz2 b17
  clear S b17 h w15
  revert kz2; revert jX3; revert X3; revert pp1_0; revert w17
  refine ?s2_7; rotate_left
  intro w18 pp1_0 X3 jX3 kz2
  have S := Off.ofB kz2
  refine vY1 (cC 5 S (h2.out _) fun w19 b19 => ?s2_7 w19 pp1_0 (X3.later b19) jX3 (bC kz2 b19))
  intro w20 kz2
  have S := Off.ofB kz2
  refine vY1 (cA 10 S fun w21 pp1_0 h X3 b21 => ?_)
  have jX3 := (Nat.le_trans kz2.size h); replace kz2 := bC kz2 b21
  clear S b21 h w20
  revert kz2; revert jX3; revert X3; revert pp1_0; revert w21
  refine ?s2_8; rotate_left
  intro w22 pp1_0 X3 jX3 kz2
  have S := Off.ofB kz2
  refine vY1 (cC 6 S (h3.out _) fun w23 b23 => ?_)
  replace X3 := (X3.later b23); replace kz2 := bC kz2 b23
  refine vT 7 (Off.ofB kz2) ?_
  refine vT 8 (Off.ofB kz2) ?_
  refine vT 9 (Off.ofB kz2) ?_
  clear S b23 w22
  revert kz2; revert jX3; revert X3; revert pp1_0; revert w23
  exact ?s2_8
  intro w24 pp1_0 X3 jX3 kz2
  have S := Off.ofB kz2
  refine vY1 (vO 11 fun K hK => ?_)
  have q := X3.o
  go_simp
  refine vW (fun W => HB W pp1_0 115 #[.int .i64 e, .int .u64 s0, .int .u64 s1, .int .u64 s2, .int .u64 s3] ∧ Below w1.heap.size w1 W) ⟨(((((X3.set 0 _).set 1 _).set 2 _).set 3 _).set 4 _), (((((kz2.setCell (p := ⟨pp1_0, 0, none⟩) jX3 _).setCell (p := ⟨pp1_0, 1, none⟩) jX3 _).setCell (p := ⟨pp1_0, 2, none⟩) jX3 _).setCell (p := ⟨pp1_0, 3, none⟩) jX3 _).setCell (p := ⟨pp1_0, 4, none⟩) jX3 _)⟩ fun w26 hz => ?_
  clear q X3 S kz2 w24; obtain ⟨X3, kz2⟩ := hz
  refine hK.out _ _ (Off.ofB kz2) fun S => ?_; clear hK K S; refine vP ?_
  refine vT 12 (Off.ofB kz2) ?_
  revert kz2; revert jX3; revert X3; revert pp1_0; revert w26
  refine ?s2_9; rotate_left
  intro w27 pp1_0 X3 jX3 kz2
  refine vD ?_
  have nX0_X3 : w.heap.size < pp1_0 := by have := X0.lt; omega
  have nX2_X3 : w.heap.size + 1 + 1 < pp1_0 := by have := X2.lt; omega
  have gX3 : w.heap.size ≤ pp1_0 := by have := b1.size; omega
  go_wp2_with fail
  replace X0 := X0.later kz2
  replace X2 := X2.later kz2
  refine vR [w.heap.size + 1 + 1] fun w28 b28 S28 => ?_
  refine vT 0 S28 ?_ (hy := by intro wq hb; have q := (hb.hb X3 (by simp <;> omega)).o; go_simp; try (with_reducible rfl))
  refine vT 1 S28 ?_
  refine vT 2 S28 ?_ (hy := by intro wq hb; have q := (hb.hb X0 (by simp <;> omega)).o; go_simp; try (with_reducible rfl))
  refine vT 3 S28 ?_
  refine vT 4 S28 ?_
  refine vY1 (vO 5 fun K hK => ?_)
  replace X2 := X2.later b28
  have oX2 := X2.o
  go_simp
  refine hK.out _ _ (Off.set (by simp) (Off.set (by simp) (Off.set (by simp) (Off.set (by simp) (Off.set (by simp) S28))))) fun S29 => ?_
  clear hK K
  refine vP ?_
  refine vT 6 S29 ?_
  refine vD ?_
  go_wp2_with fail
  refine bodyPost_ret (v := .tuple #[.agg #[.int .i64 e, .int .u64 s0, .int .u64 s1, .int .u64 s2, .int .u64 s3], .bool ((!(sa == tu)))]) ?_ rfl ⟨rfl, ((((((bC (bC b1 kz2) b28).setCell (p := ⟨w.heap.size + 1 + 1, 0, none⟩) gX2 _).setCell (p := ⟨w.heap.size + 1 + 1, 1, none⟩) gX2 _).setCell (p := ⟨w.heap.size + 1 + 1, 2, none⟩) gX2 _).setCell (p := ⟨w.heap.size + 1 + 1, 3, none⟩) gX2 _).setCell (p := ⟨w.heap.size + 1 + 1, 4, none⟩) gX2 _)⟩
  simp [results, Tryz.results72, go_sem, oX2]

set_option maxHeartbeats 4000000 in
theorem ad_sum_0 (ca cb ea eb e xh xl yh yl s0 s1 s2 s3 : Int) (sa sb tu : Bool)
    (h1 : Hid (∀ w, Ca 132 #[.agg #[.bool sa, .int .u8 ca, .int .i64 ea, .int .u64 xh, .int .u64 xl]] w (T5 ea 0 0 xl xh)))
    (h2 : Hid (∀ w, Ca 132 #[.agg #[.bool sb, .int .u8 cb, .int .i64 eb, .int .u64 yh, .int .u64 yl]] w (T5 eb 0 0 yl yh)))
    (h3 : Hid (∀ w, Ca 131 #[T5 ea 0 0 xl xh, T5 eb 0 0 yl yh] w (.tuple #[T5 e s0 s1 s2 s3, .bool tu]))) (SEL : Hid (∀ bx by_ w, w.cell? ⟨bx, 0, none⟩ = some (.bool sa) → w.cell? ⟨by_, 0, none⟩ = some (.bool sb) → Ca 129 #[.pointer (some ⟨bx, 0, none⟩), .pointer (some ⟨by_, 0, none⟩)] w (.func (.func 131) #[] #[]))) (w : World) :
    Ca 72 #[.agg #[.bool sa, .int .u8 ca, .int .i64 ea, .int .u64 xh, .int .u64 xl], .agg #[.bool sb, .int .u8 cb, .int .i64 eb, .int .u64 yh, .int .u64 yl]] w (.tuple #[T5 e s0 s1 s2 s3, .bool ((!(sa == tu)))]) := by
  simp only [Ca, T5] at *
  go_enter Tryz.func72, Tryz.ntmps72
  go_wp2_with fail
  have gX2 : w.heap.size ≤ w.heap.size + 1 + 1 := by omega
  refine vF3 fun w1 b1 X0 X1 X2 => ?_
  refine vR [] fun w2 kz2 S => ?_
  refine vT 0 S ?_
  refine vT 2 S ?_ (hy := by intro wq hb; have q := (hb.hb X0 (by simp)).o; go_simp; try (with_reducible rfl))
  refine vT 4 S ?_ (hy := by intro wq hb; have q := (hb.hb X1 (by simp)).o; go_simp; try (with_reducible rfl))
  refine vY2 (cC 1 S (SEL.out _ _ _ ((X0.later kz2).cell 0) ((X1.later kz2).cell 0)) fun w3 b3 => ?_) (cA 10 S fun w4 pp1_0 h X3 b4 => ?_)
  replace kz2 := bC kz2 b3
  clear S b3 w2
  revert kz2; revert w3
  refine ?s2_0; rotate_left
  have jX3 := (Nat.le_trans kz2.size h); replace kz2 := bC kz2 b4
  clear S b4 h w2
  revert kz2; revert jX3; revert X3; revert pp1_0; revert w4
  refine ?s2_1; rotate_left
  intro w5 kz2
  have S := Off.ofB kz2
  refine vY2 (cC 3 S (h1.out _) fun w6 b6 => ?_) (cA 10 S fun w7 pp1_0 h X3 b7 => ?_)
  replace kz2 := bC kz2 b6
  clear S b6 w5
  revert kz2; revert w6
  refine ?s2_2; rotate_left
  have jX3 := (Nat.le_trans kz2.size h); replace kz2 := bC kz2 b7
  clear S b7 h w5
  revert kz2; revert jX3; revert X3; revert pp1_0; revert w7
  refine ?s2_3; rotate_left
  intro w8 pp1_0 X3 jX3 kz2
  have S := Off.ofB kz2
  refine vY1 (cC 1 S (SEL.out _ _ _ ((X0.later kz2).cell 0) ((X1.later kz2).cell 0)) fun w9 b9 => ?s2_3 w9 pp1_0 (X3.later b9) jX3 (bC kz2 b9))
  intro w10 kz2
  have S := Off.ofB kz2
  refine vY2 (cC 5 S (h2.out _) fun w11 b11 => ?_) (cA 10 S fun w12 pp1_0 h X3 b12 => ?_)
  replace kz2 := bC kz2 b11
  clear S b11 w10
  revert kz2; revert w11
  refine ?s2_4; rotate_left
  have jX3 := (Nat.le_trans kz2.size h); replace kz2 := bC kz2 b12
  clear S b12 h w10
  revert kz2; revert jX3; revert X3; revert pp1_0; revert w12
  refine ?s2_5; rotate_left
  intro w13 pp1_0 X3 jX3 kz2
  have S := Off.ofB kz2
  refine vY1 (cC 3 S (h1.out _) fun w14 b14 => ?s2_5 w14 pp1_0 (X3.later b14) jX3 (bC kz2 b14))
  intro w15 kz2
  have S := Off.ofB kz2
  refine vY2 (cC 6 S (h3.out _) fun w16 b16 => ?_) (cA 10 S fun w17 pp1_0 h X3 b17 => ?_)
  replace kz2 := bC kz2 b16
  refine vT 7 (Off.ofB kz2) ?_
  refine vT 8 (Off.ofB kz2) ?_
  refine vT 9 (Off.ofB kz2) ?_
  clear S b16 w15
  revert kz2; revert w16
  refine ?s2_6; rotate_left
  have jX3 := (Nat.le_trans kz2.size h); replace kz2 := bC kz2 b17
  clear S b17 h w15
  revert kz2; revert jX3; revert X3; revert pp1_0; revert w17
  refine ?s2_7; rotate_left
  intro w18 pp1_0 X3 jX3 kz2
  have S := Off.ofB kz2
  refine vY1 (cC 5 S (h2.out _) fun w19 b19 => ?s2_7 w19 pp1_0 (X3.later b19) jX3 (bC kz2 b19))
  intro w20 kz2
  have S := Off.ofB kz2
  refine vY1 (cA 10 S fun w21 pp1_0 h X3 b21 => ?_)
  have jX3 := (Nat.le_trans kz2.size h); replace kz2 := bC kz2 b21
  clear S b21 h w20
  revert kz2; revert jX3; revert X3; revert pp1_0; revert w21
  refine ?s2_8; rotate_left
  intro w22 pp1_0 X3 jX3 kz2
  have S := Off.ofB kz2
  refine vY1 (cC 6 S (h3.out _) fun w23 b23 => ?_)
  replace X3 := (X3.later b23); replace kz2 := bC kz2 b23
  refine vT 7 (Off.ofB kz2) ?_
  refine vT 8 (Off.ofB kz2) ?_
  refine vT 9 (Off.ofB kz2) ?_
  clear S b23 w22
  revert kz2; revert jX3; revert X3; revert pp1_0; revert w23
  exact ?s2_8
  intro w24 pp1_0 X3 jX3 kz2
  have S := Off.ofB kz2
  refine vY1 (vO 11 fun K hK => ?_)
  have q := X3.o
  go_simp
  refine vW (fun W => HB W pp1_0 115 #[.int .i64 e, .int .u64 s0, .int .u64 s1, .int .u64 s2, .int .u64 s3] ∧ Below w1.heap.size w1 W) ⟨(((((X3.set 0 _).set 1 _).set 2 _).set 3 _).set 4 _), (((((kz2.setCell (p := ⟨pp1_0, 0, none⟩) jX3 _).setCell (p := ⟨pp1_0, 1, none⟩) jX3 _).setCell (p := ⟨pp1_0, 2, none⟩) jX3 _).setCell (p := ⟨pp1_0, 3, none⟩) jX3 _).setCell (p := ⟨pp1_0, 4, none⟩) jX3 _)⟩ fun w26 hz => ?_
  clear q X3 S kz2 w24; obtain ⟨X3, kz2⟩ := hz
  refine hK.out _ _ (Off.ofB kz2) fun S => ?_; clear hK K S; refine vP ?_
  refine vT 12 (Off.ofB kz2) ?_
  revert kz2; revert jX3; revert X3; revert pp1_0; revert w26
  refine ?s2_9; rotate_left
  intro w27 pp1_0 X3 jX3 kz2
  refine vD ?_
  have nX0_X3 : w.heap.size < pp1_0 := by have := X0.lt; omega
  have nX2_X3 : w.heap.size + 1 + 1 < pp1_0 := by have := X2.lt; omega
  have gX3 : w.heap.size ≤ pp1_0 := by have := b1.size; omega
  go_wp2_with fail
  replace X0 := X0.later kz2
  replace X2 := X2.later kz2
  refine vR [w.heap.size + 1 + 1] fun w28 b28 S28 => ?_
  refine vT 0 S28 ?_ (hy := by intro wq hb; have q := (hb.hb X3 (by simp <;> omega)).o; go_simp; try (with_reducible rfl))
  refine vT 1 S28 ?_
  refine vT 2 S28 ?_ (hy := by intro wq hb; have q := (hb.hb X0 (by simp <;> omega)).o; go_simp; try (with_reducible rfl))
  refine vT 3 S28 ?_
  refine vT 4 S28 ?_
  refine vY1 (vO 5 fun K hK => ?_)
  replace X2 := X2.later b28
  have oX2 := X2.o
  go_simp
  refine hK.out _ _ (Off.set (by simp) (Off.set (by simp) (Off.set (by simp) (Off.set (by simp) (Off.set (by simp) S28))))) fun S29 => ?_
  clear hK K
  refine vP ?_
  refine vT 6 S29 ?_
  refine vD ?_
  go_wp2_with fail
  refine bodyPost_ret (v := .tuple #[.agg #[.int .i64 e, .int .u64 s0, .int .u64 s1, .int .u64 s2, .int .u64 s3], .bool ((!(sa == tu)))]) ?_ rfl ⟨rfl, ((((((bC (bC b1 kz2) b28).setCell (p := ⟨w.heap.size + 1 + 1, 0, none⟩) gX2 _).setCell (p := ⟨w.heap.size + 1 + 1, 1, none⟩) gX2 _).setCell (p := ⟨w.heap.size + 1 + 1, 2, none⟩) gX2 _).setCell (p := ⟨w.heap.size + 1 + 1, 3, none⟩) gX2 _).setCell (p := ⟨w.heap.size + 1 + 1, 4, none⟩) gX2 _)⟩
  simp [results, Tryz.results72, go_sem, oX2]



end Go.Proofs.YtjnohbpebdnngaaGreatDoor
