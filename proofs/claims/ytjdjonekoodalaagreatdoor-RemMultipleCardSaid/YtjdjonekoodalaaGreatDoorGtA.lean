import Derived.Test.YtjdjonekoodalaaGreatDoorAddT
import Derived.Test.YtjdjonekoodalaaGreatDoorGtC
import Derived.Test.YtjdjonekoodalaaGreatDoorGtB
import Derived.Test.YtjdjonekoodalaaGreatDoorGeB
set_option maxHeartbeats 4000000
set_option linter.unusedVariables false
set_option linter.unusedSimpArgs false
set_option maxRecDepth 100000
namespace Go.Proofs.YtjdjonekoodalaaGreatDoor
open Go.RowKit
attribute [local go_sem ↓] Go.wp_at_zero Go.wp_at_succ
theorem ad_opposed_a (ca cb ea eb xh xl yh yl : Int) (sa sb : Bool)
     (g1 : (ca == 3) = false) (w : World) :
    Ca 49 #[.agg #[.bool sa, .int .u8 ca, .int .i64 ea, .int .u64 xh, .int .u64 xl], .agg #[.bool sb, .int .u8 cb, .int .i64 eb, .int .u64 yh, .int .u64 yl]] w (.bool false) := by
  simp only [Ca] at *
  go_enter Tryz.func49, Tryz.ntmps49
  go_wp2_with fail
  go_ret
  exact ⟨rfl, (bA (bA bR _) _)⟩
theorem ad_opposed_b (cb ea eb xh xl yh yl : Int) (sa sb : Bool)
     (g1 : (cb == 3) = false) (w : World) :
    Ca 49 #[.agg #[.bool sa, .int .u8 3, .int .i64 ea, .int .u64 xh, .int .u64 xl], .agg #[.bool sb, .int .u8 cb, .int .i64 eb, .int .u64 yh, .int .u64 yl]] w (.bool false) := by
  simp only [Ca] at *
  go_enter Tryz.func49, Tryz.ntmps49
  go_wp2_with fail
  go_ret
  exact ⟨rfl, (bA (bA bR _) _)⟩
theorem ad_opposed_c (ea eb xh xl yh yl : Int) (sa sb : Bool)
     (w : World) :
    Ca 49 #[.agg #[.bool sa, .int .u8 3, .int .i64 ea, .int .u64 xh, .int .u64 xl], .agg #[.bool sb, .int .u8 3, .int .i64 eb, .int .u64 yh, .int .u64 yl]] w (.bool ((sa != sb))) := by
  simp only [Ca] at *
  go_enter Tryz.func49, Tryz.ntmps49
  go_wp2_with fail
  go_ret
  exact ⟨rfl, (bA (bA bR _) _)⟩
theorem ad_added (ea eb e x0 x1 x2 x3 y0 y1 y2 y3 s0 s1 s2 s3 : Int)
    (h0 : Hid (∀ w, Ca 143 #[T5 ea x0 x1 x2 x3, T5 eb y0 y1 y2 y3] w (T5 e s0 s1 s2 s3))) (w : World) :
    Ca 109 #[T5 ea x0 x1 x2 x3, T5 eb y0 y1 y2 y3] w (.tuple #[T5 e s0 s1 s2 s3, .bool false]) := by
  simp only [Ca, T5] at *
  go_enter Tryz.func109, Tryz.ntmps109
  go_wp2_with fail
  refine vM (h0.out _) fun w1 b1 => ?_
  have gX2 : w.heap.size ≤ w.heap.size + 1 + 1 := by omega
  have X2 := (HB.newAt (b := w.heap.size + 1 + 1) (by simp) _ _).later b1
  have oX2 := X2.o
  go_wp2_with fail
  refine bodyPost_ret (v := .tuple #[.agg #[.int .i64 e, .int .u64 s0, .int .u64 s1, .int .u64 s2, .int .u64 s3], .bool false]) ?_ rfl ⟨rfl, ((((((bC (bA (bA (bA bR _) _) _) b1).setCell (p := ⟨w.heap.size + 1 + 1, 0, none⟩) gX2 _).setCell (p := ⟨w.heap.size + 1 + 1, 1, none⟩) gX2 _).setCell (p := ⟨w.heap.size + 1 + 1, 2, none⟩) gX2 _).setCell (p := ⟨w.heap.size + 1 + 1, 3, none⟩) gX2 _).setCell (p := ⟨w.heap.size + 1 + 1, 4, none⟩) gX2 _)⟩
  simp [results, Tryz.results109, go_sem, oX2]
theorem ad_sum1_1 (bx bz : Nat) (ca cb ea eb xh xl yh yl : Int) (sa sb : Bool)
     (g1 : (sa == sb) = true) (w : World) (cX0_0 : w.cell? ⟨bx, 0, none⟩ = some (.bool sa)) (cX1_0 : w.cell? ⟨bz, 0, none⟩ = some (.bool sb)) :
    Ca 108 #[.pointer (some ⟨bx, 0, none⟩), .pointer (some ⟨bz, 0, none⟩)] w (.func (.func 109) #[] #[]) := by
  simp only [Ca] at *
  go_enter Tryz.func108, Tryz.ntmps108
  have oX0 : bx < w.heap.size := bL cX0_0
  have oX1 : bz < w.heap.size := bL cX1_0
  go_wp2_with fail
  go_ret
  exact ⟨rfl, bR⟩
theorem ad_sum1_0 (bx bz : Nat) (ca cb ea eb xh xl yh yl : Int) (sa sb : Bool)
     (g1 : (sa == sb) = false) (w : World) (cX0_0 : w.cell? ⟨bx, 0, none⟩ = some (.bool sa)) (cX1_0 : w.cell? ⟨bz, 0, none⟩ = some (.bool sb)) :
    Ca 108 #[.pointer (some ⟨bx, 0, none⟩), .pointer (some ⟨bz, 0, none⟩)] w (.func (.func 110) #[] #[]) := by
  simp only [Ca] at *
  go_enter Tryz.func108, Tryz.ntmps108
  have oX0 : bx < w.heap.size := bL cX0_0
  have oX1 : bz < w.heap.size := bL cX1_0
  go_wp2_with fail
  go_ret
  exact ⟨rfl, bR⟩
theorem ad_sum_1 (ca cb ea eb e xh xl yh yl s0 s1 s2 s3 : Int) (sa sb tu : Bool)
    (h1 : Hid (∀ w, Ca 111 #[.agg #[.bool sa, .int .u8 ca, .int .i64 ea, .int .u64 xh, .int .u64 xl]] w (T5 ea 0 0 xl xh)))
    (h2 : Hid (∀ w, Ca 111 #[.agg #[.bool sb, .int .u8 cb, .int .i64 eb, .int .u64 yh, .int .u64 yl]] w (T5 eb 0 0 yl yh)))
    (h3 : Hid (∀ w, Ca 109 #[T5 ea 0 0 xl xh, T5 eb 0 0 yl yh] w (.tuple #[T5 e s0 s1 s2 s3, .bool tu]))) (SEL : Hid (∀ bx by_ w, w.cell? ⟨bx, 0, none⟩ = some (.bool sa) → w.cell? ⟨by_, 0, none⟩ = some (.bool sb) → Ca 108 #[.pointer (some ⟨bx, 0, none⟩), .pointer (some ⟨by_, 0, none⟩)] w (.func (.func 109) #[] #[]))) (w : World) :
    Ca 50 #[.agg #[.bool sa, .int .u8 ca, .int .i64 ea, .int .u64 xh, .int .u64 xl], .agg #[.bool sb, .int .u8 cb, .int .i64 eb, .int .u64 yh, .int .u64 yl]] w (.tuple #[T5 e s0 s1 s2 s3, .bool ((!(sa == tu)))]) := by
  simp only [Ca, T5] at *
  go_enter Tryz.func50, Tryz.ntmps50
  go_wp2_with fail
  have gX2 : w.heap.size ≤ w.heap.size + 1 + 1 := by omega
  refine vF3 fun w1 b1 X0 X1 X2 => ?_
  refine' (have s2_9 : Hid (_ : Prop) := ?ns2_9; ?ms2_9)
  case' ms2_9 => skip
  refine' (have s2_8 : Hid (_ : Prop) := ?ns2_8; ?ms2_8)
  case' ms2_8 => skip
  refine' (have s2_7 : Hid (_ : Prop) := ?ns2_7; ?ms2_7)
  case' ms2_7 => skip
  refine' (have s2_6 : Hid (_ : Prop) := ?ns2_6; ?ms2_6)
  case' ms2_6 => skip
  refine' (have s2_5 : Hid (_ : Prop) := ?ns2_5; ?ms2_5)
  case' ms2_5 => skip
  refine' (have s2_4 : Hid (_ : Prop) := ?ns2_4; ?ms2_4)
  case' ms2_4 => skip
  refine' (have s2_3 : Hid (_ : Prop) := ?ns2_3; ?ms2_3)
  case' ms2_3 => skip
  refine' (have s2_2 : Hid (_ : Prop) := ?ns2_2; ?ms2_2)
  case' ms2_2 => skip
  refine' (have s2_1 : Hid (_ : Prop) := ?ns2_1; ?ms2_1)
  case' ms2_1 => skip
  refine' (have s2_0 : Hid (_ : Prop) := ?ns2_0; ?ms2_0)
  case' ms2_0 => skip
  refine vR [] fun w2 kz2 S => ?_
  refine vT 0 S ?_
  refine vT 2 S ?_ (hy := by intro wq hb; have q := (hb.hb X0 (by simp)).o; go_simp; try (with_reducible rfl))
  refine vT 4 S ?_ (hy := by intro wq hb; have q := (hb.hb X1 (by simp)).o; go_simp; try (with_reducible rfl))
  refine vY2 (cC 1 S (SEL.out _ _ _ ((X0.later kz2).cell 0) ((X1.later kz2).cell 0)) fun w3 b3 => ?_) (cA 10 S fun w4 pp1_0 h X3 b4 => ?_)
  replace kz2 := bC kz2 b3
  clear S b3 w2
  revert kz2; revert w3
  exact s2_0.out
  have jX3 := (lZ kz2.size h); replace kz2 := bC kz2 b4
  clear S b4 h w2
  revert kz2; revert jX3; revert X3; revert pp1_0; revert w4
  exact s2_1.out
  case' ns2_0 => refine lH ?_
  intro w5 kz2
  have S := Off.ofB kz2
  refine vY2 (cC 3 S (h1.out _) fun w6 b6 => ?_) (cA 10 S fun w7 pp1_0 h X3 b7 => ?_)
  replace kz2 := bC kz2 b6
  clear S b6 w5
  revert kz2; revert w6
  exact s2_2.out
  have jX3 := (lZ kz2.size h); replace kz2 := bC kz2 b7
  clear S b7 h w5
  revert kz2; revert jX3; revert X3; revert pp1_0; revert w7
  exact s2_3.out
  case' ns2_1 => refine lH ?_
  intro w8 pp1_0 X3 jX3 kz2
  have S := Off.ofB kz2
  refine vY1 (cC 1 S (SEL.out _ _ _ ((X0.later kz2).cell 0) ((X1.later kz2).cell 0)) fun w9 b9 => s2_3.out w9 pp1_0 (X3.later b9) jX3 (bC kz2 b9))
  case' ns2_2 => refine lH ?_
  intro w10 kz2
  have S := Off.ofB kz2
  refine vY2 (cC 5 S (h2.out _) fun w11 b11 => ?_) (cA 10 S fun w12 pp1_0 h X3 b12 => ?_)
  replace kz2 := bC kz2 b11
  clear S b11 w10
  revert kz2; revert w11
  exact s2_4.out
  have jX3 := (lZ kz2.size h); replace kz2 := bC kz2 b12
  clear S b12 h w10
  revert kz2; revert jX3; revert X3; revert pp1_0; revert w12
  exact s2_5.out
  case' ns2_3 => refine lH ?_
  intro w13 pp1_0 X3 jX3 kz2
  have S := Off.ofB kz2
  refine vY1 (cC 3 S (h1.out _) fun w14 b14 => s2_5.out w14 pp1_0 (X3.later b14) jX3 (bC kz2 b14))
  case' ns2_4 => refine lH ?_
  intro w15 kz2
  have S := Off.ofB kz2
  refine vY2 (cC 6 S (h3.out _) fun w16 b16 => ?_) (cA 10 S fun w17 pp1_0 h X3 b17 => ?_)
  replace kz2 := bC kz2 b16
  refine vT 7 (Off.ofB kz2) ?_
  refine vT 8 (Off.ofB kz2) ?_
  refine vT 9 (Off.ofB kz2) ?_
  clear S b16 w15
  revert kz2; revert w16
  exact s2_6.out
  have jX3 := (lZ kz2.size h); replace kz2 := bC kz2 b17
  clear S b17 h w15
  revert kz2; revert jX3; revert X3; revert pp1_0; revert w17
  exact s2_7.out
  case' ns2_5 => refine lH ?_
  intro w18 pp1_0 X3 jX3 kz2
  have S := Off.ofB kz2
  refine vY1 (cC 5 S (h2.out _) fun w19 b19 => s2_7.out w19 pp1_0 (X3.later b19) jX3 (bC kz2 b19))
  case' ns2_6 => refine lH ?_
  intro w20 kz2
  have S := Off.ofB kz2
  refine vY1 (cA 10 S fun w21 pp1_0 h X3 b21 => ?_)
  have jX3 := (lZ kz2.size h); replace kz2 := bC kz2 b21
  clear S b21 h w20
  revert kz2; revert jX3; revert X3; revert pp1_0; revert w21
  exact s2_8.out
  case' ns2_7 => refine lH ?_
  intro w22 pp1_0 X3 jX3 kz2
  have S := Off.ofB kz2
  refine vY1 (cC 6 S (h3.out _) fun w23 b23 => ?_)
  replace X3 := (X3.later b23); replace kz2 := bC kz2 b23
  refine vT 7 (Off.ofB kz2) ?_
  refine vT 8 (Off.ofB kz2) ?_
  refine vT 9 (Off.ofB kz2) ?_
  clear S b23 w22
  revert kz2; revert jX3; revert X3; revert pp1_0; revert w23
  exact s2_8.out
  case' ns2_8 => refine lH ?_
  intro w24 pp1_0 X3 jX3 kz2
  have S := Off.ofB kz2
  refine vY1 (vO 11 fun K hK => ?_)
  have q := X3.o
  go_simp
  refine vW (fun W => HB W pp1_0 83 #[.int .i64 e, .int .u64 s0, .int .u64 s1, .int .u64 s2, .int .u64 s3] ∧ Below w1.heap.size w1 W) ⟨(((((X3.set 0 _).set 1 _).set 2 _).set 3 _).set 4 _), (((((kz2.setCell (p := ⟨pp1_0, 0, none⟩) jX3 _).setCell (p := ⟨pp1_0, 1, none⟩) jX3 _).setCell (p := ⟨pp1_0, 2, none⟩) jX3 _).setCell (p := ⟨pp1_0, 3, none⟩) jX3 _).setCell (p := ⟨pp1_0, 4, none⟩) jX3 _)⟩ fun w26 hz => ?_
  clear q X3 S kz2 w24; obtain ⟨X3, kz2⟩ := hz
  refine hK.out _ _ (Off.ofB kz2) fun S => ?_; clear hK K S; refine vP ?_
  refine vT 12 (Off.ofB kz2) ?_
  revert kz2; revert jX3; revert X3; revert pp1_0; revert w26
  exact s2_9.out
  case' ns2_9 => refine lH ?_
  intro w27 pp1_0 X3 jX3 kz2
  refine vD ?_
  have nX0_X3 : w.heap.size < pp1_0 := by have := X0.lt; omega
  have nX2_X3 : w.heap.size + 1 + 1 < pp1_0 := by have := X2.lt; omega
  have gX3 : w.heap.size ≤ pp1_0 := by have := b1.size; omega
  go_wp2_with fail
  replace X0 := X0.later kz2
  replace X2 := X2.later kz2
  refine vR [w.heap.size + 1 + 1] fun w28 b28 S28 => ?_
  refine vT 0 S28 ?_ (hy := by intro wq hb; have q := (hb.hb X3 (by simp <;> omega)).o; go_simp; try (with_reducible rfl))
  refine vT 1 S28 ?_
  refine vT 2 S28 ?_ (hy := by intro wq hb; have q := (hb.hb X0 (by simp <;> omega)).o; go_simp; try (with_reducible rfl))
  refine vT 3 S28 ?_
  refine vT 4 S28 ?_
  refine vY1 (vO 5 fun K hK => ?_)
  replace X2 := X2.later b28
  have oX2 := X2.o
  go_simp
  refine hK.out _ _ (Off.set (by simp) (Off.set (by simp) (Off.set (by simp) (Off.set (by simp) (Off.set (by simp) S28))))) fun S29 => ?_
  clear hK K
  refine vP ?_
  refine vT 6 S29 ?_
  refine vD ?_
  go_wp2_with fail
  refine bodyPost_ret (v := .tuple #[.agg #[.int .i64 e, .int .u64 s0, .int .u64 s1, .int .u64 s2, .int .u64 s3], .bool ((!(sa == tu)))]) ?_ rfl ⟨rfl, ((((((bC (bC b1 kz2) b28).setCell (p := ⟨w.heap.size + 1 + 1, 0, none⟩) gX2 _).setCell (p := ⟨w.heap.size + 1 + 1, 1, none⟩) gX2 _).setCell (p := ⟨w.heap.size + 1 + 1, 2, none⟩) gX2 _).setCell (p := ⟨w.heap.size + 1 + 1, 3, none⟩) gX2 _).setCell (p := ⟨w.heap.size + 1 + 1, 4, none⟩) gX2 _)⟩
  simp [results, Tryz.results50, go_sem, oX2]
theorem ad_sum_0 (ca cb ea eb e xh xl yh yl s0 s1 s2 s3 : Int) (sa sb tu : Bool)
    (h1 : Hid (∀ w, Ca 111 #[.agg #[.bool sa, .int .u8 ca, .int .i64 ea, .int .u64 xh, .int .u64 xl]] w (T5 ea 0 0 xl xh)))
    (h2 : Hid (∀ w, Ca 111 #[.agg #[.bool sb, .int .u8 cb, .int .i64 eb, .int .u64 yh, .int .u64 yl]] w (T5 eb 0 0 yl yh)))
    (h3 : Hid (∀ w, Ca 110 #[T5 ea 0 0 xl xh, T5 eb 0 0 yl yh] w (.tuple #[T5 e s0 s1 s2 s3, .bool tu]))) (SEL : Hid (∀ bx by_ w, w.cell? ⟨bx, 0, none⟩ = some (.bool sa) → w.cell? ⟨by_, 0, none⟩ = some (.bool sb) → Ca 108 #[.pointer (some ⟨bx, 0, none⟩), .pointer (some ⟨by_, 0, none⟩)] w (.func (.func 110) #[] #[]))) (w : World) :
    Ca 50 #[.agg #[.bool sa, .int .u8 ca, .int .i64 ea, .int .u64 xh, .int .u64 xl], .agg #[.bool sb, .int .u8 cb, .int .i64 eb, .int .u64 yh, .int .u64 yl]] w (.tuple #[T5 e s0 s1 s2 s3, .bool ((!(sa == tu)))]) := by
  simp only [Ca, T5] at *
  go_enter Tryz.func50, Tryz.ntmps50
  go_wp2_with fail
  have gX2 : w.heap.size ≤ w.heap.size + 1 + 1 := by omega
  refine vF3 fun w1 b1 X0 X1 X2 => ?_
  refine' (have s2_9 : Hid (_ : Prop) := ?ns2_9; ?ms2_9)
  case' ms2_9 => skip
  refine' (have s2_8 : Hid (_ : Prop) := ?ns2_8; ?ms2_8)
  case' ms2_8 => skip
  refine' (have s2_7 : Hid (_ : Prop) := ?ns2_7; ?ms2_7)
  case' ms2_7 => skip
  refine' (have s2_6 : Hid (_ : Prop) := ?ns2_6; ?ms2_6)
  case' ms2_6 => skip
  refine' (have s2_5 : Hid (_ : Prop) := ?ns2_5; ?ms2_5)
  case' ms2_5 => skip
  refine' (have s2_4 : Hid (_ : Prop) := ?ns2_4; ?ms2_4)
  case' ms2_4 => skip
  refine' (have s2_3 : Hid (_ : Prop) := ?ns2_3; ?ms2_3)
  case' ms2_3 => skip
  refine' (have s2_2 : Hid (_ : Prop) := ?ns2_2; ?ms2_2)
  case' ms2_2 => skip
  refine' (have s2_1 : Hid (_ : Prop) := ?ns2_1; ?ms2_1)
  case' ms2_1 => skip
  refine' (have s2_0 : Hid (_ : Prop) := ?ns2_0; ?ms2_0)
  case' ms2_0 => skip
  refine vR [] fun w2 kz2 S => ?_
  refine vT 0 S ?_
  refine vT 2 S ?_ (hy := by intro wq hb; have q := (hb.hb X0 (by simp)).o; go_simp; try (with_reducible rfl))
  refine vT 4 S ?_ (hy := by intro wq hb; have q := (hb.hb X1 (by simp)).o; go_simp; try (with_reducible rfl))
  refine vY2 (cC 1 S (SEL.out _ _ _ ((X0.later kz2).cell 0) ((X1.later kz2).cell 0)) fun w3 b3 => ?_) (cA 10 S fun w4 pp1_0 h X3 b4 => ?_)
  replace kz2 := bC kz2 b3
  clear S b3 w2
  revert kz2; revert w3
  exact s2_0.out
  have jX3 := (lZ kz2.size h); replace kz2 := bC kz2 b4
  clear S b4 h w2
  revert kz2; revert jX3; revert X3; revert pp1_0; revert w4
  exact s2_1.out
  case' ns2_0 => refine lH ?_
  intro w5 kz2
  have S := Off.ofB kz2
  refine vY2 (cC 3 S (h1.out _) fun w6 b6 => ?_) (cA 10 S fun w7 pp1_0 h X3 b7 => ?_)
  replace kz2 := bC kz2 b6
  clear S b6 w5
  revert kz2; revert w6
  exact s2_2.out
  have jX3 := (lZ kz2.size h); replace kz2 := bC kz2 b7
  clear S b7 h w5
  revert kz2; revert jX3; revert X3; revert pp1_0; revert w7
  exact s2_3.out
  case' ns2_1 => refine lH ?_
  intro w8 pp1_0 X3 jX3 kz2
  have S := Off.ofB kz2
  refine vY1 (cC 1 S (SEL.out _ _ _ ((X0.later kz2).cell 0) ((X1.later kz2).cell 0)) fun w9 b9 => s2_3.out w9 pp1_0 (X3.later b9) jX3 (bC kz2 b9))
  case' ns2_2 => refine lH ?_
  intro w10 kz2
  have S := Off.ofB kz2
  refine vY2 (cC 5 S (h2.out _) fun w11 b11 => ?_) (cA 10 S fun w12 pp1_0 h X3 b12 => ?_)
  replace kz2 := bC kz2 b11
  clear S b11 w10
  revert kz2; revert w11
  exact s2_4.out
  have jX3 := (lZ kz2.size h); replace kz2 := bC kz2 b12
  clear S b12 h w10
  revert kz2; revert jX3; revert X3; revert pp1_0; revert w12
  exact s2_5.out
  case' ns2_3 => refine lH ?_
  intro w13 pp1_0 X3 jX3 kz2
  have S := Off.ofB kz2
  refine vY1 (cC 3 S (h1.out _) fun w14 b14 => s2_5.out w14 pp1_0 (X3.later b14) jX3 (bC kz2 b14))
  case' ns2_4 => refine lH ?_
  intro w15 kz2
  have S := Off.ofB kz2
  refine vY2 (cC 6 S (h3.out _) fun w16 b16 => ?_) (cA 10 S fun w17 pp1_0 h X3 b17 => ?_)
  replace kz2 := bC kz2 b16
  refine vT 7 (Off.ofB kz2) ?_
  refine vT 8 (Off.ofB kz2) ?_
  refine vT 9 (Off.ofB kz2) ?_
  clear S b16 w15
  revert kz2; revert w16
  exact s2_6.out
  have jX3 := (lZ kz2.size h); replace kz2 := bC kz2 b17
  clear S b17 h w15
  revert kz2; revert jX3; revert X3; revert pp1_0; revert w17
  exact s2_7.out
  case' ns2_5 => refine lH ?_
  intro w18 pp1_0 X3 jX3 kz2
  have S := Off.ofB kz2
  refine vY1 (cC 5 S (h2.out _) fun w19 b19 => s2_7.out w19 pp1_0 (X3.later b19) jX3 (bC kz2 b19))
  case' ns2_6 => refine lH ?_
  intro w20 kz2
  have S := Off.ofB kz2
  refine vY1 (cA 10 S fun w21 pp1_0 h X3 b21 => ?_)
  have jX3 := (lZ kz2.size h); replace kz2 := bC kz2 b21
  clear S b21 h w20
  revert kz2; revert jX3; revert X3; revert pp1_0; revert w21
  exact s2_8.out
  case' ns2_7 => refine lH ?_
  intro w22 pp1_0 X3 jX3 kz2
  have S := Off.ofB kz2
  refine vY1 (cC 6 S (h3.out _) fun w23 b23 => ?_)
  replace X3 := (X3.later b23); replace kz2 := bC kz2 b23
  refine vT 7 (Off.ofB kz2) ?_
  refine vT 8 (Off.ofB kz2) ?_
  refine vT 9 (Off.ofB kz2) ?_
  clear S b23 w22
  revert kz2; revert jX3; revert X3; revert pp1_0; revert w23
  exact s2_8.out
  case' ns2_8 => refine lH ?_
  intro w24 pp1_0 X3 jX3 kz2
  have S := Off.ofB kz2
  refine vY1 (vO 11 fun K hK => ?_)
  have q := X3.o
  go_simp
  refine vW (fun W => HB W pp1_0 83 #[.int .i64 e, .int .u64 s0, .int .u64 s1, .int .u64 s2, .int .u64 s3] ∧ Below w1.heap.size w1 W) ⟨(((((X3.set 0 _).set 1 _).set 2 _).set 3 _).set 4 _), (((((kz2.setCell (p := ⟨pp1_0, 0, none⟩) jX3 _).setCell (p := ⟨pp1_0, 1, none⟩) jX3 _).setCell (p := ⟨pp1_0, 2, none⟩) jX3 _).setCell (p := ⟨pp1_0, 3, none⟩) jX3 _).setCell (p := ⟨pp1_0, 4, none⟩) jX3 _)⟩ fun w26 hz => ?_
  clear q X3 S kz2 w24; obtain ⟨X3, kz2⟩ := hz
  refine hK.out _ _ (Off.ofB kz2) fun S => ?_; clear hK K S; refine vP ?_
  refine vT 12 (Off.ofB kz2) ?_
  revert kz2; revert jX3; revert X3; revert pp1_0; revert w26
  exact s2_9.out
  case' ns2_9 => refine lH ?_
  intro w27 pp1_0 X3 jX3 kz2
  refine vD ?_
  have nX0_X3 : w.heap.size < pp1_0 := by have := X0.lt; omega
  have nX2_X3 : w.heap.size + 1 + 1 < pp1_0 := by have := X2.lt; omega
  have gX3 : w.heap.size ≤ pp1_0 := by have := b1.size; omega
  go_wp2_with fail
  replace X0 := X0.later kz2
  replace X2 := X2.later kz2
  refine vR [w.heap.size + 1 + 1] fun w28 b28 S28 => ?_
  refine vT 0 S28 ?_ (hy := by intro wq hb; have q := (hb.hb X3 (by simp <;> omega)).o; go_simp; try (with_reducible rfl))
  refine vT 1 S28 ?_
  refine vT 2 S28 ?_ (hy := by intro wq hb; have q := (hb.hb X0 (by simp <;> omega)).o; go_simp; try (with_reducible rfl))
  refine vT 3 S28 ?_
  refine vT 4 S28 ?_
  refine vY1 (vO 5 fun K hK => ?_)
  replace X2 := X2.later b28
  have oX2 := X2.o
  go_simp
  refine hK.out _ _ (Off.set (by simp) (Off.set (by simp) (Off.set (by simp) (Off.set (by simp) (Off.set (by simp) S28))))) fun S29 => ?_
  clear hK K
  refine vP ?_
  refine vT 6 S29 ?_
  refine vD ?_
  go_wp2_with fail
  refine bodyPost_ret (v := .tuple #[.agg #[.int .i64 e, .int .u64 s0, .int .u64 s1, .int .u64 s2, .int .u64 s3], .bool ((!(sa == tu)))]) ?_ rfl ⟨rfl, ((((((bC (bC b1 kz2) b28).setCell (p := ⟨w.heap.size + 1 + 1, 0, none⟩) gX2 _).setCell (p := ⟨w.heap.size + 1 + 1, 1, none⟩) gX2 _).setCell (p := ⟨w.heap.size + 1 + 1, 2, none⟩) gX2 _).setCell (p := ⟨w.heap.size + 1 + 1, 3, none⟩) gX2 _).setCell (p := ⟨w.heap.size + 1 + 1, 4, none⟩) gX2 _)⟩
  simp [results, Tryz.results50, go_sem, oX2]
end Go.Proofs.YtjdjonekoodalaaGreatDoor
namespace Go.Proofs.YtjdjonekoodalaaGreatDoor
open Go.RowKit
attribute [local go_sem ↓] Go.wp_at_zero Go.wp_at_succ
theorem ad_Add_no1 (f m ah al bh bl : Int) (t : Bool)
    (h0 : Hid (∀ w, FTab w → Ca 15 #[.int .u8 f] w (.bool false))) (w : World) (ft : FTab w) :
    Ca 18 #[.int .u8 f, .agg #[.int .u8 m, .bool t], U2 ah al, U2 bh bl] w (.agg #[.int .u64 0, .int .u64 0, .int .u8 0]) := by
  simp only [Ca, U2] at *
  go_enter Tryz.func18, Tryz.ntmps18
  go_wp2_with fail
  refine vM (h0.out _ (ft.later (bA (bA (bA (bA bR _) _) _) _))) fun w1 b1 => ?_
  have gX3 : w.heap.size ≤ w.heap.size + 1 + 1 + 1 := by omega
  have X0 := ((((HB.newAt (b := w.heap.size) (by simp) _ _).alloc _).alloc _).alloc _).later b1
  have X3 := (HB.newAt (b := w.heap.size + 1 + 1 + 1) (by simp) _ _).later b1
  have oX0 := X0.o
  have oX3 := X3.o
  have mX0_X3 : ¬ (w.heap.size = w.heap.size + 1 + 1 + 1) := by omega
  have mX3_X0 : ¬ (w.heap.size + 1 + 1 + 1 = w.heap.size) := by omega
  go_wp2_with fail
  refine bodyPost_ret (v := .agg #[.int .u64 0, .int .u64 0, .int .u8 0]) ?_ rfl ⟨rfl, ((((bC (bA (bA (bA (bA bR _) _) _) _) b1).setCell (p := ⟨w.heap.size + 1 + 1 + 1, 0, none⟩) gX3 _).setCell (p := ⟨w.heap.size + 1 + 1 + 1, 1, none⟩) gX3 _).setCell (p := ⟨w.heap.size + 1 + 1 + 1, 2, none⟩) gX3 _)⟩
  simp [results, Tryz.results18, go_sem, oX3, mX0_X3, mX3_X0]
theorem ad_Add_no2 (f m ah al bh bl : Int) (t : Bool)
    (h0 : Hid (∀ w, FTab w → Ca 15 #[.int .u8 f] w (.bool true)))
    (h1 : Hid (∀ w, Ca 48 #[.int .u8 m] w (.bool false))) (w : World) (ft : FTab w) :
    Ca 18 #[.int .u8 f, .agg #[.int .u8 m, .bool t], U2 ah al, U2 bh bl] w (.agg #[.int .u64 0, .int .u64 0, .int .u8 0]) := by
  simp only [Ca, U2] at *
  go_enter Tryz.func18, Tryz.ntmps18
  go_wp2_with fail
  refine vM (h0.out _ (ft.later (bA (bA (bA (bA bR _) _) _) _))) fun w1 b1 => ?_
  have gX3 : w.heap.size ≤ w.heap.size + 1 + 1 + 1 := by omega
  have X0 := ((((HB.newAt (b := w.heap.size) (by simp) _ _).alloc _).alloc _).alloc _).later b1
  have X3 := (HB.newAt (b := w.heap.size + 1 + 1 + 1) (by simp) _ _).later b1
  have oX0 := X0.o
  go_wp2_with fail
  refine vM (h1.out _) fun w2 b2 => ?_
  clear oX0
  replace X3 := X3.later b2
  have oX3 := X3.o
  go_wp2_with fail
  refine bodyPost_ret (v := .agg #[.int .u64 0, .int .u64 0, .int .u8 0]) ?_ rfl ⟨rfl, ((((bC (bC (bA (bA (bA (bA bR _) _) _) _) b1) b2).setCell (p := ⟨w.heap.size + 1 + 1 + 1, 0, none⟩) gX3 _).setCell (p := ⟨w.heap.size + 1 + 1 + 1, 1, none⟩) gX3 _).setCell (p := ⟨w.heap.size + 1 + 1 + 1, 2, none⟩) gX3 _)⟩
  simp [results, Tryz.results18, go_sem, oX3]
theorem ad_Add_yes (f m ah al bh bl ca cb ea eb xh xl yh yl ph pl pf rh rl fl e s0 s1 s2 s3 : Int) (t i sa sb pk n1 n2 : Bool)
    (h0 : Hid (∀ w, FTab w → Ca 15 #[.int .u8 f] w (.bool true)))
    (h1 : Hid (∀ w, Ca 48 #[.int .u8 m] w (.bool true)))
    (h2 : Hid (∀ w, FTab w → Ca 32 #[.int .u8 f, U2 ah al] w (.agg #[.bool sa, .int .u8 ca, .int .i64 ea, .int .u64 xh, .int .u64 xl])))
    (h3 : Hid (∀ w, FTab w → Ca 32 #[.int .u8 f, U2 bh bl] w (.agg #[.bool sb, .int .u8 cb, .int .i64 eb, .int .u64 yh, .int .u64 yl])))
    (h4 : Hid (∀ w, Ca 49 #[.agg #[.bool sa, .int .u8 ca, .int .i64 ea, .int .u64 xh, .int .u64 xl], .agg #[.bool sb, .int .u8 cb, .int .i64 eb, .int .u64 yh, .int .u64 yl]] w (.bool i))) (PK : Hid (∀ w, FTab w → ∀ p T, HB w p T #[.int .u64 ah, .int .u64 al, .int .u64 bh, .int .u64 bl] → Ca 31 #[.int .u8 f, .bool i, .slice (some ⟨p, 0, none⟩) 2 2] w (.tuple #[.agg #[.int .u64 ph, .int .u64 pl, .int .u8 pf], .bool pk])))
    (HH : ((pk = true)) ∨ ((pk = false) ∧ ((ca == 3) = true) ∧ (fl = 0) ∧ Hid (∀ w, FTab w → Ca 28 #[.int .u8 f, .bool sa] w (U2 rh rl))) ∨ ((pk = false) ∧ ((ca == 3) = false) ∧ ((cb == 3) = true) ∧ (fl = 0) ∧ Hid (∀ w, FTab w → Ca 28 #[.int .u8 f, .bool sb] w (U2 rh rl))) ∨ ((pk = false) ∧ ((ca == 3) = false) ∧ ((cb == 3) = false) ∧ Hid (∀ w, Ca 50 #[.agg #[.bool sa, .int .u8 ca, .int .i64 ea, .int .u64 xh, .int .u64 xl], .agg #[.bool sb, .int .u8 cb, .int .i64 eb, .int .u64 yh, .int .u64 yl]] w (.tuple #[T5 e s0 s1 s2 s3, .bool n1])) ∧ Hid (∀ w, Ca 51 #[U4 s0 s1 s2 s3] w (.bool true)) ∧ Hid (∀ w, Ca 52 #[.agg #[.int .u8 m, .bool t], .bool sa, .bool sb] w (.bool n2)) ∧ Hid (∀ w, FTab w → Ca 53 #[.int .u8 f, .agg #[.int .u8 m, .bool t], .bool n2, .int .i64 e, U4 s0 s1 s2 s3] w (.agg #[.int .u64 rh, .int .u64 rl, .int .u8 fl]))) ∨ ((pk = false) ∧ ((ca == 3) = false) ∧ ((cb == 3) = false) ∧ Hid (∀ w, Ca 50 #[.agg #[.bool sa, .int .u8 ca, .int .i64 ea, .int .u64 xh, .int .u64 xl], .agg #[.bool sb, .int .u8 cb, .int .i64 eb, .int .u64 yh, .int .u64 yl]] w (.tuple #[T5 e s0 s1 s2 s3, .bool n1])) ∧ Hid (∀ w, Ca 51 #[U4 s0 s1 s2 s3] w (.bool false)) ∧ Hid (∀ w, FTab w → Ca 53 #[.int .u8 f, .agg #[.int .u8 m, .bool t], .bool n1, .int .i64 e, U4 s0 s1 s2 s3] w (.agg #[.int .u64 rh, .int .u64 rl, .int .u8 fl])))) (w : World) (ft : FTab w) :
    Ca 18 #[.int .u8 f, .agg #[.int .u8 m, .bool t], U2 ah al, U2 bh bl] w (.agg #[.int .u64 (if pk then ph else rh), .int .u64 (if pk then pl else rl), .int .u8 (if pk then pf else fl)]) := by
  simp only [Ca, U2, U4, T5] at *
  go_enter Tryz.func18, Tryz.ntmps18
  go_wp2_with fail
  refine vM (h0.out _ (ft.later (bA (bA (bA (bA bR _) _) _) _))) fun w1 b1 => ?_
  have gX3 : w.heap.size ≤ w.heap.size + 1 + 1 + 1 := by omega
  have X0 := ((((HB.newAt (b := w.heap.size) (by simp) _ _).alloc _).alloc _).alloc _).later b1
  have X1 := (((HB.newAt (b := w.heap.size + 1) (by simp) _ _).alloc _).alloc _).later b1
  have X2 := ((HB.newAt (b := w.heap.size + 1 + 1) (by simp) _ _).alloc _).later b1
  have X3 := (HB.newAt (b := w.heap.size + 1 + 1 + 1) (by simp) _ _).later b1
  have oX0 := X0.o
  go_wp2_with fail
  refine vM (h1.out _) fun w2 b2 => ?_
  clear oX0
  go_wp2_with fail
  replace X1 := X1.later b2
  replace X2 := X2.later b2
  refine' (have s3_12 : Hid (_ : Prop) := ?ns3_12; ?ms3_12)
  case' ms3_12 => skip
  refine' (have s3_11 : Hid (_ : Prop) := ?ns3_11; ?ms3_11)
  case' ms3_11 => skip
  refine' (have s3_10 : Hid (_ : Prop) := ?ns3_10; ?ms3_10)
  case' ms3_10 => skip
  refine' (have s3_9 : Hid (_ : Prop) := ?ns3_9; ?ms3_9)
  case' ms3_9 => skip
  refine' (have s3_8 : Hid (_ : Prop) := ?ns3_8; ?ms3_8)
  case' ms3_8 => skip
  refine' (have s3_7 : Hid (_ : Prop) := ?ns3_7; ?ms3_7)
  case' ms3_7 => skip
  refine' (have s3_6 : Hid (_ : Prop) := ?ns3_6; ?ms3_6)
  case' ms3_6 => skip
  refine' (have s3_5 : Hid (_ : Prop) := ?ns3_5; ?ms3_5)
  case' ms3_5 => skip
  refine' (have s3_4 : Hid (_ : Prop) := ?ns3_4; ?ms3_4)
  case' ms3_4 => skip
  refine' (have s3_3 : Hid (_ : Prop) := ?ns3_3; ?ms3_3)
  case' ms3_3 => skip
  refine' (have s3_2 : Hid (_ : Prop) := ?ns3_2; ?ms3_2)
  case' ms3_2 => skip
  refine' (have s3_1 : Hid (_ : Prop) := ?ns3_1; ?ms3_1)
  case' ms3_1 => skip
  refine' (have s3_0 : Hid (_ : Prop) := ?ns3_0; ?ms3_0)
  case' ms3_0 => skip
  refine vR [] fun w3 kz3 S => ?_
  refine vT 0 S ?_
  refine vT 1 S ?_ (hy := by intro wq hb; have q := (hb.hb X1 (by simp)).o; go_simp; try (with_reducible rfl))
  refine vT 3 S ?_
  refine vT 4 S ?_ (hy := by intro wq hb; have q := (hb.hb X2 (by simp)).o; go_simp; try (with_reducible rfl))
  refine vY3 (cC 2 S (h2.out _ (ft.later (bC (bC (bC (bA (bA (bA (bA bR _) _) _) _) b1) b2) kz3))) fun w4 b4 => ?_) (cA 6 S fun w5 pp2_0 h X4 b5 => ?_) (cA 7 S fun w6 pp2_1 h X5 b6 => ?_)
  replace kz3 := bC kz3 b4
  clear S b4 w3
  revert kz3; revert w4
  exact s3_0.out
  have jX4 := (lZ kz3.size h); replace kz3 := bC kz3 b5
  clear S b5 h w3
  revert kz3; revert jX4; revert X4; revert pp2_0; revert w5
  exact s3_1.out
  have jX5 := (lZ kz3.size h); replace kz3 := bC kz3 b6
  clear S b6 h w3
  revert kz3; revert jX5; revert X5; revert pp2_1; revert w6
  exact s3_2.out
  case' ns3_0 => refine lH ?_
  intro w7 kz3
  have S := Off.ofB kz3
  refine vY3 (cC 5 S (h3.out _ (ft.later (bC (bC (bC (bA (bA (bA (bA bR _) _) _) _) b1) b2) kz3))) fun w8 b8 => ?_) (cA 6 S fun w9 pp2_0 h X4 b9 => ?_) (cA 7 S fun w10 pp2_1 h X5 b10 => ?_)
  replace kz3 := bC kz3 b8
  clear S b8 w7
  revert kz3; revert w8
  exact s3_3.out
  have jX4 := (lZ kz3.size h); replace kz3 := bC kz3 b9
  clear S b9 h w7
  revert kz3; revert jX4; revert X4; revert pp2_0; revert w9
  exact s3_4.out
  have jX5 := (lZ kz3.size h); replace kz3 := bC kz3 b10
  clear S b10 h w7
  revert kz3; revert jX5; revert X5; revert pp2_1; revert w10
  exact s3_5.out
  case' ns3_1 => refine lH ?_
  intro w11 pp2_0 X4 jX4 kz3
  have S := Off.ofB kz3
  refine vY2 (cC 2 S (h2.out _ (ft.later (bC (bC (bC (bA (bA (bA (bA bR _) _) _) _) b1) b2) kz3))) fun w12 b12 => s3_4.out w12 pp2_0 (X4.later b12) jX4 (bC kz3 b12)) (cA 7 S fun w13 pp2_1 h X5 b13 => ?_)
  have ndX4_X5 : ¬ (pp2_0 = pp2_1) := (Nat.ne_of_lt (lY X4.lt h)); have jX5 := (lZ kz3.size h); replace X4 := (X4.later b13); replace kz3 := bC kz3 b13
  clear S b13 h w11
  revert kz3; revert ndX4_X5; revert jX5; revert jX4; revert X5; revert X4; revert pp2_1; revert pp2_0; revert w13
  exact s3_6.out
  case' ns3_2 => refine lH ?_
  intro w14 pp2_1 X5 jX5 kz3
  have S := Off.ofB kz3
  refine vY2 (cC 2 S (h2.out _ (ft.later (bC (bC (bC (bA (bA (bA (bA bR _) _) _) _) b1) b2) kz3))) fun w15 b15 => s3_5.out w15 pp2_1 (X5.later b15) jX5 (bC kz3 b15)) (cA 6 S fun w16 pp2_0 h X4 b16 => s3_6.out w16 pp2_0 pp2_1 X4 (X5.later b16) (lZ kz3.size h) jX5 (Nat.ne_of_gt (lY X5.lt h)) (bC kz3 b16))
  case' ns3_3 => refine lH ?_
  intro w17 kz3
  have S := Off.ofB kz3
  refine vY2 (cA 6 S fun w18 pp2_0 h X4 b18 => ?_) (cA 7 S fun w19 pp2_1 h X5 b19 => ?_)
  have jX4 := (lZ kz3.size h); replace kz3 := bC kz3 b18
  clear S b18 h w17
  revert kz3; revert jX4; revert X4; revert pp2_0; revert w18
  exact s3_7.out
  have jX5 := (lZ kz3.size h); replace kz3 := bC kz3 b19
  clear S b19 h w17
  revert kz3; revert jX5; revert X5; revert pp2_1; revert w19
  exact s3_8.out
  case' ns3_4 => refine lH ?_
  intro w20 pp2_0 X4 jX4 kz3
  have S := Off.ofB kz3
  refine vY2 (cC 5 S (h3.out _ (ft.later (bC (bC (bC (bA (bA (bA (bA bR _) _) _) _) b1) b2) kz3))) fun w21 b21 => s3_7.out w21 pp2_0 (X4.later b21) jX4 (bC kz3 b21)) (cA 7 S fun w22 pp2_1 h X5 b22 => ?_)
  have ndX4_X5 : ¬ (pp2_0 = pp2_1) := (Nat.ne_of_lt (lY X4.lt h)); have jX5 := (lZ kz3.size h); replace X4 := (X4.later b22); replace kz3 := bC kz3 b22
  clear S b22 h w20
  revert kz3; revert ndX4_X5; revert jX5; revert jX4; revert X5; revert X4; revert pp2_1; revert pp2_0; revert w22
  exact s3_9.out
  case' ns3_5 => refine lH ?_
  intro w23 pp2_1 X5 jX5 kz3
  have S := Off.ofB kz3
  refine vY2 (cC 5 S (h3.out _ (ft.later (bC (bC (bC (bA (bA (bA (bA bR _) _) _) _) b1) b2) kz3))) fun w24 b24 => s3_8.out w24 pp2_1 (X5.later b24) jX5 (bC kz3 b24)) (cA 6 S fun w25 pp2_0 h X4 b25 => s3_9.out w25 pp2_0 pp2_1 X4 (X5.later b25) (lZ kz3.size h) jX5 (Nat.ne_of_gt (lY X5.lt h)) (bC kz3 b25))
  case' ns3_6 => refine lH ?_
  intro w26 pp2_0 pp2_1 X4 X5 jX4 jX5 ndX4_X5 kz3
  have S := Off.ofB kz3
  refine vY1 (cC 2 S (h2.out _ (ft.later (bC (bC (bC (bA (bA (bA (bA bR _) _) _) _) b1) b2) kz3))) fun w27 b27 => s3_9.out w27 pp2_0 pp2_1 (X4.later b27) (X5.later b27) jX4 jX5 ndX4_X5 (bC kz3 b27))
  case' ns3_7 => refine lH ?_
  intro w28 pp2_0 X4 jX4 kz3
  have S := Off.ofB kz3
  refine vY1 (cA 7 S fun w29 pp2_1 h X5 b29 => ?_)
  have ndX4_X5 : ¬ (pp2_0 = pp2_1) := (Nat.ne_of_lt (lY X4.lt h)); have jX5 := (lZ kz3.size h); replace X4 := (X4.later b29); replace kz3 := bC kz3 b29
  clear S b29 h w28
  revert kz3; revert ndX4_X5; revert jX5; revert jX4; revert X5; revert X4; revert pp2_1; revert pp2_0; revert w29
  exact s3_10.out
  case' ns3_8 => refine lH ?_
  intro w30 pp2_1 X5 jX5 kz3
  have S := Off.ofB kz3
  refine vY1 (cA 6 S fun w31 pp2_0 h X4 b31 => s3_10.out w31 pp2_0 pp2_1 X4 (X5.later b31) (lZ kz3.size h) jX5 (Nat.ne_of_gt (lY X5.lt h)) (bC kz3 b31))
  case' ns3_9 => refine lH ?_
  intro w32 pp2_0 pp2_1 X4 X5 jX4 jX5 ndX4_X5 kz3
  have S := Off.ofB kz3
  refine vY1 (cC 5 S (h3.out _ (ft.later (bC (bC (bC (bA (bA (bA (bA bR _) _) _) _) b1) b2) kz3))) fun w33 b33 => s3_10.out w33 pp2_0 pp2_1 (X4.later b33) (X5.later b33) jX4 jX5 ndX4_X5 (bC kz3 b33))
  case' ns3_10 => refine lH ?_
  intro w34 pp2_0 pp2_1 X4 X5 jX4 jX5 ndX4_X5 kz3
  have S := Off.ofB kz3
  refine vY1 (vO 8 fun K hK => ?_)
  have q := X4.o; have mX5 : ¬ (pp2_1 = pp2_0) := by omega
  go_simp
  refine vW (fun W => HB W pp2_0 59 #[.bool sa, .int .u8 ca, .int .i64 ea, .int .u64 xh, .int .u64 xl] ∧ HB W pp2_1 59 #[.bool false, .int .u8 0, .int .i64 0, .int .u64 0, .int .u64 0] ∧ Below w2.heap.size w2 W) ⟨(((((X4.set 0 _).set 1 _).set 2 _).set 3 _).set 4 _), (((((X5.other mX5 0 _).other mX5 1 _).other mX5 2 _).other mX5 3 _).other mX5 4 _), (((((kz3.setCell (p := ⟨pp2_0, 0, none⟩) jX4 _).setCell (p := ⟨pp2_0, 1, none⟩) jX4 _).setCell (p := ⟨pp2_0, 2, none⟩) jX4 _).setCell (p := ⟨pp2_0, 3, none⟩) jX4 _).setCell (p := ⟨pp2_0, 4, none⟩) jX4 _)⟩ fun w36 hz => ?_
  clear q mX5 X4 X5 S kz3 w34; obtain ⟨X4, X5, kz3⟩ := hz
  refine hK.out _ _ (Off.ofB kz3) fun S => ?_; clear hK K S; refine vP ?_
  revert kz3; revert ndX4_X5; revert jX5; revert jX4; revert X5; revert X4; revert pp2_1; revert pp2_0; revert w36
  exact s3_11.out
  case' ns3_11 => refine lH ?_
  intro w37 pp2_0 pp2_1 X4 X5 jX4 jX5 ndX4_X5 kz3
  have S := Off.ofB kz3
  refine vY1 (vO 9 fun K hK => ?_)
  have q := X5.o; have mX4 : ¬ (pp2_0 = pp2_1) := by omega
  go_simp
  refine vW (fun W => HB W pp2_0 59 #[.bool sa, .int .u8 ca, .int .i64 ea, .int .u64 xh, .int .u64 xl] ∧ HB W pp2_1 59 #[.bool sb, .int .u8 cb, .int .i64 eb, .int .u64 yh, .int .u64 yl] ∧ Below w2.heap.size w2 W) ⟨(((((X4.other mX4 0 _).other mX4 1 _).other mX4 2 _).other mX4 3 _).other mX4 4 _), (((((X5.set 0 _).set 1 _).set 2 _).set 3 _).set 4 _), (((((kz3.setCell (p := ⟨pp2_1, 0, none⟩) jX5 _).setCell (p := ⟨pp2_1, 1, none⟩) jX5 _).setCell (p := ⟨pp2_1, 2, none⟩) jX5 _).setCell (p := ⟨pp2_1, 3, none⟩) jX5 _).setCell (p := ⟨pp2_1, 4, none⟩) jX5 _)⟩ fun w39 hz => ?_
  clear q mX4 X4 X5 S kz3 w37; obtain ⟨X4, X5, kz3⟩ := hz
  refine hK.out _ _ (Off.ofB kz3) fun S => ?_; clear hK K S; refine vP ?_
  revert kz3; revert ndX4_X5; revert jX5; revert jX4; revert X5; revert X4; revert pp2_1; revert pp2_0; revert w39
  exact s3_12.out
  case' ns3_12 => refine lH ?_
  intro w40 pp2_0 pp2_1 X4 X5 jX4 jX5 ndX4_X5 kz3
  refine vD ?_
  replace X0 := X0.later b2
  have nX0_X4 : w.heap.size < pp2_0 := by have := X0.lt; omega
  have nX0_X5 : w.heap.size < pp2_1 := by have := X0.lt; omega
  have nX1_X4 : w.heap.size + 1 < pp2_0 := by have := X1.lt; omega
  have nX1_X5 : w.heap.size + 1 < pp2_1 := by have := X1.lt; omega
  have nX2_X4 : w.heap.size + 1 + 1 < pp2_0 := by have := X2.lt; omega
  have nX2_X5 : w.heap.size + 1 + 1 < pp2_1 := by have := X2.lt; omega
  replace X3 := X3.later b2
  have nX3_X4 : w.heap.size + 1 + 1 + 1 < pp2_0 := by have := X3.lt; omega
  have nX3_X5 : w.heap.size + 1 + 1 + 1 < pp2_1 := by have := X3.lt; omega
  have gX4 : w.heap.size ≤ pp2_0 := by have := (bC (bC (bA (bA (bA (bA bR _) _) _) _) b1) b2).size; omega
  have gX5 : w.heap.size ≤ pp2_1 := by have := (bC (bC (bA (bA (bA (bA bR _) _) _) _) b1) b2).size; omega
  go_wp2_with fail
  replace X1 := X1.later kz3
  replace X2 := X2.later kz3
  refine' (have s41_9 : Hid (_ : Prop) := ?ns41_9; ?ms41_9)
  case' ms41_9 => skip
  refine' (have s41_8 : Hid (_ : Prop) := ?ns41_8; ?ms41_8)
  case' ms41_8 => skip
  refine' (have s41_7 : Hid (_ : Prop) := ?ns41_7; ?ms41_7)
  case' ms41_7 => skip
  refine' (have s41_6 : Hid (_ : Prop) := ?ns41_6; ?ms41_6)
  case' ms41_6 => skip
  refine' (have s41_5 : Hid (_ : Prop) := ?ns41_5; ?ms41_5)
  case' ms41_5 => skip
  refine' (have s41_4 : Hid (_ : Prop) := ?ns41_4; ?ms41_4)
  case' ms41_4 => skip
  refine' (have s41_3 : Hid (_ : Prop) := ?ns41_3; ?ms41_3)
  case' ms41_3 => skip
  refine' (have s41_2 : Hid (_ : Prop) := ?ns41_2; ?ms41_2)
  case' ms41_2 => skip
  refine' (have s41_1 : Hid (_ : Prop) := ?ns41_1; ?ms41_1)
  case' ms41_1 => skip
  refine' (have s41_0 : Hid (_ : Prop) := ?ns41_0; ?ms41_0)
  case' ms41_0 => skip
  refine vR [] fun w41 kz41 S => ?_
  refine vT 0 S ?_
  refine vT 1 S ?_ (hy := by intro wq hb; have q := (hb.hb X4 (by simp)).o; go_simp; try (with_reducible rfl))
  refine vT 2 S ?_ (hy := by intro wq hb; have q := (hb.hb X5 (by simp)).o; go_simp; try (with_reducible rfl))
  refine vT 4 S ?_ (hy := by intro wq hb; have q := (hb.hb X1 (by simp)).o; go_simp; try (with_reducible rfl))
  refine vT 5 S ?_ (hy := by intro wq hb; have q := (hb.hb X2 (by simp)).o; go_simp; try (with_reducible rfl))
  refine vY3 (cC 3 S (h4.out _) fun w42 b42 => ?_) (cB (n := 2) 6 S fun w43 pp40_0 h X6 b43 => ?_) (cA 11 S fun w44 pp40_1 h X7 b44 => ?_)
  replace kz41 := bC kz41 b42
  clear S b42 w41
  revert kz41; revert w42
  exact s41_0.out
  have jX6 := (lZ kz41.size h); replace kz41 := bC kz41 b43
  clear S b43 h w41
  revert kz41; revert jX6; revert X6; revert pp40_0; revert w43
  exact s41_1.out
  have jX7 := (lZ kz41.size h); replace kz41 := bC kz41 b44
  clear S b44 h w41
  revert kz41; revert jX7; revert X7; revert pp40_1; revert w44
  exact s41_2.out
  case' ns41_0 => refine lH ?_
  intro w45 kz41
  have S := Off.ofB kz41
  refine vY2 (cB (n := 2) 6 S fun w46 pp40_0 h X6 b46 => ?_) (cA 11 S fun w47 pp40_1 h X7 b47 => ?_)
  have jX6 := (lZ kz41.size h); replace kz41 := bC kz41 b46
  clear S b46 h w45
  revert kz41; revert jX6; revert X6; revert pp40_0; revert w46
  exact s41_3.out
  have jX7 := (lZ kz41.size h); replace kz41 := bC kz41 b47
  clear S b47 h w45
  revert kz41; revert jX7; revert X7; revert pp40_1; revert w47
  exact s41_4.out
  case' ns41_1 => refine lH ?_
  intro w48 pp40_0 X6 jX6 kz41
  have S := Off.ofB kz41
  refine vY2 (cC 3 S (h4.out _) fun w49 b49 => s41_3.out w49 pp40_0 (X6.later b49) jX6 (bC kz41 b49)) (cA 11 S fun w50 pp40_1 h X7 b50 => ?_)
  have ndX6_X7 : ¬ (pp40_0 = pp40_1) := (Nat.ne_of_lt (lY X6.lt h)); have jX7 := (lZ kz41.size h); replace X6 := (X6.later b50); replace kz41 := bC kz41 b50
  clear S b50 h w48
  revert kz41; revert ndX6_X7; revert jX7; revert jX6; revert X7; revert X6; revert pp40_1; revert pp40_0; revert w50
  exact s41_5.out
  case' ns41_2 => refine lH ?_
  intro w51 pp40_1 X7 jX7 kz41
  have S := Off.ofB kz41
  refine vY2 (cC 3 S (h4.out _) fun w52 b52 => s41_4.out w52 pp40_1 (X7.later b52) jX7 (bC kz41 b52)) (cB (n := 2) 6 S fun w53 pp40_0 h X6 b53 => s41_5.out w53 pp40_0 pp40_1 X6 (X7.later b53) (lZ kz41.size h) jX7 (Nat.ne_of_gt (lY X7.lt h)) (bC kz41 b53))
  case' ns41_3 => refine lH ?_
  intro w54 pp40_0 X6 jX6 kz41
  have S := Off.ofB kz41
  refine vY2 (cC 7 S (PK.out _ (ft.later (bC (bC (bC (bC (bA (bA (bA (bA bR _) _) _) _) b1) b2) kz3) kz41)) _ _ X6) fun w55 b55 => ?_) (cA 11 S fun w56 pp40_1 h X7 b56 => ?_)
  replace X6 := (X6.later b55); replace kz41 := bC kz41 b55
  refine vT 8 (Off.ofB kz41) ?_
  refine vT 9 (Off.ofB kz41) ?_
  refine vT 10 (Off.ofB kz41) ?_
  clear S b55 w54
  revert kz41; revert jX6; revert X6; revert pp40_0; revert w55
  exact s41_6.out
  have ndX6_X7 : ¬ (pp40_0 = pp40_1) := (Nat.ne_of_lt (lY X6.lt h)); have jX7 := (lZ kz41.size h); replace X6 := (X6.later b56); replace kz41 := bC kz41 b56
  clear S b56 h w54
  revert kz41; revert ndX6_X7; revert jX7; revert jX6; revert X7; revert X6; revert pp40_1; revert pp40_0; revert w56
  exact s41_7.out
  case' ns41_4 => refine lH ?_
  intro w57 pp40_1 X7 jX7 kz41
  have S := Off.ofB kz41
  refine vY1 (cB (n := 2) 6 S fun w58 pp40_0 h X6 b58 => s41_7.out w58 pp40_0 pp40_1 X6 (X7.later b58) (lZ kz41.size h) jX7 (Nat.ne_of_gt (lY X7.lt h)) (bC kz41 b58))
  case' ns41_5 => refine lH ?_
  intro w59 pp40_0 pp40_1 X6 X7 jX6 jX7 ndX6_X7 kz41
  have S := Off.ofB kz41
  refine vY1 (cC 3 S (h4.out _) fun w60 b60 => s41_7.out w60 pp40_0 pp40_1 (X6.later b60) (X7.later b60) jX6 jX7 ndX6_X7 (bC kz41 b60))
  case' ns41_6 => refine lH ?_
  intro w61 pp40_0 X6 jX6 kz41
  have S := Off.ofB kz41
  refine vY1 (cA 11 S fun w62 pp40_1 h X7 b62 => ?_)
  have ndX6_X7 : ¬ (pp40_0 = pp40_1) := (Nat.ne_of_lt (lY X6.lt h)); have jX7 := (lZ kz41.size h); replace X6 := (X6.later b62); replace kz41 := bC kz41 b62
  clear S b62 h w61
  revert kz41; revert ndX6_X7; revert jX7; revert jX6; revert X7; revert X6; revert pp40_1; revert pp40_0; revert w62
  exact s41_8.out
  case' ns41_7 => refine lH ?_
  intro w63 pp40_0 pp40_1 X6 X7 jX6 jX7 ndX6_X7 kz41
  have S := Off.ofB kz41
  refine vY1 (cC 7 S (PK.out _ (ft.later (bC (bC (bC (bC (bA (bA (bA (bA bR _) _) _) _) b1) b2) kz3) kz41)) _ _ X6) fun w64 b64 => ?_)
  replace X6 := (X6.later b64); replace X7 := (X7.later b64); replace kz41 := bC kz41 b64
  refine vT 8 (Off.ofB kz41) ?_
  refine vT 9 (Off.ofB kz41) ?_
  refine vT 10 (Off.ofB kz41) ?_
  clear S b64 w63
  revert kz41; revert ndX6_X7; revert jX7; revert jX6; revert X7; revert X6; revert pp40_1; revert pp40_0; revert w64
  exact s41_8.out
  case' ns41_8 => refine lH ?_
  intro w65 pp40_0 pp40_1 X6 X7 jX6 jX7 ndX6_X7 kz41
  have S := Off.ofB kz41
  refine vY1 (vO 12 fun K hK => ?_)
  have q := X7.o; have mX6 : ¬ (pp40_0 = pp40_1) := by omega
  go_simp
  refine vW (fun W => HB W pp40_0 25 #[.int .u64 ah, .int .u64 al, .int .u64 bh, .int .u64 bl] ∧ HB W pp40_1 30 #[.int .u64 ph, .int .u64 pl, .int .u8 pf] ∧ Below w40.heap.size w40 W) ⟨(((X6.other mX6 0 _).other mX6 1 _).other mX6 2 _), (((X7.set 0 _).set 1 _).set 2 _), (((kz41.setCell (p := ⟨pp40_1, 0, none⟩) jX7 _).setCell (p := ⟨pp40_1, 1, none⟩) jX7 _).setCell (p := ⟨pp40_1, 2, none⟩) jX7 _)⟩ fun w67 hz => ?_
  clear q mX6 X6 X7 S kz41 w65; obtain ⟨X6, X7, kz41⟩ := hz
  refine hK.out _ _ (Off.ofB kz41) fun S => ?_; clear hK K S; refine vP ?_
  refine vT 13 (Off.ofB kz41) ?_
  revert kz41; revert ndX6_X7; revert jX7; revert jX6; revert X7; revert X6; revert pp40_1; revert pp40_0; revert w67
  exact s41_9.out
  case' ns41_9 => refine lH ?_
  intro w68 pp40_0 pp40_1 X6 X7 jX6 jX7 ndX6_X7 kz41
  refine vD ?_
  replace X0 := X0.later kz3
  have nX0_X7 : w.heap.size < pp40_1 := by have := X0.lt; omega
  replace X3 := X3.later kz3
  have nX3_X7 : w.heap.size + 1 + 1 + 1 < pp40_1 := by have := X3.lt; omega
  have nX4_X7 : pp2_0 < pp40_1 := by have := X4.lt; omega
  have nX5_X7 : pp2_1 < pp40_1 := by have := X5.lt; omega
  have gX6 : w.heap.size ≤ pp40_0 := by have := (bC (bC (bC (bA (bA (bA (bA bR _) _) _) _) b1) b2) kz3).size; omega
  have gX7 : w.heap.size ≤ pp40_1 := by have := (bC (bC (bC (bA (bA (bA (bA bR _) _) _) _) b1) b2) kz3).size; omega
  rcases HH with rfl | ⟨rfl, ga, rfl, h6⟩ | ⟨rfl, ga, gb, rfl, h6⟩ | ⟨rfl, ga, gb, h6, h7, h8, h9⟩ | ⟨rfl, ga, gb, h6, h7, h8⟩
  · have oX7 := X7.o
    replace X3 := X3.later kz41
    have oX3 := X3.o
    have mX7_X3 : ¬ (pp40_1 = w.heap.size + 1 + 1 + 1) := by omega
    have mX3_X7 : ¬ (w.heap.size + 1 + 1 + 1 = pp40_1) := by omega
    replace X0 := X0.later kz41
    replace X4 := X4.later kz41
    replace X5 := X5.later kz41
    go_wp2_with fail
    refine bodyPost_ret (v := .agg #[.int .u64 ph, .int .u64 pl, .int .u8 pf]) ?_ rfl ⟨rfl, ((((bC (bC (bC (bC (bA (bA (bA (bA bR _) _) _) _) b1) b2) kz3) kz41).setCell (p := ⟨w.heap.size + 1 + 1 + 1, 0, none⟩) gX3 _).setCell (p := ⟨w.heap.size + 1 + 1 + 1, 1, none⟩) gX3 _).setCell (p := ⟨w.heap.size + 1 + 1 + 1, 2, none⟩) gX3 _)⟩
    simp [results, Tryz.results18, go_sem, oX3, mX7_X3, mX3_X7]
  · replace X4 := X4.later kz41
    have oX4 := X4.o
    go_wp2_with fail
    refine vM (h6.out _ (ft.later (bC (bC (bC (bC (bA (bA (bA (bA bR _) _) _) _) b1) b2) kz3) kz41))) fun w69 b69 => ?_
    clear oX4
    replace X3 := X3.later (bC kz41 b69)
    have oX3 := X3.o
    replace X0 := X0.later (bC kz41 b69)
    replace X4 := X4.later b69
    replace X5 := X5.later (bC kz41 b69)
    go_wp2_with fail
    refine bodyPost_ret (v := .agg #[.int .u64 rh, .int .u64 rl, .int .u8 0]) ?_ rfl ⟨rfl, ((((bC (bC (bC (bC (bC (bA (bA (bA (bA bR _) _) _) _) b1) b2) kz3) kz41) b69).setCell (p := ⟨w.heap.size + 1 + 1 + 1, 0, none⟩) gX3 _).setCell (p := ⟨w.heap.size + 1 + 1 + 1, 1, none⟩) gX3 _).setCell (p := ⟨w.heap.size + 1 + 1 + 1, 2, none⟩) gX3 _)⟩
    simp [results, Tryz.results18, go_sem, oX3]
  · replace X4 := X4.later kz41
    have oX4 := X4.o
    replace X5 := X5.later kz41
    have oX5 := X5.o
    go_wp2_with fail
    refine vM (h6.out _ (ft.later (bC (bC (bC (bC (bA (bA (bA (bA bR _) _) _) _) b1) b2) kz3) kz41))) fun w69 b69 => ?_
    clear oX4 oX5
    replace X3 := X3.later (bC kz41 b69)
    have oX3 := X3.o
    replace X0 := X0.later (bC kz41 b69)
    replace X4 := X4.later b69
    replace X5 := X5.later b69
    go_wp2_with fail
    refine bodyPost_ret (v := .agg #[.int .u64 rh, .int .u64 rl, .int .u8 0]) ?_ rfl ⟨rfl, ((((bC (bC (bC (bC (bC (bA (bA (bA (bA bR _) _) _) _) b1) b2) kz3) kz41) b69).setCell (p := ⟨w.heap.size + 1 + 1 + 1, 0, none⟩) gX3 _).setCell (p := ⟨w.heap.size + 1 + 1 + 1, 1, none⟩) gX3 _).setCell (p := ⟨w.heap.size + 1 + 1 + 1, 2, none⟩) gX3 _)⟩
    simp [results, Tryz.results18, go_sem, oX3]
  · replace X4 := X4.later kz41
    have oX4 := X4.o
    replace X5 := X5.later kz41
    have oX5 := X5.o
    go_wp2_with fail
    refine vM (h6.out _) fun w69 b69 => ?_
    clear oX4 oX5
    go_wp2_with fail
    refine vM (h7.out _) fun w70 b70 => ?_
    replace X3 := X3.later (bC kz41 b69)
    have nX3_X8 : w.heap.size + 1 + 1 + 1 < w69.heap.size := by have := X3.lt; omega
    replace X4 := X4.later b69
    have nX4_X8 : pp2_0 < w69.heap.size := by have := X4.lt; omega
    replace X5 := X5.later b69
    have nX5_X8 : pp2_1 < w69.heap.size := by have := X5.lt; omega
    have X8 := (HB.newAt (b := w69.heap.size) (by simp) _ _).later b70
    replace X0 := X0.later (bC (bC kz41 b69) (bC (bA bR _) b70))
    have oX0 := X0.o
    replace X4 := X4.later (bC (bA bR _) b70)
    have oX4 := X4.o
    replace X5 := X5.later (bC (bA bR _) b70)
    have oX5 := X5.o
    go_wp2_with fail
    refine vM (h8.out _) fun w71 b71 => ?_
    clear oX0 oX4 oX5
    replace X0 := X0.later b71
    have oX0 := X0.o
    replace X8 := X8.later b71
    have oX8 := X8.o
    go_wp2_with fail
    refine vM (h9.out _ (ft.later (bC (bC (bC (bC (bC (bC (bC (bA (bA (bA (bA bR _) _) _) _) b1) b2) kz3) kz41) b69) (bC (bA bR _) b70)) b71))) fun w72 b72 => ?_
    clear oX0 oX8
    replace X3 := X3.later (bC (bC (bC (bA bR _) b70) b71) b72)
    have oX3 := X3.o
    go_wp2_with fail
    refine bodyPost_ret (v := .agg #[.int .u64 rh, .int .u64 rl, .int .u8 fl]) ?_ rfl ⟨rfl, ((((bC (bC (bC (bC (bC (bC (bC (bC (bA (bA (bA (bA bR _) _) _) _) b1) b2) kz3) kz41) b69) (bC (bA bR _) b70)) b71) b72).setCell (p := ⟨w.heap.size + 1 + 1 + 1, 0, none⟩) gX3 _).setCell (p := ⟨w.heap.size + 1 + 1 + 1, 1, none⟩) gX3 _).setCell (p := ⟨w.heap.size + 1 + 1 + 1, 2, none⟩) gX3 _)⟩
    simp [results, Tryz.results18, go_sem, oX3]
  · replace X4 := X4.later kz41
    have oX4 := X4.o
    replace X5 := X5.later kz41
    have oX5 := X5.o
    go_wp2_with fail
    refine vM (h6.out _) fun w69 b69 => ?_
    clear oX4 oX5
    go_wp2_with fail
    refine vM (h7.out _) fun w70 b70 => ?_
    replace X3 := X3.later (bC kz41 b69)
    have nX3_X8 : w.heap.size + 1 + 1 + 1 < w69.heap.size := by have := X3.lt; omega
    replace X4 := X4.later b69
    have nX4_X8 : pp2_0 < w69.heap.size := by have := X4.lt; omega
    replace X5 := X5.later b69
    have nX5_X8 : pp2_1 < w69.heap.size := by have := X5.lt; omega
    have X8 := (HB.newAt (b := w69.heap.size) (by simp) _ _).later b70
    replace X0 := X0.later (bC (bC kz41 b69) (bC (bA bR _) b70))
    have oX0 := X0.o
    have oX8 := X8.o
    go_wp2_with fail
    refine vM (h8.out _ (ft.later (bC (bC (bC (bC (bC (bC (bA (bA (bA (bA bR _) _) _) _) b1) b2) kz3) kz41) b69) (bC (bA bR _) b70)))) fun w71 b71 => ?_
    clear oX0 oX8
    replace X3 := X3.later (bC (bC (bA bR _) b70) b71)
    have oX3 := X3.o
    replace X8 := X8.later b71
    go_wp2_with fail
    refine bodyPost_ret (v := .agg #[.int .u64 rh, .int .u64 rl, .int .u8 fl]) ?_ rfl ⟨rfl, ((((bC (bC (bC (bC (bC (bC (bC (bA (bA (bA (bA bR _) _) _) _) b1) b2) kz3) kz41) b69) (bC (bA bR _) b70)) b71).setCell (p := ⟨w.heap.size + 1 + 1 + 1, 0, none⟩) gX3 _).setCell (p := ⟨w.heap.size + 1 + 1 + 1, 1, none⟩) gX3 _).setCell (p := ⟨w.heap.size + 1 + 1 + 1, 2, none⟩) gX3 _)⟩
    simp [results, Tryz.results18, go_sem, oX3]
end Go.Proofs.YtjdjonekoodalaaGreatDoor
namespace Go.Proofs.YtjdjonekoodalaaGreatDoor
open Go.RowKit
attribute [local go_sem ↓] Go.wp_at_zero Go.wp_at_succ
theorem opp_any (f a b : Int) (w : World) : Calls Tryz.prog 49 #[.agg #[.bool (negF f a), .int .u8 (clsF f a), .int .i64 (uE f a), .int .u64 (hiOf (uS f a)), .int .u64 (loOf (uS f a))], .agg #[.bool (negF f b), .int .u8 (clsF f b), .int .i64 (uE f b), .int .u64 (hiOf (uS f b)), .int .u64 (loOf (uS f b))]] w fun e w' => e = .returned (.bool (adI f a b (negF f b))) ∧ Below w.heap.size w w' := by
  unfold adI
  by_cases h1 : clsF f a = 3
  · by_cases h2 : clsF f b = 3
    · rw [h1, h2, show decide ((3 : Int) = 3 ∧ (3 : Int) = 3 ∧ negF f a ≠ negF f b) = (negF f a != negF f b) by cases negF f a <;> cases negF f b <;> rfl]
      exact ad_opposed_c _ _ _ _ _ _ _ _ w
    · rw [h1, decide_eq_false (fun k => h2 k.2.1)]
      exact ad_opposed_b _ _ _ _ _ _ _ _ _ (beq_eq_false_iff_ne.2 h2) w
  · rw [decide_eq_false (fun k => h1 k.1)]
    exact ad_opposed_a _ _ _ _ _ _ _ _ _ _ (beq_eq_false_iff_ne.2 h1) w
theorem sumN (f a b : Int) (f0 : 0 ≤ f) (a0 : 0 ≤ a) (b0 : 0 ≤ b) (w : World) : Calls Tryz.prog 50 #[.agg #[.bool (negF f a), .int .u8 (clsF f a), .int .i64 (uE f a), .int .u64 (hiOf (uS f a)), .int .u64 (loOf (uS f a))], .agg #[.bool (negF f b), .int .u8 (clsF f b), .int .i64 (uE f b), .int .u64 (hiOf (uS f b)), .int .u64 (loOf (uS f b))]] w fun e w' => e = .returned (.tuple #[.agg #[.int .i64 (adE f a b (negF f b)), .int .u64 (wd0 (adS f a b (negF f b))), .int .u64 (wd1 (adS f a b (negF f b))), .int .u64 (wd2 (adS f a b (negF f b))), .int .u64 (wd3 (adS f a b (negF f b)))], .bool (adT f a b (negF f b))]) ∧ Below w.heap.size w w' := by
  obtain ⟨p0, p1⟩ := uS_range f0 a0
  obtain ⟨q0, q1⟩ := uS_range f0 b0
  have ra := room_u (f := f) f0 a0; have rb := room_u (f := f) f0 b0
  have ea := uE_range (f := f) f0 a0; have eb := uE_range (f := f) f0 b0
  obtain ⟨i0, i1, i2, i3⟩ := wd_up128 p0 p1
  obtain ⟨j0, j1, j2, j3⟩ := wd_up128 q0 q1
  have OA := lH (magOK.of_ (negF f a) (clsF f a) (uE f a) (hiOf (uS f a)) (loOf (uS f a)) (hiOf_u _) (loOf_u _))
  have OB := lH (magOK.of_ (negF f b) (clsF f b) (uE f b) (hiOf (uS f b)) (loOf (uS f b)) (hiOf_u _) (loOf_u _))
  by_cases h : negF f a = negF f b
  · have SM := magOK.sum (uE f a) (uS f a * full) (uE f b) (uS f b * full) (by omega) (by omega) ra.1 ra.2.1 (by omega) (by omega) rb.1 rb.2.1
    rw [i0, i1, i2, i3, j0, j1, j2, j3] at SM
    unfold adE adS adT
    rw [if_pos h, if_pos h, if_pos h]
    generalize levT (uE f a) (uS f a * full) (uE f b) (uS f b * full) = Lv at SM ⊢
    generalize sumT (uE f a) (uS f a * full) (uE f b) (uS f b * full) = Sv at SM ⊢
    have R := ad_sum_1 _ _ _ _ _ _ _ _ _ _ _ _ _ (negF f a) (negF f b) false OA OB (lH fun w => ad_added _ _ _ _ _ _ _ _ _ _ _ _ _ _ _ (lH SM) w) (lH fun bx bz w c0 c1 => ad_sum1_1 bx bz 0 0 0 0 0 0 0 0 _ _ (by simp [h]) w c0 c1) w
    rw [show (!(negF f a == false)) = negF f a by cases negF f a <;> rfl] at R
    exact R
  · have SM := magOK.diff (uE f a) (uS f a * full) (uE f b) (uS f b * full) (by omega) (by omega) ra.1 ra.2.1 (by omega) (by omega) rb.1 rb.2.1
    rw [i0, i1, i2, i3, j0, j1, j2, j3] at SM
    unfold adE adS adT
    rw [if_neg h, if_neg h, if_neg h]
    have e : (!(negF f a == decide (cmpT (uE f a) (uS f a * full) (uE f b) (uS f b * full) < 0))) = (if cmpT (uE f a) (uS f a * full) (uE f b) (uS f b * full) < 0 then negF f b else negF f a) := by
      by_cases k : cmpT (uE f a) (uS f a * full) (uE f b) (uS f b * full) < 0
      · rw [if_pos k, decide_eq_true k]; revert h; cases negF f a <;> cases negF f b <;> simp
      · rw [if_neg k, decide_eq_false k]; cases negF f a <;> rfl
    rw [← e]
    generalize levT (uE f a) (uS f a * full) (uE f b) (uS f b * full) = Lv at SM ⊢
    generalize diffT (uE f a) (uS f a * full) (uE f b) (uS f b * full) = Sv at SM ⊢
    generalize decide (cmpT (uE f a) (uS f a * full) (uE f b) (uS f b * full) < 0) = Tv at SM ⊢
    exact ad_sum_0 _ _ _ _ _ _ _ _ _ _ _ _ _ (negF f a) (negF f b) _ OA OB (lH SM) (lH fun bx bz w c0 c1 => ad_sum1_0 bx bz 0 0 0 0 0 0 0 0 _ _ (by simp [h]) w c0 c1) w
theorem addN (f m : Int) (t : Bool) (a b : Int) (f0 : 0 ≤ f) (f1 : f ≤ 255) (m0 : 0 ≤ m) (m1 : m ≤ 255) (a0 : 0 ≤ a) (a1 : a < full) (b0 : 0 ≤ b) (b1 : b < full) (w : World) (ft : FTab w) : Calls Tryz.prog 18 #[.int .u8 f, .agg #[.int .u8 m, .bool t], .agg #[.int .u64 (hiOf (a)), .int .u64 (loOf (a))], .agg #[.int .u64 (hiOf (b)), .int .u64 (loOf (b))]] w fun e w' => e = .returned (.agg #[.int .u64 (hiOf (adB f m a b (negF f b))), .int .u64 (loOf (adB f m a b (negF f b))), .int .u8 (adFl f m t a b (negF f b))]) ∧ Below w.heap.size w w' := by
  have K := formOK.known f f0 f1
  have M := modeOK.known m m0 m1
  by_cases hf : f < 4
  · rw [decide_eq_true hf] at K
    by_cases hm : m < 5
    · rw [decide_eq_true hm] at M
      have UA := lH (unpackA f a f0 f1 a0 a1)
      have UB := lH (unpackA f b f0 f1 b0 b1)
      have OP := lH (opp_any f a b)
      have PK : ∀ w, FTab w → ∀ p T, HB w p T #[.int .u64 (hiOf a), .int .u64 (loOf a), .int .u64 (hiOf b), .int .u64 (loOf b)] → Calls Tryz.prog 31 #[.int .u8 f, .bool (adI f a b (negF f b)), .slice (some ⟨p, 0, none⟩) 2 2] w fun e w' => e = .returned (.tuple #[.agg #[.int .u64 (hiOf (pickV f (adI f a b (negF f b)) [a, b])), .int .u64 (loOf (pickV f (adI f a b (negF f b)) [a, b])), .int .u8 (pickF f (adI f a b (negF f b)) [a, b])], .bool (pickK f (adI f a b (negF f b)) [a, b])]) ∧ Below w.heap.size w w' := fun w ft p T x => nanOK.pick f (adI f a b (negF f b)) (some ⟨p, 0, none⟩) 2 2 [a, b] f0 f1 w ft (Bs.ofHB [a, b] x rfl (by simp))
      obtain ⟨er0, er1, sr0, sr1⟩ := ad_range (f := f) (negF f b) f0 a0 b0
      unfold adB adFl
      simp only [if_pos (show f < 4 ∧ m < 5 from ⟨hf, hm⟩)]
      cases hp : pickK f (adI f a b (negF f b)) [a, b] with
      | true =>
        rw [hp] at PK
        simp only [if_pos (rfl : true = true)]
        exact ad_Add_yes f m _ _ _ _ _ _ _ _ _ _ _ _ _ _ _ 0 0 0 0 0 0 0 0 t _ _ _ true false false (lH K) (lH M) UA UB OP (lH PK) (.inl rfl) w ft
      | false =>
        rw [hp] at PK
        simp only [if_neg (show ¬ (false = true) by decide)]
        by_cases ca : clsF f a = 3
        · simp only [if_pos ca]
          exact ad_Add_yes f m _ _ _ _ _ _ _ _ _ _ _ _ _ _ _ _ _ 0 0 0 0 0 0 t _ _ _ false false false (lH K) (lH M) UA UB OP (lH PK) (.inr (.inl ⟨rfl, beq_iff_eq.2 ca, rfl, lH (formOK.inf f (negF f a) f0 f1)⟩)) w ft
        · simp only [if_neg ca]
          have ga : (clsF f a == 3) = false := beq_eq_false_iff_ne.2 ca
          by_cases cb : clsF f b = 3
          · simp only [if_pos cb]
            exact ad_Add_yes f m _ _ _ _ _ _ _ _ _ _ _ _ _ _ _ _ _ 0 0 0 0 0 0 t _ _ _ false false false (lH K) (lH M) UA UB OP (lH PK) (.inr (.inr (.inl ⟨rfl, ga, beq_iff_eq.2 cb, rfl, lH (formOK.inf f (negF f b) f0 f1)⟩))) w ft
          · simp only [if_neg cb]
            have gb : (clsF f b == 3) = false := beq_eq_false_iff_ne.2 cb
            have SN := lH (sumN f a b f0 a0 b0)
            have ZR := zeroW (adS f a b (negF f b))
            rw [Int.emod_eq_of_lt sr0 sr1] at ZR
            have RD := fun ng => lH (packOK.round f m t ng (adE f a b (negF f b)) (adS f a b (negF f b)) f0 f1 m0 m1 er0 er1 sr0 sr1)
            unfold adN
            by_cases z : adS f a b (negF f b) = 0
            · rw [show (adS f a b (negF f b) == 0) = true from beq_iff_eq.2 z] at ZR
              simp only [if_pos z]
              exact ad_Add_yes f m _ _ _ _ _ _ _ _ _ _ _ _ _ _ _ _ _ _ _ _ _ _ _ t _ _ _ false _ _ (lH K) (lH M) UA UB OP (lH PK) (.inr (.inr (.inr (.inl ⟨rfl, ga, gb, SN, lH ZR, lH (noM_any m t (negF f a) (negF f b)), RD _⟩)))) w ft
            · rw [show (adS f a b (negF f b) == 0) = false from beq_eq_false_iff_ne.2 z] at ZR
              simp only [if_neg z]
              exact ad_Add_yes f m _ _ _ _ _ _ _ _ _ _ _ _ _ _ _ _ _ _ _ _ _ _ _ t _ _ _ false _ false (lH K) (lH M) UA UB OP (lH PK) (.inr (.inr (.inr (.inr ⟨rfl, ga, gb, SN, lH ZR, RD _⟩)))) w ft
    · rw [decide_eq_false hm] at M
      unfold adB adFl
      simp only [if_neg (show ¬ (f < 4 ∧ m < 5) from fun k => hm k.2)]
      exact ad_Add_no2 f m _ _ _ _ t (lH K) (lH M) w ft
  · rw [decide_eq_false hf] at K
    unfold adB adFl
    simp only [if_neg (show ¬ (f < 4 ∧ m < 5) from fun k => hf k.1)]
    exact ad_Add_no1 f m _ _ _ _ t (lH K) w ft
theorem addOK : AddOK where
  add := fun f m t a b f0 f1 m0 m1 a0 a1 b0 b1 w ft => addN f m t a b f0 f1 m0 m1 a0 a1 b0 b1 w ft
  turn := fun f b f0 f1 b0 b1 w ft => turnN f b f0 f1 b0 b1 w ft
  nought := fun m t a b _ _ w => noM_any m t a b w
end Go.Proofs.YtjdjonekoodalaaGreatDoor
