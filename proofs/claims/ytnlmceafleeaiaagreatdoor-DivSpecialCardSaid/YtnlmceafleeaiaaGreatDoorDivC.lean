import Derived.Test.YtnlmceafleeaiaaGreatDoorGwA
import Derived.Test.YtnlmceafleeaiaaGreatDoorGfA
import Derived.Test.YtnlmceafleeaiaaGreatDoorGaB
import Derived.Test.YtnlmceafleeaiaaGreatDoorGhA
import Derived.Test.YtnlmceafleeaiaaGreatDoorGaA
set_option maxHeartbeats 4000000
set_option linter.unusedVariables false
set_option linter.unusedSimpArgs false
set_option maxRecDepth 100000
namespace Go.Proofs.YtnlmceafleeaiaaGreatDoor
open Go.RowKit
attribute [local go_sem ↓] Go.wp_at_zero Go.wp_at_succ
theorem dv_inv_a (f m ah al bh bl ca ea xh xl cb eb yh yl : Int) (t sa sb : Bool)
     (g1 : (ca == cb) = false) (w : World) :
    Ca 138 #[.agg #[.int .u8 f, .int .u8 m, .bool t, .int .u64 ah, .int .u64 al, .int .u64 bh, .int .u64 bl, .bool sa, .int .u8 ca, .int .i64 ea, .int .u64 xh, .int .u64 xl, .bool sb, .int .u8 cb, .int .i64 eb, .int .u64 yh, .int .u64 yl]] w (.bool false) := by
  simp only [Ca] at *
  go_enter Tryz.func138, Tryz.ntmps138
  go_wp2_with fail
  go_ret
  exact ⟨rfl, (bA bR _)⟩
theorem dv_inv_b (f m ah al bh bl ca ea xh xl cb eb yh yl : Int) (t sa sb : Bool)
     (g1 : (ca == cb) = true) (g2 : (ca == 3) = true) (w : World) :
    Ca 138 #[.agg #[.int .u8 f, .int .u8 m, .bool t, .int .u64 ah, .int .u64 al, .int .u64 bh, .int .u64 bl, .bool sa, .int .u8 ca, .int .i64 ea, .int .u64 xh, .int .u64 xl, .bool sb, .int .u8 cb, .int .i64 eb, .int .u64 yh, .int .u64 yl]] w (.bool true) := by
  simp only [Ca] at *
  go_enter Tryz.func138, Tryz.ntmps138
  go_wp2_with fail
  go_ret
  exact ⟨rfl, (bA bR _)⟩
theorem dv_inv_c (f m ah al bh bl ca ea xh xl cb eb yh yl : Int) (t sa sb : Bool)
     (g1 : (ca == cb) = true) (g2 : (ca == 3) = false) (w : World) :
    Ca 138 #[.agg #[.int .u8 f, .int .u8 m, .bool t, .int .u64 ah, .int .u64 al, .int .u64 bh, .int .u64 bl, .bool sa, .int .u8 ca, .int .i64 ea, .int .u64 xh, .int .u64 xl, .bool sb, .int .u8 cb, .int .i64 eb, .int .u64 yh, .int .u64 yl]] w (.bool ((ca == 0))) := by
  simp only [Ca] at *
  go_enter Tryz.func138, Tryz.ntmps138
  go_wp2_with fail
  go_ret
  exact ⟨rfl, (bA bR _)⟩
theorem dv_negative (f m ah al bh bl ca ea xh xl cb eb yh yl : Int) (t sa sb : Bool)
     (w : World) :
    Ca 84 #[.agg #[.int .u8 f, .int .u8 m, .bool t, .int .u64 ah, .int .u64 al, .int .u64 bh, .int .u64 bl, .bool sa, .int .u8 ca, .int .i64 ea, .int .u64 xh, .int .u64 xl, .bool sb, .int .u8 cb, .int .i64 eb, .int .u64 yh, .int .u64 yl]] w (.bool ((!(sa == sb)))) := by
  simp only [Ca] at *
  go_enter Tryz.func84, Tryz.ntmps84
  go_wp2_with fail
  go_ret
  exact ⟨rfl, (bA bR _)⟩
theorem dv_infinity (f m ah al bh bl ca ea xh xl cb eb yh yl rh rl : Int) (t sa sb n : Bool)
    (h0 : Hid (∀ w, Ca 84 #[.agg #[.int .u8 f, .int .u8 m, .bool t, .int .u64 ah, .int .u64 al, .int .u64 bh, .int .u64 bl, .bool sa, .int .u8 ca, .int .i64 ea, .int .u64 xh, .int .u64 xl, .bool sb, .int .u8 cb, .int .i64 eb, .int .u64 yh, .int .u64 yl]] w (.bool n)))
    (h1 : Hid (∀ w, FTab w → Ca 28 #[.int .u8 f, .bool n] w (U2 rh rl))) (w : World) (ft : FTab w) :
    Ca 75 #[.agg #[.int .u8 f, .int .u8 m, .bool t, .int .u64 ah, .int .u64 al, .int .u64 bh, .int .u64 bl, .bool sa, .int .u8 ca, .int .i64 ea, .int .u64 xh, .int .u64 xl, .bool sb, .int .u8 cb, .int .i64 eb, .int .u64 yh, .int .u64 yl]] w (.agg #[.int .u64 rh, .int .u64 rl, .int .u8 0]) := by
  simp only [Ca, U2] at *
  go_enter Tryz.func75, Tryz.ntmps75
  go_wp2_with fail
  have gX1 : w.heap.size ≤ w.heap.size + 1 := by omega
  refine vF2 fun w1 b1 X0 X1 => ?_
  refine vR [w.heap.size + 1] fun w2 b2 S2 => ?_
  refine vT 0 S2 ?_
  refine vT 1 S2 ?_ (hy := by intro wq hb; have q := (hb.hb X0 (by simp <;> omega)).o; go_simp; try (with_reducible rfl))
  refine vT 2 S2 ?_ (hy := by intro wq hb; have q := (hb.hb X0 (by simp <;> omega)).o; go_simp; try (with_reducible rfl))
  refine vY1 (vC 3 S2 (h0.out _) (fun _ _ => Off.later) fun w3 b3 S3 => ?_)
  refine vY1 (vC 4 S3 (h1.out _ (ft.later (bC (bC b1 b2) b3))) (fun _ _ => Off.later) fun w4 b4 S4 => ?_)
  refine vT 5 S4 ?_
  refine vY1 (vO 6 fun K hK => ?_)
  replace X1 := X1.later (bC (bC b2 b3) b4)
  have oX1 := X1.o
  go_simp
  refine hK.out _ _ (Off.set (by simp) (Off.set (by simp) (Off.set (by simp) S4))) fun S5 => ?_
  clear hK K
  refine vP ?_
  refine vD ?_
  go_wp2_with fail
  refine bodyPost_ret (v := .agg #[.int .u64 rh, .int .u64 rl, .int .u8 0]) ?_ rfl ⟨rfl, ((((bC (bC (bC b1 b2) b3) b4).setCell (p := ⟨w.heap.size + 1, 0, none⟩) gX1 _).setCell (p := ⟨w.heap.size + 1, 1, none⟩) gX1 _).setCell (p := ⟨w.heap.size + 1, 2, none⟩) gX1 _)⟩
  simp [results, Tryz.results75, go_sem, oX1]
theorem dv_nought (f m ah al bh bl ca ea xh xl cb eb yh yl rh rl : Int) (t sa sb n : Bool)
    (h0 : Hid (∀ w, Ca 84 #[.agg #[.int .u8 f, .int .u8 m, .bool t, .int .u64 ah, .int .u64 al, .int .u64 bh, .int .u64 bl, .bool sa, .int .u8 ca, .int .i64 ea, .int .u64 xh, .int .u64 xl, .bool sb, .int .u8 cb, .int .i64 eb, .int .u64 yh, .int .u64 yl]] w (.bool n)))
    (h1 : Hid (∀ w, FTab w → Ca 27 #[.int .u8 f, .bool n] w (U2 rh rl))) (w : World) (ft : FTab w) :
    Ca 77 #[.agg #[.int .u8 f, .int .u8 m, .bool t, .int .u64 ah, .int .u64 al, .int .u64 bh, .int .u64 bl, .bool sa, .int .u8 ca, .int .i64 ea, .int .u64 xh, .int .u64 xl, .bool sb, .int .u8 cb, .int .i64 eb, .int .u64 yh, .int .u64 yl]] w (.agg #[.int .u64 rh, .int .u64 rl, .int .u8 0]) := by
  simp only [Ca, U2] at *
  go_enter Tryz.func77, Tryz.ntmps77
  go_wp2_with fail
  have gX1 : w.heap.size ≤ w.heap.size + 1 := by omega
  refine vF2 fun w1 b1 X0 X1 => ?_
  refine vR [w.heap.size + 1] fun w2 b2 S2 => ?_
  refine vT 0 S2 ?_
  refine vT 1 S2 ?_ (hy := by intro wq hb; have q := (hb.hb X0 (by simp <;> omega)).o; go_simp; try (with_reducible rfl))
  refine vT 2 S2 ?_ (hy := by intro wq hb; have q := (hb.hb X0 (by simp <;> omega)).o; go_simp; try (with_reducible rfl))
  refine vY1 (vC 3 S2 (h0.out _) (fun _ _ => Off.later) fun w3 b3 S3 => ?_)
  refine vY1 (vC 4 S3 (h1.out _ (ft.later (bC (bC b1 b2) b3))) (fun _ _ => Off.later) fun w4 b4 S4 => ?_)
  refine vT 5 S4 ?_
  refine vY1 (vO 6 fun K hK => ?_)
  replace X1 := X1.later (bC (bC b2 b3) b4)
  have oX1 := X1.o
  go_simp
  refine hK.out _ _ (Off.set (by simp) (Off.set (by simp) (Off.set (by simp) S4))) fun S5 => ?_
  clear hK K
  refine vP ?_
  refine vD ?_
  go_wp2_with fail
  refine bodyPost_ret (v := .agg #[.int .u64 rh, .int .u64 rl, .int .u8 0]) ?_ rfl ⟨rfl, ((((bC (bC (bC b1 b2) b3) b4).setCell (p := ⟨w.heap.size + 1, 0, none⟩) gX1 _).setCell (p := ⟨w.heap.size + 1, 1, none⟩) gX1 _).setCell (p := ⟨w.heap.size + 1, 2, none⟩) gX1 _)⟩
  simp [results, Tryz.results77, go_sem, oX1]
theorem dv_byZero (f m ah al bh bl ca ea xh xl cb eb yh yl rh rl : Int) (t sa sb n : Bool)
    (h0 : Hid (∀ w, Ca 84 #[.agg #[.int .u8 f, .int .u8 m, .bool t, .int .u64 ah, .int .u64 al, .int .u64 bh, .int .u64 bl, .bool sa, .int .u8 ca, .int .i64 ea, .int .u64 xh, .int .u64 xl, .bool sb, .int .u8 cb, .int .i64 eb, .int .u64 yh, .int .u64 yl]] w (.bool n)))
    (h1 : Hid (∀ w, FTab w → Ca 28 #[.int .u8 f, .bool n] w (U2 rh rl))) (w : World) (ft : FTab w) :
    Ca 79 #[.agg #[.int .u8 f, .int .u8 m, .bool t, .int .u64 ah, .int .u64 al, .int .u64 bh, .int .u64 bl, .bool sa, .int .u8 ca, .int .i64 ea, .int .u64 xh, .int .u64 xl, .bool sb, .int .u8 cb, .int .i64 eb, .int .u64 yh, .int .u64 yl]] w (.agg #[.int .u64 rh, .int .u64 rl, .int .u8 2]) := by
  simp only [Ca, U2] at *
  go_enter Tryz.func79, Tryz.ntmps79
  go_wp2_with fail
  have gX1 : w.heap.size ≤ w.heap.size + 1 := by omega
  refine vF2 fun w1 b1 X0 X1 => ?_
  refine vR [w.heap.size + 1] fun w2 b2 S2 => ?_
  refine vT 0 S2 ?_
  refine vT 1 S2 ?_ (hy := by intro wq hb; have q := (hb.hb X0 (by simp <;> omega)).o; go_simp; try (with_reducible rfl))
  refine vT 2 S2 ?_ (hy := by intro wq hb; have q := (hb.hb X0 (by simp <;> omega)).o; go_simp; try (with_reducible rfl))
  refine vY1 (vC 3 S2 (h0.out _) (fun _ _ => Off.later) fun w3 b3 S3 => ?_)
  refine vY1 (vC 4 S3 (h1.out _ (ft.later (bC (bC b1 b2) b3))) (fun _ _ => Off.later) fun w4 b4 S4 => ?_)
  refine vT 5 S4 ?_
  refine vY1 (vO 6 fun K hK => ?_)
  replace X1 := X1.later (bC (bC b2 b3) b4)
  have oX1 := X1.o
  go_simp
  refine hK.out _ _ (Off.set (by simp) (Off.set (by simp) (Off.set (by simp) S4))) fun S5 => ?_
  clear hK K
  refine vP ?_
  refine vD ?_
  go_wp2_with fail
  refine bodyPost_ret (v := .agg #[.int .u64 rh, .int .u64 rl, .int .u8 2]) ?_ rfl ⟨rfl, ((((bC (bC (bC b1 b2) b3) b4).setCell (p := ⟨w.heap.size + 1, 0, none⟩) gX1 _).setCell (p := ⟨w.heap.size + 1, 1, none⟩) gX1 _).setCell (p := ⟨w.heap.size + 1, 2, none⟩) gX1 _)⟩
  simp [results, Tryz.results79, go_sem, oX1]
theorem dv_undefined (f m ah al bh bl ca ea xh xl cb eb yh yl ph pl pf : Int) (t sa sb i pk : Bool)
    (h0 : Hid (∀ w, Ca 138 #[.agg #[.int .u8 f, .int .u8 m, .bool t, .int .u64 ah, .int .u64 al, .int .u64 bh, .int .u64 bl, .bool sa, .int .u8 ca, .int .i64 ea, .int .u64 xh, .int .u64 xl, .bool sb, .int .u8 cb, .int .i64 eb, .int .u64 yh, .int .u64 yl]] w (.bool i))) (PK : Hid (∀ w, FTab w → ∀ p T, HB w p T #[.int .u64 ah, .int .u64 al, .int .u64 bh, .int .u64 bl] → Ca 43 #[.int .u8 f, .bool i, .slice (some ⟨p, 0, none⟩) 2 2] w (.tuple #[.agg #[.int .u64 ph, .int .u64 pl, .int .u8 pf], .bool pk]))) (w : World) (ft : FTab w) :
    Ca 72 #[.agg #[.int .u8 f, .int .u8 m, .bool t, .int .u64 ah, .int .u64 al, .int .u64 bh, .int .u64 bl, .bool sa, .int .u8 ca, .int .i64 ea, .int .u64 xh, .int .u64 xl, .bool sb, .int .u8 cb, .int .i64 eb, .int .u64 yh, .int .u64 yl]] w (.bool pk) := by
  simp only [Ca] at *
  go_enter Tryz.func72, Tryz.ntmps72
  go_wp2_with fail
  refine vF1 fun w1 b1 X0 => ?_
  refine' (have s2_9 : Hid (_ : Prop) := ?ns2_9; ?ms2_9)
  case' ms2_9 => skip
  refine' (have s2_8 : Hid (_ : Prop) := ?ns2_8; ?ms2_8)
  case' ms2_8 => skip
  refine' (have s2_7 : Hid (_ : Prop) := ?ns2_7; ?ms2_7)
  case' ms2_7 => skip
  refine' (have s2_6 : Hid (_ : Prop) := ?ns2_6; ?ms2_6)
  case' ms2_6 => skip
  refine' (have s2_5 : Hid (_ : Prop) := ?ns2_5; ?ms2_5)
  case' ms2_5 => skip
  refine' (have s2_4 : Hid (_ : Prop) := ?ns2_4; ?ms2_4)
  case' ms2_4 => skip
  refine' (have s2_3 : Hid (_ : Prop) := ?ns2_3; ?ms2_3)
  case' ms2_3 => skip
  refine' (have s2_2 : Hid (_ : Prop) := ?ns2_2; ?ms2_2)
  case' ms2_2 => skip
  refine' (have s2_1 : Hid (_ : Prop) := ?ns2_1; ?ms2_1)
  case' ms2_1 => skip
  refine' (have s2_0 : Hid (_ : Prop) := ?ns2_0; ?ms2_0)
  case' ms2_0 => skip
  refine vR [] fun w2 kz2 S => ?_
  refine vT 0 S ?_
  refine vT 1 S ?_ (hy := by intro wq hb; have q := (hb.hb X0 (by simp)).o; go_simp; try (with_reducible rfl))
  refine vT 2 S ?_ (hy := by intro wq hb; have q := (hb.hb X0 (by simp)).o; go_simp; try (with_reducible rfl))
  refine vT 4 S ?_
  refine vT 5 S ?_ (hy := by intro wq hb; have q := (hb.hb X0 (by simp)).o; go_simp; try (with_reducible rfl))
  refine vT 6 S ?_
  refine vT 7 S ?_ (hy := by intro wq hb; have q := (hb.hb X0 (by simp)).o; go_simp; try (with_reducible rfl))
  refine vY3 (cC 3 S (h0.out _) fun w3 b3 => ?_) (cB (n := 2) 8 S fun w4 pp1_0 h X1 b4 => ?_) (cA 13 S fun w5 pp1_1 h X2 b5 => ?_)
  replace kz2 := bC kz2 b3
  clear S b3 w2
  revert kz2; revert w3
  exact s2_0.out
  have jX1 := (lZ kz2.size h); replace kz2 := bC kz2 b4
  clear S b4 h w2
  revert kz2; revert jX1; revert X1; revert pp1_0; revert w4
  exact s2_1.out
  have jX2 := (lZ kz2.size h); replace kz2 := bC kz2 b5
  clear S b5 h w2
  revert kz2; revert jX2; revert X2; revert pp1_1; revert w5
  exact s2_2.out
  case' ns2_0 => refine lH ?_
  intro w6 kz2
  have S := Off.ofB kz2
  refine vY2 (cB (n := 2) 8 S fun w7 pp1_0 h X1 b7 => ?_) (cA 13 S fun w8 pp1_1 h X2 b8 => ?_)
  have jX1 := (lZ kz2.size h); replace kz2 := bC kz2 b7
  clear S b7 h w6
  revert kz2; revert jX1; revert X1; revert pp1_0; revert w7
  exact s2_3.out
  have jX2 := (lZ kz2.size h); replace kz2 := bC kz2 b8
  clear S b8 h w6
  revert kz2; revert jX2; revert X2; revert pp1_1; revert w8
  exact s2_4.out
  case' ns2_1 => refine lH ?_
  intro w9 pp1_0 X1 jX1 kz2
  have S := Off.ofB kz2
  refine vY2 (cC 3 S (h0.out _) fun w10 b10 => s2_3.out w10 pp1_0 (X1.later b10) jX1 (bC kz2 b10)) (cA 13 S fun w11 pp1_1 h X2 b11 => ?_)
  have ndX1_X2 : ¬ (pp1_0 = pp1_1) := (Nat.ne_of_lt (lY X1.lt h)); have jX2 := (lZ kz2.size h); replace X1 := (X1.later b11); replace kz2 := bC kz2 b11
  clear S b11 h w9
  revert kz2; revert ndX1_X2; revert jX2; revert jX1; revert X2; revert X1; revert pp1_1; revert pp1_0; revert w11
  exact s2_5.out
  case' ns2_2 => refine lH ?_
  intro w12 pp1_1 X2 jX2 kz2
  have S := Off.ofB kz2
  refine vY2 (cC 3 S (h0.out _) fun w13 b13 => s2_4.out w13 pp1_1 (X2.later b13) jX2 (bC kz2 b13)) (cB (n := 2) 8 S fun w14 pp1_0 h X1 b14 => s2_5.out w14 pp1_0 pp1_1 X1 (X2.later b14) (lZ kz2.size h) jX2 (Nat.ne_of_gt (lY X2.lt h)) (bC kz2 b14))
  case' ns2_3 => refine lH ?_
  intro w15 pp1_0 X1 jX1 kz2
  have S := Off.ofB kz2
  refine vY2 (cC 9 S (PK.out _ (ft.later (bC b1 kz2)) _ _ X1) fun w16 b16 => ?_) (cA 13 S fun w17 pp1_1 h X2 b17 => ?_)
  replace X1 := (X1.later b16); replace kz2 := bC kz2 b16
  refine vT 10 (Off.ofB kz2) ?_
  refine vT 11 (Off.ofB kz2) ?_
  refine vT 12 (Off.ofB kz2) ?_
  clear S b16 w15
  revert kz2; revert jX1; revert X1; revert pp1_0; revert w16
  exact s2_6.out
  have ndX1_X2 : ¬ (pp1_0 = pp1_1) := (Nat.ne_of_lt (lY X1.lt h)); have jX2 := (lZ kz2.size h); replace X1 := (X1.later b17); replace kz2 := bC kz2 b17
  clear S b17 h w15
  revert kz2; revert ndX1_X2; revert jX2; revert jX1; revert X2; revert X1; revert pp1_1; revert pp1_0; revert w17
  exact s2_7.out
  case' ns2_4 => refine lH ?_
  intro w18 pp1_1 X2 jX2 kz2
  have S := Off.ofB kz2
  refine vY1 (cB (n := 2) 8 S fun w19 pp1_0 h X1 b19 => s2_7.out w19 pp1_0 pp1_1 X1 (X2.later b19) (lZ kz2.size h) jX2 (Nat.ne_of_gt (lY X2.lt h)) (bC kz2 b19))
  case' ns2_5 => refine lH ?_
  intro w20 pp1_0 pp1_1 X1 X2 jX1 jX2 ndX1_X2 kz2
  have S := Off.ofB kz2
  refine vY1 (cC 3 S (h0.out _) fun w21 b21 => s2_7.out w21 pp1_0 pp1_1 (X1.later b21) (X2.later b21) jX1 jX2 ndX1_X2 (bC kz2 b21))
  case' ns2_6 => refine lH ?_
  intro w22 pp1_0 X1 jX1 kz2
  have S := Off.ofB kz2
  refine vY1 (cA 13 S fun w23 pp1_1 h X2 b23 => ?_)
  have ndX1_X2 : ¬ (pp1_0 = pp1_1) := (Nat.ne_of_lt (lY X1.lt h)); have jX2 := (lZ kz2.size h); replace X1 := (X1.later b23); replace kz2 := bC kz2 b23
  clear S b23 h w22
  revert kz2; revert ndX1_X2; revert jX2; revert jX1; revert X2; revert X1; revert pp1_1; revert pp1_0; revert w23
  exact s2_8.out
  case' ns2_7 => refine lH ?_
  intro w24 pp1_0 pp1_1 X1 X2 jX1 jX2 ndX1_X2 kz2
  have S := Off.ofB kz2
  refine vY1 (cC 9 S (PK.out _ (ft.later (bC b1 kz2)) _ _ X1) fun w25 b25 => ?_)
  replace X1 := (X1.later b25); replace X2 := (X2.later b25); replace kz2 := bC kz2 b25
  refine vT 10 (Off.ofB kz2) ?_
  refine vT 11 (Off.ofB kz2) ?_
  refine vT 12 (Off.ofB kz2) ?_
  clear S b25 w24
  revert kz2; revert ndX1_X2; revert jX2; revert jX1; revert X2; revert X1; revert pp1_1; revert pp1_0; revert w25
  exact s2_8.out
  case' ns2_8 => refine lH ?_
  intro w26 pp1_0 pp1_1 X1 X2 jX1 jX2 ndX1_X2 kz2
  have S := Off.ofB kz2
  refine vY1 (vO 14 fun K hK => ?_)
  have q := X2.o; have mX1 : ¬ (pp1_0 = pp1_1) := (by omega)
  go_simp
  refine vW (fun W => HB W pp1_0 28 #[.int .u64 ah, .int .u64 al, .int .u64 bh, .int .u64 bl] ∧ HB W pp1_1 31 #[.int .u64 ph, .int .u64 pl, .int .u8 pf] ∧ Below w1.heap.size w1 W) ⟨(((X1.other mX1 0 _).other mX1 1 _).other mX1 2 _), (((X2.set 0 _).set 1 _).set 2 _), (((kz2.setCell (p := ⟨pp1_1, 0, none⟩) jX2 _).setCell (p := ⟨pp1_1, 1, none⟩) jX2 _).setCell (p := ⟨pp1_1, 2, none⟩) jX2 _)⟩ fun w28 hz => ?_
  clear q mX1 X1 X2 S kz2 w26; obtain ⟨X1, X2, kz2⟩ := hz
  refine hK.out _ _ (Off.ofB kz2) fun S => ?_; clear hK K S; refine vP ?_
  refine vT 15 (Off.ofB kz2) ?_
  revert kz2; revert ndX1_X2; revert jX2; revert jX1; revert X2; revert X1; revert pp1_1; revert pp1_0; revert w28
  exact s2_9.out
  case' ns2_9 => refine lH ?_
  intro w29 pp1_0 pp1_1 X1 X2 jX1 jX2 ndX1_X2 kz2
  refine vD ?_
  have gX1 : w.heap.size ≤ pp1_0 := by have := b1.size; omega
  have gX2 : w.heap.size ≤ pp1_1 := by have := b1.size; omega
  go_wp2_with fail
  go_ret
  exact ⟨rfl, (bC b1 kz2)⟩
theorem dv_picked (f m ah al bh bl ca ea xh xl cb eb yh yl ph pl pf : Int) (t sa sb i pk : Bool)
    (h0 : Hid (∀ w, Ca 138 #[.agg #[.int .u8 f, .int .u8 m, .bool t, .int .u64 ah, .int .u64 al, .int .u64 bh, .int .u64 bl, .bool sa, .int .u8 ca, .int .i64 ea, .int .u64 xh, .int .u64 xl, .bool sb, .int .u8 cb, .int .i64 eb, .int .u64 yh, .int .u64 yl]] w (.bool i))) (PK : Hid (∀ w, FTab w → ∀ p T, HB w p T #[.int .u64 ah, .int .u64 al, .int .u64 bh, .int .u64 bl] → Ca 43 #[.int .u8 f, .bool i, .slice (some ⟨p, 0, none⟩) 2 2] w (.tuple #[.agg #[.int .u64 ph, .int .u64 pl, .int .u8 pf], .bool pk]))) (w : World) (ft : FTab w) :
    Ca 73 #[.agg #[.int .u8 f, .int .u8 m, .bool t, .int .u64 ah, .int .u64 al, .int .u64 bh, .int .u64 bl, .bool sa, .int .u8 ca, .int .i64 ea, .int .u64 xh, .int .u64 xl, .bool sb, .int .u8 cb, .int .i64 eb, .int .u64 yh, .int .u64 yl]] w (.agg #[.int .u64 ph, .int .u64 pl, .int .u8 pf]) := by
  simp only [Ca] at *
  go_enter Tryz.func73, Tryz.ntmps73
  go_wp2_with fail
  have gX1 : w.heap.size ≤ w.heap.size + 1 := by omega
  refine vF2 fun w1 b1 X0 X1 => ?_
  refine' (have s2_9 : Hid (_ : Prop) := ?ns2_9; ?ms2_9)
  case' ms2_9 => skip
  refine' (have s2_8 : Hid (_ : Prop) := ?ns2_8; ?ms2_8)
  case' ms2_8 => skip
  refine' (have s2_7 : Hid (_ : Prop) := ?ns2_7; ?ms2_7)
  case' ms2_7 => skip
  refine' (have s2_6 : Hid (_ : Prop) := ?ns2_6; ?ms2_6)
  case' ms2_6 => skip
  refine' (have s2_5 : Hid (_ : Prop) := ?ns2_5; ?ms2_5)
  case' ms2_5 => skip
  refine' (have s2_4 : Hid (_ : Prop) := ?ns2_4; ?ms2_4)
  case' ms2_4 => skip
  refine' (have s2_3 : Hid (_ : Prop) := ?ns2_3; ?ms2_3)
  case' ms2_3 => skip
  refine' (have s2_2 : Hid (_ : Prop) := ?ns2_2; ?ms2_2)
  case' ms2_2 => skip
  refine' (have s2_1 : Hid (_ : Prop) := ?ns2_1; ?ms2_1)
  case' ms2_1 => skip
  refine' (have s2_0 : Hid (_ : Prop) := ?ns2_0; ?ms2_0)
  case' ms2_0 => skip
  refine vR [] fun w2 kz2 S => ?_
  refine vT 0 S ?_
  refine vT 1 S ?_ (hy := by intro wq hb; have q := (hb.hb X0 (by simp)).o; go_simp; try (with_reducible rfl))
  refine vT 2 S ?_ (hy := by intro wq hb; have q := (hb.hb X0 (by simp)).o; go_simp; try (with_reducible rfl))
  refine vT 4 S ?_
  refine vT 5 S ?_ (hy := by intro wq hb; have q := (hb.hb X0 (by simp)).o; go_simp; try (with_reducible rfl))
  refine vT 6 S ?_
  refine vT 7 S ?_ (hy := by intro wq hb; have q := (hb.hb X0 (by simp)).o; go_simp; try (with_reducible rfl))
  refine vY3 (cC 3 S (h0.out _) fun w3 b3 => ?_) (cB (n := 2) 8 S fun w4 pp1_0 h X2 b4 => ?_) (cA 13 S fun w5 pp1_1 h X3 b5 => ?_)
  replace kz2 := bC kz2 b3
  clear S b3 w2
  revert kz2; revert w3
  exact s2_0.out
  have jX2 := (lZ kz2.size h); replace kz2 := bC kz2 b4
  clear S b4 h w2
  revert kz2; revert jX2; revert X2; revert pp1_0; revert w4
  exact s2_1.out
  have jX3 := (lZ kz2.size h); replace kz2 := bC kz2 b5
  clear S b5 h w2
  revert kz2; revert jX3; revert X3; revert pp1_1; revert w5
  exact s2_2.out
  case' ns2_0 => refine lH ?_
  intro w6 kz2
  have S := Off.ofB kz2
  refine vY2 (cB (n := 2) 8 S fun w7 pp1_0 h X2 b7 => ?_) (cA 13 S fun w8 pp1_1 h X3 b8 => ?_)
  have jX2 := (lZ kz2.size h); replace kz2 := bC kz2 b7
  clear S b7 h w6
  revert kz2; revert jX2; revert X2; revert pp1_0; revert w7
  exact s2_3.out
  have jX3 := (lZ kz2.size h); replace kz2 := bC kz2 b8
  clear S b8 h w6
  revert kz2; revert jX3; revert X3; revert pp1_1; revert w8
  exact s2_4.out
  case' ns2_1 => refine lH ?_
  intro w9 pp1_0 X2 jX2 kz2
  have S := Off.ofB kz2
  refine vY2 (cC 3 S (h0.out _) fun w10 b10 => s2_3.out w10 pp1_0 (X2.later b10) jX2 (bC kz2 b10)) (cA 13 S fun w11 pp1_1 h X3 b11 => ?_)
  have ndX2_X3 : ¬ (pp1_0 = pp1_1) := (Nat.ne_of_lt (lY X2.lt h)); have jX3 := (lZ kz2.size h); replace X2 := (X2.later b11); replace kz2 := bC kz2 b11
  clear S b11 h w9
  revert kz2; revert ndX2_X3; revert jX3; revert jX2; revert X3; revert X2; revert pp1_1; revert pp1_0; revert w11
  exact s2_5.out
  case' ns2_2 => refine lH ?_
  intro w12 pp1_1 X3 jX3 kz2
  have S := Off.ofB kz2
  refine vY2 (cC 3 S (h0.out _) fun w13 b13 => s2_4.out w13 pp1_1 (X3.later b13) jX3 (bC kz2 b13)) (cB (n := 2) 8 S fun w14 pp1_0 h X2 b14 => s2_5.out w14 pp1_0 pp1_1 X2 (X3.later b14) (lZ kz2.size h) jX3 (Nat.ne_of_gt (lY X3.lt h)) (bC kz2 b14))
  case' ns2_3 => refine lH ?_
  intro w15 pp1_0 X2 jX2 kz2
  have S := Off.ofB kz2
  refine vY2 (cC 9 S (PK.out _ (ft.later (bC b1 kz2)) _ _ X2) fun w16 b16 => ?_) (cA 13 S fun w17 pp1_1 h X3 b17 => ?_)
  replace X2 := (X2.later b16); replace kz2 := bC kz2 b16
  refine vT 10 (Off.ofB kz2) ?_
  refine vT 11 (Off.ofB kz2) ?_
  refine vT 12 (Off.ofB kz2) ?_
  clear S b16 w15
  revert kz2; revert jX2; revert X2; revert pp1_0; revert w16
  exact s2_6.out
  have ndX2_X3 : ¬ (pp1_0 = pp1_1) := (Nat.ne_of_lt (lY X2.lt h)); have jX3 := (lZ kz2.size h); replace X2 := (X2.later b17); replace kz2 := bC kz2 b17
  clear S b17 h w15
  revert kz2; revert ndX2_X3; revert jX3; revert jX2; revert X3; revert X2; revert pp1_1; revert pp1_0; revert w17
  exact s2_7.out
  case' ns2_4 => refine lH ?_
  intro w18 pp1_1 X3 jX3 kz2
  have S := Off.ofB kz2
  refine vY1 (cB (n := 2) 8 S fun w19 pp1_0 h X2 b19 => s2_7.out w19 pp1_0 pp1_1 X2 (X3.later b19) (lZ kz2.size h) jX3 (Nat.ne_of_gt (lY X3.lt h)) (bC kz2 b19))
  case' ns2_5 => refine lH ?_
  intro w20 pp1_0 pp1_1 X2 X3 jX2 jX3 ndX2_X3 kz2
  have S := Off.ofB kz2
  refine vY1 (cC 3 S (h0.out _) fun w21 b21 => s2_7.out w21 pp1_0 pp1_1 (X2.later b21) (X3.later b21) jX2 jX3 ndX2_X3 (bC kz2 b21))
  case' ns2_6 => refine lH ?_
  intro w22 pp1_0 X2 jX2 kz2
  have S := Off.ofB kz2
  refine vY1 (cA 13 S fun w23 pp1_1 h X3 b23 => ?_)
  have ndX2_X3 : ¬ (pp1_0 = pp1_1) := (Nat.ne_of_lt (lY X2.lt h)); have jX3 := (lZ kz2.size h); replace X2 := (X2.later b23); replace kz2 := bC kz2 b23
  clear S b23 h w22
  revert kz2; revert ndX2_X3; revert jX3; revert jX2; revert X3; revert X2; revert pp1_1; revert pp1_0; revert w23
  exact s2_8.out
  case' ns2_7 => refine lH ?_
  intro w24 pp1_0 pp1_1 X2 X3 jX2 jX3 ndX2_X3 kz2
  have S := Off.ofB kz2
  refine vY1 (cC 9 S (PK.out _ (ft.later (bC b1 kz2)) _ _ X2) fun w25 b25 => ?_)
  replace X2 := (X2.later b25); replace X3 := (X3.later b25); replace kz2 := bC kz2 b25
  refine vT 10 (Off.ofB kz2) ?_
  refine vT 11 (Off.ofB kz2) ?_
  refine vT 12 (Off.ofB kz2) ?_
  clear S b25 w24
  revert kz2; revert ndX2_X3; revert jX3; revert jX2; revert X3; revert X2; revert pp1_1; revert pp1_0; revert w25
  exact s2_8.out
  case' ns2_8 => refine lH ?_
  intro w26 pp1_0 pp1_1 X2 X3 jX2 jX3 ndX2_X3 kz2
  have S := Off.ofB kz2
  refine vY1 (vO 14 fun K hK => ?_)
  have q := X3.o; have mX2 : ¬ (pp1_0 = pp1_1) := (by omega)
  go_simp
  refine vW (fun W => HB W pp1_0 28 #[.int .u64 ah, .int .u64 al, .int .u64 bh, .int .u64 bl] ∧ HB W pp1_1 31 #[.int .u64 ph, .int .u64 pl, .int .u8 pf] ∧ Below w1.heap.size w1 W) ⟨(((X2.other mX2 0 _).other mX2 1 _).other mX2 2 _), (((X3.set 0 _).set 1 _).set 2 _), (((kz2.setCell (p := ⟨pp1_1, 0, none⟩) jX3 _).setCell (p := ⟨pp1_1, 1, none⟩) jX3 _).setCell (p := ⟨pp1_1, 2, none⟩) jX3 _)⟩ fun w28 hz => ?_
  clear q mX2 X2 X3 S kz2 w26; obtain ⟨X2, X3, kz2⟩ := hz
  refine hK.out _ _ (Off.ofB kz2) fun S => ?_; clear hK K S; refine vP ?_
  refine vT 15 (Off.ofB kz2) ?_
  revert kz2; revert ndX2_X3; revert jX3; revert jX2; revert X3; revert X2; revert pp1_1; revert pp1_0; revert w28
  exact s2_9.out
  case' ns2_9 => refine lH ?_
  intro w29 pp1_0 pp1_1 X2 X3 jX2 jX3 ndX2_X3 kz2
  refine vD ?_
  have nX1_X3 : w.heap.size + 1 < pp1_1 := by have := X1.lt; omega
  have gX2 : w.heap.size ≤ pp1_0 := by have := b1.size; omega
  have gX3 : w.heap.size ≤ pp1_1 := by have := b1.size; omega
  have oX3 := X3.o
  replace X1 := X1.later kz2
  have oX1 := X1.o
  have mX3_X1 : ¬ (pp1_1 = w.heap.size + 1) := by omega
  have mX1_X3 : ¬ (w.heap.size + 1 = pp1_1) := by omega
  go_wp2_with fail
  refine bodyPost_ret (v := .agg #[.int .u64 ph, .int .u64 pl, .int .u8 pf]) ?_ rfl ⟨rfl, ((((bC b1 kz2).setCell (p := ⟨w.heap.size + 1, 0, none⟩) gX1 _).setCell (p := ⟨w.heap.size + 1, 1, none⟩) gX1 _).setCell (p := ⟨w.heap.size + 1, 2, none⟩) gX1 _)⟩
  simp [results, Tryz.results73, go_sem, oX1, mX3_X1, mX1_X3]
theorem dv_sp1 (f m ah al bh bl ca ea xh xl cb eb yh yl : Int) (t sa sb : Bool)
     (w : World) :
    Ca 74 #[.agg #[.int .u8 f, .int .u8 m, .bool t, .int .u64 ah, .int .u64 al, .int .u64 bh, .int .u64 bl, .bool sa, .int .u8 ca, .int .i64 ea, .int .u64 xh, .int .u64 xl, .bool sb, .int .u8 cb, .int .i64 eb, .int .u64 yh, .int .u64 yl]] w (.bool ((ca == 3))) := by
  simp only [Ca] at *
  go_enter Tryz.func74, Tryz.ntmps74
  go_wp2_with fail
  go_ret
  exact ⟨rfl, (bA bR _)⟩
theorem dv_sp2a (f m ah al bh bl ca ea xh xl cb eb yh yl : Int) (t sa sb : Bool)
     (g1 : (cb == 3) = true) (w : World) :
    Ca 76 #[.agg #[.int .u8 f, .int .u8 m, .bool t, .int .u64 ah, .int .u64 al, .int .u64 bh, .int .u64 bl, .bool sa, .int .u8 ca, .int .i64 ea, .int .u64 xh, .int .u64 xl, .bool sb, .int .u8 cb, .int .i64 eb, .int .u64 yh, .int .u64 yl]] w (.bool true) := by
  simp only [Ca] at *
  go_enter Tryz.func76, Tryz.ntmps76
  go_wp2_with fail
  go_ret
  exact ⟨rfl, (bA bR _)⟩
theorem dv_sp2b (f m ah al bh bl ca ea xh xl cb eb yh yl : Int) (t sa sb : Bool)
     (g1 : (cb == 3) = false) (w : World) :
    Ca 76 #[.agg #[.int .u8 f, .int .u8 m, .bool t, .int .u64 ah, .int .u64 al, .int .u64 bh, .int .u64 bl, .bool sa, .int .u8 ca, .int .i64 ea, .int .u64 xh, .int .u64 xl, .bool sb, .int .u8 cb, .int .i64 eb, .int .u64 yh, .int .u64 yl]] w (.bool ((ca == 0))) := by
  simp only [Ca] at *
  go_enter Tryz.func76, Tryz.ntmps76
  go_wp2_with fail
  go_ret
  exact ⟨rfl, (bA bR _)⟩
theorem dv_sp3 (f m ah al bh bl ca ea xh xl cb eb yh yl : Int) (t sa sb : Bool)
     (w : World) :
    Ca 78 #[.agg #[.int .u8 f, .int .u8 m, .bool t, .int .u64 ah, .int .u64 al, .int .u64 bh, .int .u64 bl, .bool sa, .int .u8 ca, .int .i64 ea, .int .u64 xh, .int .u64 xl, .bool sb, .int .u8 cb, .int .i64 eb, .int .u64 yh, .int .u64 yl]] w (.bool ((cb == 0))) := by
  simp only [Ca] at *
  go_enter Tryz.func78, Tryz.ntmps78
  go_wp2_with fail
  go_ret
  exact ⟨rfl, (bA bR _)⟩
end Go.Proofs.YtnlmceafleeaiaaGreatDoor
