import Derived.Test.YtnlmceafleeaiaaGreatDoorGwA
import Derived.Test.YtnlmceafleeaiaaGreatDoorGfA
import Derived.Test.YtnlmceafleeaiaaGreatDoorGaB
import Derived.Test.YtnlmceafleeaiaaGreatDoorGhA
import Derived.Test.YtnlmceafleeaiaaGreatDoorGaA
set_option maxHeartbeats 4000000
set_option linter.unusedVariables false
set_option linter.unusedSimpArgs false
set_option maxRecDepth 100000
namespace Go.Proofs.YtnlmceafleeaiaaGreatDoor
open Go.RowKit
attribute [local go_sem ↓] Go.wp_at_zero Go.wp_at_succ
theorem dv_rounded_exact (f m ah al bh bl ca ea xh xl cb eb yh yl j0 j1 j2 j3 q0 q1 q2 q3 s0 s1 s2 s3 rh rl ph pl e pf : Int) (t sa sb n : Bool)
    (h0 : Hid (∀ w, Ca 81 #[U2 xh xl, U2 0 0] w (U4 j0 j1 j2 j3)))
    (h1 : Hid (∀ w, Ca 80 #[U4 j0 j1 j2 j3, U2 yh yl] w (.tuple #[U4 q0 q1 q2 q3, U2 rh rl, .bool true])))
    (h2 : Hid (∀ w, Ca 82 #[U4 q0 q1 q2 q3, .int .i64 127] w (U4 s0 s1 s2 s3)))
    (h3 : Hid (∀ w, Ca 83 #[U2 rh rl] w (.bool true)))
    (h4 : Hid (∀ w, Ca 84 #[.agg #[.int .u8 f, .int .u8 m, .bool t, .int .u64 ah, .int .u64 al, .int .u64 bh, .int .u64 bl, .bool sa, .int .u8 ca, .int .i64 ea, .int .u64 xh, .int .u64 xl, .bool sb, .int .u8 cb, .int .i64 eb, .int .u64 yh, .int .u64 yl]] w (.bool n)))
    (h5 : Hid (∀ w, FTab w → Ca 48 #[.int .u8 f, .agg #[.int .u8 m, .bool t], .bool n, .int .i64 e, U4 s0 s1 s2 s3] w (.agg #[.int .u64 ph, .int .u64 pl, .int .u8 pf]))) (w1 : IntKind.i64.wrap (ea - eb) = e) (w1x : wrap64 (ea - eb) = e) (w : World) (ft : FTab w) :
    Ca 32 #[.agg #[.int .u8 f, .int .u8 m, .bool t, .int .u64 ah, .int .u64 al, .int .u64 bh, .int .u64 bl, .bool sa, .int .u8 ca, .int .i64 ea, .int .u64 xh, .int .u64 xl, .bool sb, .int .u8 cb, .int .i64 eb, .int .u64 yh, .int .u64 yl]] w (.agg #[.int .u64 ph, .int .u64 pl, .int .u8 pf]) := by
  simp only [Ca, U2, U4] at *
  go_enter Tryz.func32, Tryz.ntmps32
  go_wp2_with fail
  have gX1 : w.heap.size ≤ w.heap.size + 1 := by omega
  refine vF2 fun w1 b1 X0 X1 => ?_
  refine' (have s2_12 : Hid (_ : Prop) := ?ns2_12; ?ms2_12)
  case' ms2_12 => skip
  refine' (have s2_11 : Hid (_ : Prop) := ?ns2_11; ?ms2_11)
  case' ms2_11 => skip
  refine' (have s2_10 : Hid (_ : Prop) := ?ns2_10; ?ms2_10)
  case' ms2_10 => skip
  refine' (have s2_9 : Hid (_ : Prop) := ?ns2_9; ?ms2_9)
  case' ms2_9 => skip
  refine' (have s2_8 : Hid (_ : Prop) := ?ns2_8; ?ms2_8)
  case' ms2_8 => skip
  refine' (have s2_7 : Hid (_ : Prop) := ?ns2_7; ?ms2_7)
  case' ms2_7 => skip
  refine' (have s2_6 : Hid (_ : Prop) := ?ns2_6; ?ms2_6)
  case' ms2_6 => skip
  refine' (have s2_5 : Hid (_ : Prop) := ?ns2_5; ?ms2_5)
  case' ms2_5 => skip
  refine' (have s2_4 : Hid (_ : Prop) := ?ns2_4; ?ms2_4)
  case' ms2_4 => skip
  refine' (have s2_3 : Hid (_ : Prop) := ?ns2_3; ?ms2_3)
  case' ms2_3 => skip
  refine' (have s2_2 : Hid (_ : Prop) := ?ns2_2; ?ms2_2)
  case' ms2_2 => skip
  refine' (have s2_1 : Hid (_ : Prop) := ?ns2_1; ?ms2_1)
  case' ms2_1 => skip
  refine' (have s2_0 : Hid (_ : Prop) := ?ns2_0; ?ms2_0)
  case' ms2_0 => skip
  refine vR [] fun w2 kz2 S => ?_
  refine vT 0 S ?_
  refine vT 1 S ?_
  refine vT 2 S ?_ (hy := by intro wq hb; have q := (hb.hb X0 (by simp)).o; go_simp; try (with_reducible rfl))
  refine vT 3 S ?_
  refine vT 5 S ?_
  refine vT 6 S ?_
  refine vT 7 S ?_ (hy := by intro wq hb; have q := (hb.hb X0 (by simp)).o; go_simp; try (with_reducible rfl))
  refine vY3 (cC 4 S (h0.out _) fun w3 b3 => ?_) (cA 13 S fun w4 pp1_0 h X2 b4 => ?_) (cA 14 S fun w5 pp1_1 h X3 b5 => ?_)
  replace kz2 := bC kz2 b3
  clear S b3 w2
  revert kz2; revert w3
  exact s2_0.out
  have jX2 := (lZ kz2.size h); replace kz2 := bC kz2 b4
  clear S b4 h w2
  revert kz2; revert jX2; revert X2; revert pp1_0; revert w4
  exact s2_1.out
  have jX3 := (lZ kz2.size h); replace kz2 := bC kz2 b5
  clear S b5 h w2
  revert kz2; revert jX3; revert X3; revert pp1_1; revert w5
  exact s2_2.out
  case' ns2_0 => refine lH ?_
  intro w6 kz2
  have S := Off.ofB kz2
  refine vY3 (cC 8 S (h1.out _) fun w7 b7 => ?_) (cA 13 S fun w8 pp1_0 h X2 b8 => ?_) (cA 14 S fun w9 pp1_1 h X3 b9 => ?_)
  replace kz2 := bC kz2 b7
  refine vT 9 (Off.ofB kz2) ?_
  refine vT 10 (Off.ofB kz2) ?_
  refine vT 11 (Off.ofB kz2) ?_
  refine vT 12 (Off.ofB kz2) ?_
  clear S b7 w6
  revert kz2; revert w7
  exact s2_3.out
  have jX2 := (lZ kz2.size h); replace kz2 := bC kz2 b8
  clear S b8 h w6
  revert kz2; revert jX2; revert X2; revert pp1_0; revert w8
  exact s2_4.out
  have jX3 := (lZ kz2.size h); replace kz2 := bC kz2 b9
  clear S b9 h w6
  revert kz2; revert jX3; revert X3; revert pp1_1; revert w9
  exact s2_5.out
  case' ns2_1 => refine lH ?_
  intro w10 pp1_0 X2 jX2 kz2
  have S := Off.ofB kz2
  refine vY2 (cC 4 S (h0.out _) fun w11 b11 => s2_4.out w11 pp1_0 (X2.later b11) jX2 (bC kz2 b11)) (cA 14 S fun w12 pp1_1 h X3 b12 => ?_)
  have ndX2_X3 : ¬ (pp1_0 = pp1_1) := (Nat.ne_of_lt (lY X2.lt h)); have jX3 := (lZ kz2.size h); replace X2 := (X2.later b12); replace kz2 := bC kz2 b12
  clear S b12 h w10
  revert kz2; revert ndX2_X3; revert jX3; revert jX2; revert X3; revert X2; revert pp1_1; revert pp1_0; revert w12
  exact s2_6.out
  case' ns2_2 => refine lH ?_
  intro w13 pp1_1 X3 jX3 kz2
  have S := Off.ofB kz2
  refine vY2 (cC 4 S (h0.out _) fun w14 b14 => s2_5.out w14 pp1_1 (X3.later b14) jX3 (bC kz2 b14)) (cA 13 S fun w15 pp1_0 h X2 b15 => s2_6.out w15 pp1_0 pp1_1 X2 (X3.later b15) (lZ kz2.size h) jX3 (Nat.ne_of_gt (lY X3.lt h)) (bC kz2 b15))
  case' ns2_3 => refine lH ?_
  intro w16 kz2
  have S := Off.ofB kz2
  refine vY2 (cA 13 S fun w17 pp1_0 h X2 b17 => ?_) (cA 14 S fun w18 pp1_1 h X3 b18 => ?_)
  have jX2 := (lZ kz2.size h); replace kz2 := bC kz2 b17
  clear S b17 h w16
  revert kz2; revert jX2; revert X2; revert pp1_0; revert w17
  exact s2_7.out
  have jX3 := (lZ kz2.size h); replace kz2 := bC kz2 b18
  clear S b18 h w16
  revert kz2; revert jX3; revert X3; revert pp1_1; revert w18
  exact s2_8.out
  case' ns2_4 => refine lH ?_
  intro w19 pp1_0 X2 jX2 kz2
  have S := Off.ofB kz2
  refine vY2 (cC 8 S (h1.out _) fun w20 b20 => ?_) (cA 14 S fun w21 pp1_1 h X3 b21 => ?_)
  replace X2 := (X2.later b20); replace kz2 := bC kz2 b20
  refine vT 9 (Off.ofB kz2) ?_
  refine vT 10 (Off.ofB kz2) ?_
  refine vT 11 (Off.ofB kz2) ?_
  refine vT 12 (Off.ofB kz2) ?_
  clear S b20 w19
  revert kz2; revert jX2; revert X2; revert pp1_0; revert w20
  exact s2_7.out
  have ndX2_X3 : ¬ (pp1_0 = pp1_1) := (Nat.ne_of_lt (lY X2.lt h)); have jX3 := (lZ kz2.size h); replace X2 := (X2.later b21); replace kz2 := bC kz2 b21
  clear S b21 h w19
  revert kz2; revert ndX2_X3; revert jX3; revert jX2; revert X3; revert X2; revert pp1_1; revert pp1_0; revert w21
  exact s2_9.out
  case' ns2_5 => refine lH ?_
  intro w22 pp1_1 X3 jX3 kz2
  have S := Off.ofB kz2
  refine vY2 (cC 8 S (h1.out _) fun w23 b23 => ?_) (cA 13 S fun w24 pp1_0 h X2 b24 => s2_9.out w24 pp1_0 pp1_1 X2 (X3.later b24) (lZ kz2.size h) jX3 (Nat.ne_of_gt (lY X3.lt h)) (bC kz2 b24))
  replace X3 := (X3.later b23); replace kz2 := bC kz2 b23
  refine vT 9 (Off.ofB kz2) ?_
  refine vT 10 (Off.ofB kz2) ?_
  refine vT 11 (Off.ofB kz2) ?_
  refine vT 12 (Off.ofB kz2) ?_
  clear S b23 w22
  revert kz2; revert jX3; revert X3; revert pp1_1; revert w23
  exact s2_8.out
  case' ns2_6 => refine lH ?_
  intro w25 pp1_0 pp1_1 X2 X3 jX2 jX3 ndX2_X3 kz2
  have S := Off.ofB kz2
  refine vY1 (cC 4 S (h0.out _) fun w26 b26 => s2_9.out w26 pp1_0 pp1_1 (X2.later b26) (X3.later b26) jX2 jX3 ndX2_X3 (bC kz2 b26))
  case' ns2_7 => refine lH ?_
  intro w27 pp1_0 X2 jX2 kz2
  have S := Off.ofB kz2
  refine vY1 (cA 14 S fun w28 pp1_1 h X3 b28 => ?_)
  have ndX2_X3 : ¬ (pp1_0 = pp1_1) := (Nat.ne_of_lt (lY X2.lt h)); have jX3 := (lZ kz2.size h); replace X2 := (X2.later b28); replace kz2 := bC kz2 b28
  clear S b28 h w27
  revert kz2; revert ndX2_X3; revert jX3; revert jX2; revert X3; revert X2; revert pp1_1; revert pp1_0; revert w28
  exact s2_10.out
  case' ns2_8 => refine lH ?_
  intro w29 pp1_1 X3 jX3 kz2
  have S := Off.ofB kz2
  refine vY1 (cA 13 S fun w30 pp1_0 h X2 b30 => s2_10.out w30 pp1_0 pp1_1 X2 (X3.later b30) (lZ kz2.size h) jX3 (Nat.ne_of_gt (lY X3.lt h)) (bC kz2 b30))
  case' ns2_9 => refine lH ?_
  intro w31 pp1_0 pp1_1 X2 X3 jX2 jX3 ndX2_X3 kz2
  have S := Off.ofB kz2
  refine vY1 (cC 8 S (h1.out _) fun w32 b32 => ?_)
  replace X2 := (X2.later b32); replace X3 := (X3.later b32); replace kz2 := bC kz2 b32
  refine vT 9 (Off.ofB kz2) ?_
  refine vT 10 (Off.ofB kz2) ?_
  refine vT 11 (Off.ofB kz2) ?_
  refine vT 12 (Off.ofB kz2) ?_
  clear S b32 w31
  revert kz2; revert ndX2_X3; revert jX3; revert jX2; revert X3; revert X2; revert pp1_1; revert pp1_0; revert w32
  exact s2_10.out
  case' ns2_10 => refine lH ?_
  intro w33 pp1_0 pp1_1 X2 X3 jX2 jX3 ndX2_X3 kz2
  have S := Off.ofB kz2
  refine vY1 (vO 15 fun K hK => ?_)
  have q := X2.o; have mX3 : ¬ (pp1_1 = pp1_0) := (by omega)
  go_simp
  refine vW (fun W => HB W pp1_0 90 #[.int .u64 q0, .int .u64 q1, .int .u64 q2, .int .u64 q3] ∧ HB W pp1_1 28 #[.int .u64 0, .int .u64 0] ∧ Below w1.heap.size w1 W) ⟨((((X2.set 0 _).set 1 _).set 2 _).set 3 _), ((((X3.other mX3 0 _).other mX3 1 _).other mX3 2 _).other mX3 3 _), ((((kz2.setCell (p := ⟨pp1_0, 0, none⟩) jX2 _).setCell (p := ⟨pp1_0, 1, none⟩) jX2 _).setCell (p := ⟨pp1_0, 2, none⟩) jX2 _).setCell (p := ⟨pp1_0, 3, none⟩) jX2 _)⟩ fun w35 hz => ?_
  clear q mX3 X2 X3 S kz2 w33; obtain ⟨X2, X3, kz2⟩ := hz
  refine hK.out _ _ (Off.ofB kz2) fun S => ?_; clear hK K S; refine vP ?_
  revert kz2; revert ndX2_X3; revert jX3; revert jX2; revert X3; revert X2; revert pp1_1; revert pp1_0; revert w35
  exact s2_11.out
  case' ns2_11 => refine lH ?_
  intro w36 pp1_0 pp1_1 X2 X3 jX2 jX3 ndX2_X3 kz2
  have S := Off.ofB kz2
  refine vY1 (vO 16 fun K hK => ?_)
  have q := X3.o; have mX2 : ¬ (pp1_0 = pp1_1) := (by omega)
  go_simp
  refine vW (fun W => HB W pp1_0 90 #[.int .u64 q0, .int .u64 q1, .int .u64 q2, .int .u64 q3] ∧ HB W pp1_1 28 #[.int .u64 rh, .int .u64 rl] ∧ Below w1.heap.size w1 W) ⟨((X2.other mX2 0 _).other mX2 1 _), ((X3.set 0 _).set 1 _), ((kz2.setCell (p := ⟨pp1_1, 0, none⟩) jX3 _).setCell (p := ⟨pp1_1, 1, none⟩) jX3 _)⟩ fun w38 hz => ?_
  clear q mX2 X2 X3 S kz2 w36; obtain ⟨X2, X3, kz2⟩ := hz
  refine hK.out _ _ (Off.ofB kz2) fun S => ?_; clear hK K S; refine vP ?_
  refine vT 17 (Off.ofB kz2) ?_
  revert kz2; revert ndX2_X3; revert jX3; revert jX2; revert X3; revert X2; revert pp1_1; revert pp1_0; revert w38
  exact s2_12.out
  case' ns2_12 => refine lH ?_
  intro w39 pp1_0 pp1_1 X2 X3 jX2 jX3 ndX2_X3 kz2
  refine vD ?_
  have nX0_X2 : w.heap.size < pp1_0 := by have := X0.lt; omega
  have nX0_X3 : w.heap.size < pp1_1 := by have := X0.lt; omega
  have nX1_X2 : w.heap.size + 1 < pp1_0 := by have := X1.lt; omega
  have nX1_X3 : w.heap.size + 1 < pp1_1 := by have := X1.lt; omega
  have gX2 : w.heap.size ≤ pp1_0 := by have := b1.size; omega
  have gX3 : w.heap.size ≤ pp1_1 := by have := b1.size; omega
  have oX2 := X2.o
  go_wp2_with fail
  refine vM (h2.out _) fun w40 b40 => ?_
  clear oX2
  replace X3 := X3.later b40
  have oX3 := X3.o
  go_wp2_with fail
  refine vM (h3.out _) fun w41 b41 => ?_
  replace X1 := X1.later (bC kz2 b40)
  have nX1_X4 : w.heap.size + 1 < w40.heap.size := by have := X1.lt; omega
  have X4 := (HB.newAt (b := w40.heap.size) (by simp) _ _).later b41
  clear oX3
  go_wp2_with fail
  replace X0 := X0.later (bC (bC kz2 b40) (bC (bA bR _) b41))
  replace X1 := X1.later (bC (bA bR _) b41)
  refine vR [w.heap.size + 1] fun w42 b42 S42 => ?_
  refine vT 0 S42 ?_
  refine vT 1 S42 ?_ (hy := by intro wq hb; have q := (hb.hb X0 (by simp <;> omega)).o; go_simp; try (with_reducible rfl))
  refine vT 2 S42 ?_
  refine vT 3 S42 ?_ (hy := by intro wq hb; have q := (hb.hb X0 (by simp <;> omega)).o; go_simp; try (with_reducible rfl))
  refine vT 4 S42 ?_ (hy := by intro wq hb; have q := (hb.hb X0 (by simp <;> omega)).o; go_simp; try (with_reducible rfl))
  refine vT 6 S42 ?_
  refine vT 7 S42 ?_
  refine vT 8 S42 ?_ (hy := by intro wq hb; have q := (hb.hb X0 (by simp <;> omega)).o; go_simp; try (with_reducible rfl))
  refine vT 9 S42 ?_
  refine vT 10 S42 ?_
  refine vT 11 S42 ?_ (hy := by intro wq hb; have q := (hb.hb X0 (by simp <;> omega)).o; go_simp; try (with_reducible rfl))
  refine vT 12 S42 ?_
  refine vT 13 S42 ?_ (hy := by intro wq hb; have q := (hb.hb X4 (by simp <;> omega)).o; go_simp; try (with_reducible rfl))
  refine vY1 (vC 5 S42 (h4.out _) (fun _ _ => Off.later) fun w43 b43 S43 => ?_)
  refine vY1 (vC 14 S43 (h5.out _ (ft.later (bC (bC (bC (bC (bC b1 kz2) b40) (bC (bA bR _) b41)) b42) b43))) (fun _ _ => Off.later) fun w44 b44 S44 => ?_)
  refine vY1 (vO 15 fun K hK => ?_)
  replace X1 := X1.later (bC (bC b42 b43) b44)
  have oX1 := X1.o
  go_simp
  refine hK.out _ _ (Off.set (by simp) (Off.set (by simp) (Off.set (by simp) S44))) fun S45 => ?_
  clear hK K
  refine vP ?_
  refine vD ?_
  go_wp2_with fail
  refine bodyPost_ret (v := .agg #[.int .u64 ph, .int .u64 pl, .int .u8 pf]) ?_ rfl ⟨rfl, ((((bC (bC (bC (bC (bC (bC b1 kz2) b40) (bC (bA bR _) b41)) b42) b43) b44).setCell (p := ⟨w.heap.size + 1, 0, none⟩) gX1 _).setCell (p := ⟨w.heap.size + 1, 1, none⟩) gX1 _).setCell (p := ⟨w.heap.size + 1, 2, none⟩) gX1 _)⟩
  simp [results, Tryz.results32, go_sem, oX1]
theorem dv_rounded_jam (f m ah al bh bl ca ea xh xl cb eb yh yl j0 j1 j2 j3 q0 q1 q2 q3 s0 s1 s2 s3 rh rl ph pl e pf o0 : Int) (t sa sb n : Bool)
    (h0 : Hid (∀ w, Ca 81 #[U2 xh xl, U2 0 0] w (U4 j0 j1 j2 j3)))
    (h1 : Hid (∀ w, Ca 80 #[U4 j0 j1 j2 j3, U2 yh yl] w (.tuple #[U4 q0 q1 q2 q3, U2 rh rl, .bool true])))
    (h2 : Hid (∀ w, Ca 82 #[U4 q0 q1 q2 q3, .int .i64 127] w (U4 s0 s1 s2 s3)))
    (h3 : Hid (∀ w, Ca 83 #[U2 rh rl] w (.bool false)))
    (h4 : Hid (∀ w, Ca 84 #[.agg #[.int .u8 f, .int .u8 m, .bool t, .int .u64 ah, .int .u64 al, .int .u64 bh, .int .u64 bl, .bool sa, .int .u8 ca, .int .i64 ea, .int .u64 xh, .int .u64 xl, .bool sb, .int .u8 cb, .int .i64 eb, .int .u64 yh, .int .u64 yl]] w (.bool n)))
    (h5 : Hid (∀ w, FTab w → Ca 48 #[.int .u8 f, .agg #[.int .u8 m, .bool t], .bool n, .int .i64 e, U4 o0 s1 s2 s3] w (.agg #[.int .u64 ph, .int .u64 pl, .int .u8 pf]))) (w1 : IntKind.i64.wrap (ea - eb) = e) (w1x : wrap64 (ea - eb) = e) (w2 : bits .or .u64 s0 1 = o0) (w : World) (ft : FTab w) :
    Ca 32 #[.agg #[.int .u8 f, .int .u8 m, .bool t, .int .u64 ah, .int .u64 al, .int .u64 bh, .int .u64 bl, .bool sa, .int .u8 ca, .int .i64 ea, .int .u64 xh, .int .u64 xl, .bool sb, .int .u8 cb, .int .i64 eb, .int .u64 yh, .int .u64 yl]] w (.agg #[.int .u64 ph, .int .u64 pl, .int .u8 pf]) := by
  simp only [Ca, U2, U4] at *
  go_enter Tryz.func32, Tryz.ntmps32
  go_wp2_with fail
  have gX1 : w.heap.size ≤ w.heap.size + 1 := by omega
  refine vF2 fun w1 b1 X0 X1 => ?_
  refine' (have s2_12 : Hid (_ : Prop) := ?ns2_12; ?ms2_12)
  case' ms2_12 => skip
  refine' (have s2_11 : Hid (_ : Prop) := ?ns2_11; ?ms2_11)
  case' ms2_11 => skip
  refine' (have s2_10 : Hid (_ : Prop) := ?ns2_10; ?ms2_10)
  case' ms2_10 => skip
  refine' (have s2_9 : Hid (_ : Prop) := ?ns2_9; ?ms2_9)
  case' ms2_9 => skip
  refine' (have s2_8 : Hid (_ : Prop) := ?ns2_8; ?ms2_8)
  case' ms2_8 => skip
  refine' (have s2_7 : Hid (_ : Prop) := ?ns2_7; ?ms2_7)
  case' ms2_7 => skip
  refine' (have s2_6 : Hid (_ : Prop) := ?ns2_6; ?ms2_6)
  case' ms2_6 => skip
  refine' (have s2_5 : Hid (_ : Prop) := ?ns2_5; ?ms2_5)
  case' ms2_5 => skip
  refine' (have s2_4 : Hid (_ : Prop) := ?ns2_4; ?ms2_4)
  case' ms2_4 => skip
  refine' (have s2_3 : Hid (_ : Prop) := ?ns2_3; ?ms2_3)
  case' ms2_3 => skip
  refine' (have s2_2 : Hid (_ : Prop) := ?ns2_2; ?ms2_2)
  case' ms2_2 => skip
  refine' (have s2_1 : Hid (_ : Prop) := ?ns2_1; ?ms2_1)
  case' ms2_1 => skip
  refine' (have s2_0 : Hid (_ : Prop) := ?ns2_0; ?ms2_0)
  case' ms2_0 => skip
  refine vR [] fun w2 kz2 S => ?_
  refine vT 0 S ?_
  refine vT 1 S ?_
  refine vT 2 S ?_ (hy := by intro wq hb; have q := (hb.hb X0 (by simp)).o; go_simp; try (with_reducible rfl))
  refine vT 3 S ?_
  refine vT 5 S ?_
  refine vT 6 S ?_
  refine vT 7 S ?_ (hy := by intro wq hb; have q := (hb.hb X0 (by simp)).o; go_simp; try (with_reducible rfl))
  refine vY3 (cC 4 S (h0.out _) fun w3 b3 => ?_) (cA 13 S fun w4 pp1_0 h X2 b4 => ?_) (cA 14 S fun w5 pp1_1 h X3 b5 => ?_)
  replace kz2 := bC kz2 b3
  clear S b3 w2
  revert kz2; revert w3
  exact s2_0.out
  have jX2 := (lZ kz2.size h); replace kz2 := bC kz2 b4
  clear S b4 h w2
  revert kz2; revert jX2; revert X2; revert pp1_0; revert w4
  exact s2_1.out
  have jX3 := (lZ kz2.size h); replace kz2 := bC kz2 b5
  clear S b5 h w2
  revert kz2; revert jX3; revert X3; revert pp1_1; revert w5
  exact s2_2.out
  case' ns2_0 => refine lH ?_
  intro w6 kz2
  have S := Off.ofB kz2
  refine vY3 (cC 8 S (h1.out _) fun w7 b7 => ?_) (cA 13 S fun w8 pp1_0 h X2 b8 => ?_) (cA 14 S fun w9 pp1_1 h X3 b9 => ?_)
  replace kz2 := bC kz2 b7
  refine vT 9 (Off.ofB kz2) ?_
  refine vT 10 (Off.ofB kz2) ?_
  refine vT 11 (Off.ofB kz2) ?_
  refine vT 12 (Off.ofB kz2) ?_
  clear S b7 w6
  revert kz2; revert w7
  exact s2_3.out
  have jX2 := (lZ kz2.size h); replace kz2 := bC kz2 b8
  clear S b8 h w6
  revert kz2; revert jX2; revert X2; revert pp1_0; revert w8
  exact s2_4.out
  have jX3 := (lZ kz2.size h); replace kz2 := bC kz2 b9
  clear S b9 h w6
  revert kz2; revert jX3; revert X3; revert pp1_1; revert w9
  exact s2_5.out
  case' ns2_1 => refine lH ?_
  intro w10 pp1_0 X2 jX2 kz2
  have S := Off.ofB kz2
  refine vY2 (cC 4 S (h0.out _) fun w11 b11 => s2_4.out w11 pp1_0 (X2.later b11) jX2 (bC kz2 b11)) (cA 14 S fun w12 pp1_1 h X3 b12 => ?_)
  have ndX2_X3 : ¬ (pp1_0 = pp1_1) := (Nat.ne_of_lt (lY X2.lt h)); have jX3 := (lZ kz2.size h); replace X2 := (X2.later b12); replace kz2 := bC kz2 b12
  clear S b12 h w10
  revert kz2; revert ndX2_X3; revert jX3; revert jX2; revert X3; revert X2; revert pp1_1; revert pp1_0; revert w12
  exact s2_6.out
  case' ns2_2 => refine lH ?_
  intro w13 pp1_1 X3 jX3 kz2
  have S := Off.ofB kz2
  refine vY2 (cC 4 S (h0.out _) fun w14 b14 => s2_5.out w14 pp1_1 (X3.later b14) jX3 (bC kz2 b14)) (cA 13 S fun w15 pp1_0 h X2 b15 => s2_6.out w15 pp1_0 pp1_1 X2 (X3.later b15) (lZ kz2.size h) jX3 (Nat.ne_of_gt (lY X3.lt h)) (bC kz2 b15))
  case' ns2_3 => refine lH ?_
  intro w16 kz2
  have S := Off.ofB kz2
  refine vY2 (cA 13 S fun w17 pp1_0 h X2 b17 => ?_) (cA 14 S fun w18 pp1_1 h X3 b18 => ?_)
  have jX2 := (lZ kz2.size h); replace kz2 := bC kz2 b17
  clear S b17 h w16
  revert kz2; revert jX2; revert X2; revert pp1_0; revert w17
  exact s2_7.out
  have jX3 := (lZ kz2.size h); replace kz2 := bC kz2 b18
  clear S b18 h w16
  revert kz2; revert jX3; revert X3; revert pp1_1; revert w18
  exact s2_8.out
  case' ns2_4 => refine lH ?_
  intro w19 pp1_0 X2 jX2 kz2
  have S := Off.ofB kz2
  refine vY2 (cC 8 S (h1.out _) fun w20 b20 => ?_) (cA 14 S fun w21 pp1_1 h X3 b21 => ?_)
  replace X2 := (X2.later b20); replace kz2 := bC kz2 b20
  refine vT 9 (Off.ofB kz2) ?_
  refine vT 10 (Off.ofB kz2) ?_
  refine vT 11 (Off.ofB kz2) ?_
  refine vT 12 (Off.ofB kz2) ?_
  clear S b20 w19
  revert kz2; revert jX2; revert X2; revert pp1_0; revert w20
  exact s2_7.out
  have ndX2_X3 : ¬ (pp1_0 = pp1_1) := (Nat.ne_of_lt (lY X2.lt h)); have jX3 := (lZ kz2.size h); replace X2 := (X2.later b21); replace kz2 := bC kz2 b21
  clear S b21 h w19
  revert kz2; revert ndX2_X3; revert jX3; revert jX2; revert X3; revert X2; revert pp1_1; revert pp1_0; revert w21
  exact s2_9.out
  case' ns2_5 => refine lH ?_
  intro w22 pp1_1 X3 jX3 kz2
  have S := Off.ofB kz2
  refine vY2 (cC 8 S (h1.out _) fun w23 b23 => ?_) (cA 13 S fun w24 pp1_0 h X2 b24 => s2_9.out w24 pp1_0 pp1_1 X2 (X3.later b24) (lZ kz2.size h) jX3 (Nat.ne_of_gt (lY X3.lt h)) (bC kz2 b24))
  replace X3 := (X3.later b23); replace kz2 := bC kz2 b23
  refine vT 9 (Off.ofB kz2) ?_
  refine vT 10 (Off.ofB kz2) ?_
  refine vT 11 (Off.ofB kz2) ?_
  refine vT 12 (Off.ofB kz2) ?_
  clear S b23 w22
  revert kz2; revert jX3; revert X3; revert pp1_1; revert w23
  exact s2_8.out
  case' ns2_6 => refine lH ?_
  intro w25 pp1_0 pp1_1 X2 X3 jX2 jX3 ndX2_X3 kz2
  have S := Off.ofB kz2
  refine vY1 (cC 4 S (h0.out _) fun w26 b26 => s2_9.out w26 pp1_0 pp1_1 (X2.later b26) (X3.later b26) jX2 jX3 ndX2_X3 (bC kz2 b26))
  case' ns2_7 => refine lH ?_
  intro w27 pp1_0 X2 jX2 kz2
  have S := Off.ofB kz2
  refine vY1 (cA 14 S fun w28 pp1_1 h X3 b28 => ?_)
  have ndX2_X3 : ¬ (pp1_0 = pp1_1) := (Nat.ne_of_lt (lY X2.lt h)); have jX3 := (lZ kz2.size h); replace X2 := (X2.later b28); replace kz2 := bC kz2 b28
  clear S b28 h w27
  revert kz2; revert ndX2_X3; revert jX3; revert jX2; revert X3; revert X2; revert pp1_1; revert pp1_0; revert w28
  exact s2_10.out
  case' ns2_8 => refine lH ?_
  intro w29 pp1_1 X3 jX3 kz2
  have S := Off.ofB kz2
  refine vY1 (cA 13 S fun w30 pp1_0 h X2 b30 => s2_10.out w30 pp1_0 pp1_1 X2 (X3.later b30) (lZ kz2.size h) jX3 (Nat.ne_of_gt (lY X3.lt h)) (bC kz2 b30))
  case' ns2_9 => refine lH ?_
  intro w31 pp1_0 pp1_1 X2 X3 jX2 jX3 ndX2_X3 kz2
  have S := Off.ofB kz2
  refine vY1 (cC 8 S (h1.out _) fun w32 b32 => ?_)
  replace X2 := (X2.later b32); replace X3 := (X3.later b32); replace kz2 := bC kz2 b32
  refine vT 9 (Off.ofB kz2) ?_
  refine vT 10 (Off.ofB kz2) ?_
  refine vT 11 (Off.ofB kz2) ?_
  refine vT 12 (Off.ofB kz2) ?_
  clear S b32 w31
  revert kz2; revert ndX2_X3; revert jX3; revert jX2; revert X3; revert X2; revert pp1_1; revert pp1_0; revert w32
  exact s2_10.out
  case' ns2_10 => refine lH ?_
  intro w33 pp1_0 pp1_1 X2 X3 jX2 jX3 ndX2_X3 kz2
  have S := Off.ofB kz2
  refine vY1 (vO 15 fun K hK => ?_)
  have q := X2.o; have mX3 : ¬ (pp1_1 = pp1_0) := (by omega)
  go_simp
  refine vW (fun W => HB W pp1_0 90 #[.int .u64 q0, .int .u64 q1, .int .u64 q2, .int .u64 q3] ∧ HB W pp1_1 28 #[.int .u64 0, .int .u64 0] ∧ Below w1.heap.size w1 W) ⟨((((X2.set 0 _).set 1 _).set 2 _).set 3 _), ((((X3.other mX3 0 _).other mX3 1 _).other mX3 2 _).other mX3 3 _), ((((kz2.setCell (p := ⟨pp1_0, 0, none⟩) jX2 _).setCell (p := ⟨pp1_0, 1, none⟩) jX2 _).setCell (p := ⟨pp1_0, 2, none⟩) jX2 _).setCell (p := ⟨pp1_0, 3, none⟩) jX2 _)⟩ fun w35 hz => ?_
  clear q mX3 X2 X3 S kz2 w33; obtain ⟨X2, X3, kz2⟩ := hz
  refine hK.out _ _ (Off.ofB kz2) fun S => ?_; clear hK K S; refine vP ?_
  revert kz2; revert ndX2_X3; revert jX3; revert jX2; revert X3; revert X2; revert pp1_1; revert pp1_0; revert w35
  exact s2_11.out
  case' ns2_11 => refine lH ?_
  intro w36 pp1_0 pp1_1 X2 X3 jX2 jX3 ndX2_X3 kz2
  have S := Off.ofB kz2
  refine vY1 (vO 16 fun K hK => ?_)
  have q := X3.o; have mX2 : ¬ (pp1_0 = pp1_1) := (by omega)
  go_simp
  refine vW (fun W => HB W pp1_0 90 #[.int .u64 q0, .int .u64 q1, .int .u64 q2, .int .u64 q3] ∧ HB W pp1_1 28 #[.int .u64 rh, .int .u64 rl] ∧ Below w1.heap.size w1 W) ⟨((X2.other mX2 0 _).other mX2 1 _), ((X3.set 0 _).set 1 _), ((kz2.setCell (p := ⟨pp1_1, 0, none⟩) jX3 _).setCell (p := ⟨pp1_1, 1, none⟩) jX3 _)⟩ fun w38 hz => ?_
  clear q mX2 X2 X3 S kz2 w36; obtain ⟨X2, X3, kz2⟩ := hz
  refine hK.out _ _ (Off.ofB kz2) fun S => ?_; clear hK K S; refine vP ?_
  refine vT 17 (Off.ofB kz2) ?_
  revert kz2; revert ndX2_X3; revert jX3; revert jX2; revert X3; revert X2; revert pp1_1; revert pp1_0; revert w38
  exact s2_12.out
  case' ns2_12 => refine lH ?_
  intro w39 pp1_0 pp1_1 X2 X3 jX2 jX3 ndX2_X3 kz2
  refine vD ?_
  have nX0_X2 : w.heap.size < pp1_0 := by have := X0.lt; omega
  have nX0_X3 : w.heap.size < pp1_1 := by have := X0.lt; omega
  have nX1_X2 : w.heap.size + 1 < pp1_0 := by have := X1.lt; omega
  have nX1_X3 : w.heap.size + 1 < pp1_1 := by have := X1.lt; omega
  have gX2 : w.heap.size ≤ pp1_0 := by have := b1.size; omega
  have gX3 : w.heap.size ≤ pp1_1 := by have := b1.size; omega
  have oX2 := X2.o
  go_wp2_with fail
  refine vM (h2.out _) fun w40 b40 => ?_
  clear oX2
  replace X3 := X3.later b40
  have oX3 := X3.o
  go_wp2_with fail
  refine vM (h3.out _) fun w41 b41 => ?_
  have gX4 : w.heap.size ≤ w40.heap.size := by have := (bC (bC b1 kz2) b40).size; omega
  replace X0 := X0.later (bC kz2 b40)
  have nX0_X4 : w.heap.size < w40.heap.size := by have := X0.lt; omega
  replace X1 := X1.later (bC kz2 b40)
  have nX1_X4 : w.heap.size + 1 < w40.heap.size := by have := X1.lt; omega
  have X4 := (HB.newAt (b := w40.heap.size) (by simp) _ _).later b41
  clear oX3
  have oX4 := X4.o
  replace X1 := X1.later (bC (bA bR _) b41)
  go_wp2_with fail
  replace X0 := X0.later (bC (bA bR _) b41)
  refine wp_forget (fun W => HB W w.heap.size 58 #[.int .u8 f, .int .u8 m, .bool t, .int .u64 ah, .int .u64 al, .int .u64 bh, .int .u64 bl, .bool sa, .int .u8 ca, .int .i64 ea, .int .u64 xh, .int .u64 xl, .bool sb, .int .u8 cb, .int .i64 eb, .int .u64 yh, .int .u64 yl] ∧ HB W (w.heap.size + 1) 31 #[.int .u64 0, .int .u64 0, .int .u8 0] ∧ HB W w40.heap.size 90 #[.int .u64 o0, .int .u64 s1, .int .u64 s2, .int .u64 s3] ∧ Below w.heap.size w W) ⟨(X0.other (by omega) 0 _), (X1.other (by omega) 0 _), (X4.set 0 _), ((bC (bC (bC b1 kz2) b40) (bC (bA bR _) b41)).setCell (p := ⟨w40.heap.size, 0, none⟩) gX4 _)⟩ (fun w42 hst => ?_)
  obtain ⟨X0, X1, X4, kk⟩ := hst
  clear oX4
  refine vR [w.heap.size + 1] fun w43 b43 S43 => ?_
  refine vT 0 S43 ?_
  refine vT 1 S43 ?_ (hy := by intro wq hb; have q := (hb.hb X0 (by simp <;> omega)).o; go_simp; try (with_reducible rfl))
  refine vT 2 S43 ?_
  refine vT 3 S43 ?_ (hy := by intro wq hb; have q := (hb.hb X0 (by simp <;> omega)).o; go_simp; try (with_reducible rfl))
  refine vT 4 S43 ?_ (hy := by intro wq hb; have q := (hb.hb X0 (by simp <;> omega)).o; go_simp; try (with_reducible rfl))
  refine vT 6 S43 ?_
  refine vT 7 S43 ?_
  refine vT 8 S43 ?_ (hy := by intro wq hb; have q := (hb.hb X0 (by simp <;> omega)).o; go_simp; try (with_reducible rfl))
  refine vT 9 S43 ?_
  refine vT 10 S43 ?_
  refine vT 11 S43 ?_ (hy := by intro wq hb; have q := (hb.hb X0 (by simp <;> omega)).o; go_simp; try (with_reducible rfl))
  refine vT 12 S43 ?_
  refine vT 13 S43 ?_ (hy := by intro wq hb; have q := (hb.hb X4 (by simp <;> omega)).o; go_simp; try (with_reducible rfl))
  refine vY1 (vC 5 S43 (h4.out _) (fun _ _ => Off.later) fun w44 b44 S44 => ?_)
  refine vY1 (vC 14 S44 (h5.out _ (ft.later (bC kk (bC b43 b44)))) (fun _ _ => Off.later) fun w45 b45 S45 => ?_)
  refine vY1 (vO 15 fun K hK => ?_)
  replace X1 := X1.later (bC (bC b43 b44) b45)
  have oX1 := X1.o
  go_simp
  refine hK.out _ _ (Off.set (by simp) (Off.set (by simp) (Off.set (by simp) S45))) fun S46 => ?_
  clear hK K
  refine vP ?_
  refine vD ?_
  go_wp2_with fail
  refine bodyPost_ret (v := .agg #[.int .u64 ph, .int .u64 pl, .int .u8 pf]) ?_ rfl ⟨rfl, ((((bC kk (bC (bC b43 b44) b45)).setCell (p := ⟨w.heap.size + 1, 0, none⟩) gX1 _).setCell (p := ⟨w.heap.size + 1, 1, none⟩) gX1 _).setCell (p := ⟨w.heap.size + 1, 2, none⟩) gX1 _)⟩
  simp [results, Tryz.results32, go_sem, oX1]
end Go.Proofs.YtnlmceafleeaiaaGreatDoor
