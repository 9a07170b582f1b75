import Derived.Test.YtnlmceafleeaiaaGreatDoorGwA
import Derived.Test.YtnlmceafleeaiaaGreatDoorGaB
import Derived.Test.YtnlmceafleeaiaaGreatDoorGfA
import Derived.Test.YtnlmceafleeaiaaGreatDoorGhA
import Derived.Test.YtnlmceafleeaiaaGreatDoorGaA
import Derived.Test.YtnlmceafleeaiaaGreatDoorGoes21
set_option maxHeartbeats 4000000
set_option linter.unusedVariables false
set_option linter.unusedSimpArgs false
set_option maxRecDepth 100000
namespace Go.Proofs.YtnlmceafleeaiaaGreatDoor
open Go.RowKit
attribute [local go_sem ↓] Go.wp_at_zero Go.wp_at_succ
theorem back21_b (f ah al bh bl qf c d ka ek nl nh rf of qh ql rh rl th tl vh vl oh ol : Int) (cn na sg eo : Bool)
    (h0 : Hid (∀ w, FTab w → Ca 13 #[.int .u8 f, U2 ah al] w (.bool true)))
    (h1 : Hid (∀ w, FTab w → Ca 13 #[.int .u8 f, U2 bh bl] w (.bool true)))
    (h2 : Hid (∀ w, FTab w → Ca 10 #[.int .u8 f, .agg #[.int .u8 4, .bool false], U2 ah al, U2 bh bl] w (.agg #[.int .u64 qh, .int .u64 ql, .int .u8 qf])))
    (h3 : Hid (∀ w, FTab w → Ca 14 #[.int .u8 f, U2 qh ql] w (.tuple #[.int .u8 c, .bool cn])))
    (h4 : Hid (∀ w, FTab w → Ca 18 #[.int .u8 f, U2 qh ql] w (U2 th tl)))
    (h5 : Hid (∀ w, FTab w → Ca 17 #[.int .u8 f, .agg #[.int .u8 1, .bool false], U2 th tl, U2 bh bl, U2 ah al] w (.agg #[.int .u64 rh, .int .u64 rl, .int .u8 rf])))
    (h6 : Hid (∀ w, FTab w → Ca 14 #[.int .u8 f, U2 ah al] w (.tuple #[.int .u8 ka, .bool na])))
    (h7 : Hid (∀ w, FTab w → Ca 14 #[.int .u8 f, U2 rh rl] w (.tuple #[.int .u8 d, .bool sg]))) (g0 : (qf == 0) = false) (g1 : (c != 2) = false) (g2 : (qf != 16) = false) (g3 : (d != 0) = true) (g4 : (!(sg == na)) = false)
    (HH : ((IntKind.u64.wrap (ql + 1) = nl) ∧ ((nl == 0) = false) ∧ Hid (∀ w, FTab w → Ca 19 #[.int .u8 f, U2 qh nl] w (.bool false)) ∧ Hid (∀ w, FTab w → Ca 12 #[] w (.bool true))) ∨ ((IntKind.u64.wrap (ql + 1) = nl) ∧ ((nl == 0) = false) ∧ ((ek == 0) = true) ∧ Hid (∀ w, FTab w → Ca 19 #[.int .u8 f, U2 qh nl] w (.bool true)) ∧ Hid (∀ w, FTab w → Ca 18 #[.int .u8 f, U2 qh nl] w (U2 vh vl)) ∧ Hid (∀ w, FTab w → Ca 17 #[.int .u8 f, .agg #[.int .u8 1, .bool false], U2 vh vl, U2 bh bl, U2 ah al] w (.agg #[.int .u64 oh, .int .u64 ol, .int .u8 of])) ∧ Hid (∀ w, FTab w → Ca 14 #[.int .u8 f, U2 oh ol] w (.tuple #[.int .u8 ek, .bool eo])) ∧ Hid (∀ w, FTab w → Ca 12 #[] w (.bool true))) ∨ ((IntKind.u64.wrap (ql + 1) = nl) ∧ ((nl == 0) = false) ∧ ((ek == 0) = false) ∧ ((!(eo == na)) = true) ∧ Hid (∀ w, FTab w → Ca 19 #[.int .u8 f, U2 qh nl] w (.bool true)) ∧ Hid (∀ w, FTab w → Ca 18 #[.int .u8 f, U2 qh nl] w (U2 vh vl)) ∧ Hid (∀ w, FTab w → Ca 17 #[.int .u8 f, .agg #[.int .u8 1, .bool false], U2 vh vl, U2 bh bl, U2 ah al] w (.agg #[.int .u64 oh, .int .u64 ol, .int .u8 of])) ∧ Hid (∀ w, FTab w → Ca 14 #[.int .u8 f, U2 oh ol] w (.tuple #[.int .u8 ek, .bool eo])) ∧ Hid (∀ w, FTab w → Ca 12 #[] w (.bool true))) ∨ ((IntKind.u64.wrap (ql + 1) = nl) ∧ ((nl == 0) = true) ∧ (IntKind.u64.wrap (qh + 1) = nh) ∧ Hid (∀ w, FTab w → Ca 19 #[.int .u8 f, U2 nh nl] w (.bool false)) ∧ Hid (∀ w, FTab w → Ca 12 #[] w (.bool true))) ∨ ((IntKind.u64.wrap (ql + 1) = nl) ∧ ((nl == 0) = true) ∧ (IntKind.u64.wrap (qh + 1) = nh) ∧ ((ek == 0) = true) ∧ Hid (∀ w, FTab w → Ca 19 #[.int .u8 f, U2 nh nl] w (.bool true)) ∧ Hid (∀ w, FTab w → Ca 18 #[.int .u8 f, U2 nh nl] w (U2 vh vl)) ∧ Hid (∀ w, FTab w → Ca 17 #[.int .u8 f, .agg #[.int .u8 1, .bool false], U2 vh vl, U2 bh bl, U2 ah al] w (.agg #[.int .u64 oh, .int .u64 ol, .int .u8 of])) ∧ Hid (∀ w, FTab w → Ca 14 #[.int .u8 f, U2 oh ol] w (.tuple #[.int .u8 ek, .bool eo])) ∧ Hid (∀ w, FTab w → Ca 12 #[] w (.bool true))) ∨ ((IntKind.u64.wrap (ql + 1) = nl) ∧ ((nl == 0) = true) ∧ (IntKind.u64.wrap (qh + 1) = nh) ∧ ((ek == 0) = false) ∧ ((!(eo == na)) = true) ∧ Hid (∀ w, FTab w → Ca 19 #[.int .u8 f, U2 nh nl] w (.bool true)) ∧ Hid (∀ w, FTab w → Ca 18 #[.int .u8 f, U2 nh nl] w (U2 vh vl)) ∧ Hid (∀ w, FTab w → Ca 17 #[.int .u8 f, .agg #[.int .u8 1, .bool false], U2 vh vl, U2 bh bl, U2 ah al] w (.agg #[.int .u64 oh, .int .u64 ol, .int .u8 of])) ∧ Hid (∀ w, FTab w → Ca 14 #[.int .u8 f, U2 oh ol] w (.tuple #[.int .u8 ek, .bool eo])) ∧ Hid (∀ w, FTab w → Ca 12 #[] w (.bool true)))) (w : World) (ft : FTab w) :
    Ca 4 #[.int .u8 f, U2 ah al, U2 bh bl] w (.bool true) := by
  simp only [Ca, U2] at *
  go_enter Tryz.func4, Tryz.ntmps4
  go_wp2_with fail
  refine vM (h0.out _ (ft.later (bA (bA (bA bR _) _) _))) fun w1 b1 => ?_
  have X0 := (((HB.newAt (b := w.heap.size) (by simp) _ _).alloc _).alloc _).later b1
  have X1 := ((HB.newAt (b := w.heap.size + 1) (by simp) _ _).alloc _).later b1
  have X2 := (HB.newAt (b := w.heap.size + 1 + 1) (by simp) _ _).later b1
  have oX1 := X1.o
  go_wp2_with fail
  refine vM (h1.out _ (ft.later (bC (bA (bA (bA bR _) _) _) b1))) fun w2 b2 => ?_
  clear oX1
  replace X2 := X2.later b2
  have oX2 := X2.o
  replace X0 := X0.later b2
  have oX0 := X0.o
  replace X1 := X1.later b2
  have oX1 := X1.o
  go_wp2_with fail
  refine vM (h2.out _ (ft.later (bC (bC (bA (bA (bA bR _) _) _) b1) b2))) fun w3 b3 => ?_
  clear oX2 oX0 oX1
  go_wp2_with fail
  refine vM (h3.out _ (ft.later (bA (bC (bC (bC (bA (bA (bA bR _) _) _) b1) b2) b3) _))) fun w4 b4 => ?_
  have X3 := (HB.newAt (b := w3.heap.size) (by simp) _ _).later b4
  have oX3 := X3.o
  go_wp2_with fail
  refine vF1 fun w5 b5 X4 => ?_
  clear oX3
  replace X0 := X0.later (bC (bC b3 (bC (bA bR _) b4)) b5)
  replace X1 := X1.later (bC (bC b3 (bC (bA bR _) b4)) b5)
  replace X3 := X3.later b5
  refine' (have s6_5 : Hid (_ : Prop) := ?ns6_5; ?ms6_5)
  case' ms6_5 => skip
  refine' (have s6_4 : Hid (_ : Prop) := ?ns6_4; ?ms6_4)
  case' ms6_4 => skip
  refine' (have s6_3 : Hid (_ : Prop) := ?ns6_3; ?ms6_3)
  case' ms6_3 => skip
  refine' (have s6_2 : Hid (_ : Prop) := ?ns6_2; ?ms6_2)
  case' ms6_2 => skip
  refine' (have s6_1 : Hid (_ : Prop) := ?ns6_1; ?ms6_1)
  case' ms6_1 => skip
  refine' (have s6_0 : Hid (_ : Prop) := ?ns6_0; ?ms6_0)
  case' ms6_0 => skip
  refine vR [] fun w6 kz6 S => ?_
  refine vT 0 S ?_
  refine vT 1 S ?_ (hy := by intro wq hb; have q := (hb.hb X4 (by simp)).o; go_simp; try (with_reducible rfl))
  refine vT 2 S ?_
  refine vT 3 S ?_
  refine vT 4 S ?_ (hy := by intro wq hb; have q := (hb.hb X3 (by simp)).o; go_simp; try (with_reducible rfl))
  refine vT 6 S ?_ (hy := by intro wq hb; have q := (hb.hb X1 (by simp)).o; go_simp; try (with_reducible rfl))
  refine vT 7 S ?_ (hy := by intro wq hb; have q := (hb.hb X0 (by simp)).o; go_simp; try (with_reducible rfl))
  refine vY2 (cC 5 S (h4.out _ (ft.later (bC (bC (bC (bC (bC (bC (bA (bA (bA bR _) _) _) b1) b2) b3) (bC (bA bR _) b4)) b5) kz6))) fun w7 b7 => ?_) (cA 9 S fun w8 pp5_0 h X5 b8 => ?_)
  replace kz6 := bC kz6 b7
  clear S b7 w6
  revert kz6; revert w7
  exact s6_0.out
  have jX5 := (lZ kz6.size h); replace kz6 := bC kz6 b8
  clear S b8 h w6
  revert kz6; revert jX5; revert X5; revert pp5_0; revert w8
  exact s6_1.out
  case' ns6_0 => refine lH ?_
  intro w9 kz6
  have S := Off.ofB kz6
  refine vY2 (cC 8 S (h5.out _ (ft.later (bC (bC (bC (bC (bC (bC (bA (bA (bA bR _) _) _) b1) b2) b3) (bC (bA bR _) b4)) b5) kz6))) fun w10 b10 => ?_) (cA 9 S fun w11 pp5_0 h X5 b11 => ?_)
  replace kz6 := bC kz6 b10
  clear S b10 w9
  revert kz6; revert w10
  exact s6_2.out
  have jX5 := (lZ kz6.size h); replace kz6 := bC kz6 b11
  clear S b11 h w9
  revert kz6; revert jX5; revert X5; revert pp5_0; revert w11
  exact s6_3.out
  case' ns6_1 => refine lH ?_
  intro w12 pp5_0 X5 jX5 kz6
  have S := Off.ofB kz6
  refine vY1 (cC 5 S (h4.out _ (ft.later (bC (bC (bC (bC (bC (bC (bA (bA (bA bR _) _) _) b1) b2) b3) (bC (bA bR _) b4)) b5) kz6))) fun w13 b13 => s6_3.out w13 pp5_0 (X5.later b13) jX5 (bC kz6 b13))
  case' ns6_2 => refine lH ?_
  intro w14 kz6
  have S := Off.ofB kz6
  refine vY1 (cA 9 S fun w15 pp5_0 h X5 b15 => ?_)
  have jX5 := (lZ kz6.size h); replace kz6 := bC kz6 b15
  clear S b15 h w14
  revert kz6; revert jX5; revert X5; revert pp5_0; revert w15
  exact s6_4.out
  case' ns6_3 => refine lH ?_
  intro w16 pp5_0 X5 jX5 kz6
  have S := Off.ofB kz6
  refine vY1 (cC 8 S (h5.out _ (ft.later (bC (bC (bC (bC (bC (bC (bA (bA (bA bR _) _) _) b1) b2) b3) (bC (bA bR _) b4)) b5) kz6))) fun w17 b17 => s6_4.out w17 pp5_0 (X5.later b17) jX5 (bC kz6 b17))
  case' ns6_4 => refine lH ?_
  intro w18 pp5_0 X5 jX5 kz6
  have S := Off.ofB kz6
  refine vY1 (vO 10 fun K hK => ?_)
  have q := X5.o
  go_simp
  refine vW (fun W => HB W pp5_0 31 #[.int .u64 rh, .int .u64 rl, .int .u8 rf] ∧ Below w5.heap.size w5 W) ⟨(((X5.set 0 _).set 1 _).set 2 _), (((kz6.setCell (p := ⟨pp5_0, 0, none⟩) jX5 _).setCell (p := ⟨pp5_0, 1, none⟩) jX5 _).setCell (p := ⟨pp5_0, 2, none⟩) jX5 _)⟩ fun w20 hz => ?_
  clear q X5 S kz6 w18; obtain ⟨X5, kz6⟩ := hz
  refine hK.out _ _ (Off.ofB kz6) fun S => ?_; clear hK K S; refine vP ?_
  revert kz6; revert jX5; revert X5; revert pp5_0; revert w20
  exact s6_5.out
  case' ns6_5 => refine lH ?_
  intro w21 pp5_0 X5 jX5 kz6
  refine vD ?_
  have nX0_X5 : w.heap.size < pp5_0 := by have := X0.lt; omega
  have nX1_X5 : w.heap.size + 1 < pp5_0 := by have := X1.lt; omega
  have nX3_X5 : w3.heap.size < pp5_0 := by have := X3.lt; omega
  have nX4_X5 : w4.heap.size < pp5_0 := by have := X4.lt; omega
  have gX5 : w.heap.size ≤ pp5_0 := by have := (bC (bC (bC (bC (bC (bA (bA (bA bR _) _) _) b1) b2) b3) (bC (bA bR _) b4)) b5).size; omega
  replace X0 := X0.later kz6
  have oX0 := X0.o
  go_wp2_with fail
  refine vM (h6.out _ (ft.later (bC (bC (bC (bC (bC (bC (bA (bA (bA bR _) _) _) b1) b2) b3) (bC (bA bR _) b4)) b5) kz6))) fun w22 b22 => ?_
  clear oX0
  replace X5 := X5.later b22
  have oX5 := X5.o
  go_wp2_with fail
  refine vM (h7.out _ (ft.later (bC (bC (bC (bC (bC (bC (bC (bA (bA (bA bR _) _) _) b1) b2) b3) (bC (bA bR _) b4)) b5) kz6) b22))) fun w23 b23 => ?_
  clear oX5
  replace X3 := X3.later (bC (bC kz6 b22) b23)
  have oX3 := X3.o
  rcases HH with ⟨q1, g5, h8, h9⟩ | ⟨q1, g5, g6, h8, h9, h10, h11, h12⟩ | ⟨q1, g5, g6, g7, h8, h9, h10, h11, h12⟩ | ⟨q1, g5, q2, h8, h9⟩ | ⟨q1, g5, q2, g6, h8, h9, h10, h11, h12⟩ | ⟨q1, g5, q2, g6, g7, h8, h9, h10, h11, h12⟩
  · go_wp2_with fail
    refine vM (h8.out _ (ft.later (bA (bC (bC (bC (bC (bC (bC (bC (bC (bA (bA (bA bR _) _) _) b1) b2) b3) (bC (bA bR _) b4)) b5) kz6) b22) b23) _))) fun w24 b24 => ?_
    have X6 := (HB.newAt (b := w23.heap.size) (by simp) _ _).later b24
    clear oX3
    go_wp2_with fail
    refine vM (h9.out _ (ft.later (bC (bC (bC (bC (bC (bC (bC (bC (bC (bA (bA (bA bR _) _) _) b1) b2) b3) (bC (bA bR _) b4)) b5) kz6) b22) b23) (bC (bA bR _) b24)))) fun w25 b25 => ?_
    go_wp2_with fail
    go_ret
    exact ⟨rfl, (bC (bC (bC (bC (bC (bC (bC (bC (bC (bC (bA (bA (bA bR _) _) _) b1) b2) b3) (bC (bA bR _) b4)) b5) kz6) b22) b23) (bC (bA bR _) b24)) b25)⟩
  · go_wp2_with fail
    refine vM (h8.out _ (ft.later (bA (bC (bC (bC (bC (bC (bC (bC (bC (bA (bA (bA bR _) _) _) b1) b2) b3) (bC (bA bR _) b4)) b5) kz6) b22) b23) _))) fun w24 b24 => ?_
    have X6 := (HB.newAt (b := w23.heap.size) (by simp) _ _).later b24
    clear oX3
    go_wp2_with fail
    replace X0 := X0.later (bC (bC b22 b23) (bC (bA bR _) b24))
    replace X1 := X1.later (bC (bC (bC kz6 b22) b23) (bC (bA bR _) b24))
    replace X4 := X4.later (bC (bC (bC kz6 b22) b23) (bC (bA bR _) b24))
    refine' (have s25b_5 : Hid (_ : Prop) := ?ns25b_5; ?ms25b_5)
    case' ms25b_5 => skip
    refine' (have s25b_4 : Hid (_ : Prop) := ?ns25b_4; ?ms25b_4)
    case' ms25b_4 => skip
    refine' (have s25b_3 : Hid (_ : Prop) := ?ns25b_3; ?ms25b_3)
    case' ms25b_3 => skip
    refine' (have s25b_2 : Hid (_ : Prop) := ?ns25b_2; ?ms25b_2)
    case' ms25b_2 => skip
    refine' (have s25b_1 : Hid (_ : Prop) := ?ns25b_1; ?ms25b_1)
    case' ms25b_1 => skip
    refine' (have s25b_0 : Hid (_ : Prop) := ?ns25b_0; ?ms25b_0)
    case' ms25b_0 => skip
    refine vR [] fun w25 kz25 S => ?_
    refine vT 0 S ?_
    refine vT 1 S ?_ (hy := by intro wq hb; have q := (hb.hb X4 (by simp)).o; go_simp; try (with_reducible rfl))
    refine vT 2 S ?_
    refine vT 3 S ?_ (hy := by intro wq hb; have q := (hb.hb X6 (by simp)).o; go_simp; try (with_reducible rfl))
    refine vT 5 S ?_ (hy := by intro wq hb; have q := (hb.hb X1 (by simp)).o; go_simp; try (with_reducible rfl))
    refine vT 6 S ?_ (hy := by intro wq hb; have q := (hb.hb X0 (by simp)).o; go_simp; try (with_reducible rfl))
    refine vY2 (cC 4 S (h9.out _ (ft.later (bC (bC (bC (bC (bC (bC (bC (bC (bC (bC (bA (bA (bA bR _) _) _) b1) b2) b3) (bC (bA bR _) b4)) b5) kz6) b22) b23) (bC (bA bR _) b24)) kz25))) fun w26 b26 => ?_) (cA 8 S fun w27 pp24_0 h X7 b27 => ?_)
    replace kz25 := bC kz25 b26
    clear S b26 w25
    revert kz25; revert w26
    exact s25b_0.out
    have jX7 := (lZ kz25.size h); replace kz25 := bC kz25 b27
    clear S b27 h w25
    revert kz25; revert jX7; revert X7; revert pp24_0; revert w27
    exact s25b_1.out
    case' ns25b_0 => refine lH ?_
    intro w28 kz25
    have S := Off.ofB kz25
    refine vY2 (cC 7 S (h10.out _ (ft.later (bC (bC (bC (bC (bC (bC (bC (bC (bC (bC (bA (bA (bA bR _) _) _) b1) b2) b3) (bC (bA bR _) b4)) b5) kz6) b22) b23) (bC (bA bR _) b24)) kz25))) fun w29 b29 => ?_) (cA 8 S fun w30 pp24_0 h X7 b30 => ?_)
    replace kz25 := bC kz25 b29
    clear S b29 w28
    revert kz25; revert w29
    exact s25b_2.out
    have jX7 := (lZ kz25.size h); replace kz25 := bC kz25 b30
    clear S b30 h w28
    revert kz25; revert jX7; revert X7; revert pp24_0; revert w30
    exact s25b_3.out
    case' ns25b_1 => refine lH ?_
    intro w31 pp24_0 X7 jX7 kz25
    have S := Off.ofB kz25
    refine vY1 (cC 4 S (h9.out _ (ft.later (bC (bC (bC (bC (bC (bC (bC (bC (bC (bC (bA (bA (bA bR _) _) _) b1) b2) b3) (bC (bA bR _) b4)) b5) kz6) b22) b23) (bC (bA bR _) b24)) kz25))) fun w32 b32 => s25b_3.out w32 pp24_0 (X7.later b32) jX7 (bC kz25 b32))
    case' ns25b_2 => refine lH ?_
    intro w33 kz25
    have S := Off.ofB kz25
    refine vY1 (cA 8 S fun w34 pp24_0 h X7 b34 => ?_)
    have jX7 := (lZ kz25.size h); replace kz25 := bC kz25 b34
    clear S b34 h w33
    revert kz25; revert jX7; revert X7; revert pp24_0; revert w34
    exact s25b_4.out
    case' ns25b_3 => refine lH ?_
    intro w35 pp24_0 X7 jX7 kz25
    have S := Off.ofB kz25
    refine vY1 (cC 7 S (h10.out _ (ft.later (bC (bC (bC (bC (bC (bC (bC (bC (bC (bC (bA (bA (bA bR _) _) _) b1) b2) b3) (bC (bA bR _) b4)) b5) kz6) b22) b23) (bC (bA bR _) b24)) kz25))) fun w36 b36 => s25b_4.out w36 pp24_0 (X7.later b36) jX7 (bC kz25 b36))
    case' ns25b_4 => refine lH ?_
    intro w37 pp24_0 X7 jX7 kz25
    have S := Off.ofB kz25
    refine vY1 (vO 9 fun K hK => ?_)
    have q := X7.o
    go_simp
    refine vW (fun W => HB W pp24_0 31 #[.int .u64 oh, .int .u64 ol, .int .u8 of] ∧ Below w24.heap.size w24 W) ⟨(((X7.set 0 _).set 1 _).set 2 _), (((kz25.setCell (p := ⟨pp24_0, 0, none⟩) jX7 _).setCell (p := ⟨pp24_0, 1, none⟩) jX7 _).setCell (p := ⟨pp24_0, 2, none⟩) jX7 _)⟩ fun w39 hz => ?_
    clear q X7 S kz25 w37; obtain ⟨X7, kz25⟩ := hz
    refine hK.out _ _ (Off.ofB kz25) fun S => ?_; clear hK K S; refine vP ?_
    revert kz25; revert jX7; revert X7; revert pp24_0; revert w39
    exact s25b_5.out
    case' ns25b_5 => refine lH ?_
    intro w40 pp24_0 X7 jX7 kz25
    refine vD ?_
    have nX0_X7 : w.heap.size < pp24_0 := by have := X0.lt; omega
    have nX1_X7 : w.heap.size + 1 < pp24_0 := by have := X1.lt; omega
    have nX4_X7 : w4.heap.size < pp24_0 := by have := X4.lt; omega
    have nX6_X7 : w23.heap.size < pp24_0 := by have := X6.lt; omega
    have gX7 : w.heap.size ≤ pp24_0 := by have := (bC (bC (bC (bC (bC (bC (bC (bC (bC (bA (bA (bA bR _) _) _) b1) b2) b3) (bC (bA bR _) b4)) b5) kz6) b22) b23) (bC (bA bR _) b24)).size; omega
    have oX7 := X7.o
    go_wp2_with fail
    refine vM (h11.out _ (ft.later (bC (bC (bC (bC (bC (bC (bC (bC (bC (bC (bA (bA (bA bR _) _) _) b1) b2) b3) (bC (bA bR _) b4)) b5) kz6) b22) b23) (bC (bA bR _) b24)) kz25))) fun w41 b41 => ?_
    clear oX7
    go_wp2_with fail
    refine vM (h12.out _ (ft.later (bC (bC (bC (bC (bC (bC (bC (bC (bC (bC (bC (bA (bA (bA bR _) _) _) b1) b2) b3) (bC (bA bR _) b4)) b5) kz6) b22) b23) (bC (bA bR _) b24)) kz25) b41))) fun w42 b42 => ?_
    go_wp2_with fail
    go_ret
    exact ⟨rfl, (bC (bC (bC (bC (bC (bC (bC (bC (bC (bC (bC (bC (bA (bA (bA bR _) _) _) b1) b2) b3) (bC (bA bR _) b4)) b5) kz6) b22) b23) (bC (bA bR _) b24)) kz25) b41) b42)⟩
  · go_wp2_with fail
    refine vM (h8.out _ (ft.later (bA (bC (bC (bC (bC (bC (bC (bC (bC (bA (bA (bA bR _) _) _) b1) b2) b3) (bC (bA bR _) b4)) b5) kz6) b22) b23) _))) fun w24 b24 => ?_
    have X6 := (HB.newAt (b := w23.heap.size) (by simp) _ _).later b24
    clear oX3
    go_wp2_with fail
    replace X0 := X0.later (bC (bC b22 b23) (bC (bA bR _) b24))
    replace X1 := X1.later (bC (bC (bC kz6 b22) b23) (bC (bA bR _) b24))
    replace X4 := X4.later (bC (bC (bC kz6 b22) b23) (bC (bA bR _) b24))
    refine' (have s25c_5 : Hid (_ : Prop) := ?ns25c_5; ?ms25c_5)
    case' ms25c_5 => skip
    refine' (have s25c_4 : Hid (_ : Prop) := ?ns25c_4; ?ms25c_4)
    case' ms25c_4 => skip
    refine' (have s25c_3 : Hid (_ : Prop) := ?ns25c_3; ?ms25c_3)
    case' ms25c_3 => skip
    refine' (have s25c_2 : Hid (_ : Prop) := ?ns25c_2; ?ms25c_2)
    case' ms25c_2 => skip
    refine' (have s25c_1 : Hid (_ : Prop) := ?ns25c_1; ?ms25c_1)
    case' ms25c_1 => skip
    refine' (have s25c_0 : Hid (_ : Prop) := ?ns25c_0; ?ms25c_0)
    case' ms25c_0 => skip
    refine vR [] fun w25 kz25 S => ?_
    refine vT 0 S ?_
    refine vT 1 S ?_ (hy := by intro wq hb; have q := (hb.hb X4 (by simp)).o; go_simp; try (with_reducible rfl))
    refine vT 2 S ?_
    refine vT 3 S ?_ (hy := by intro wq hb; have q := (hb.hb X6 (by simp)).o; go_simp; try (with_reducible rfl))
    refine vT 5 S ?_ (hy := by intro wq hb; have q := (hb.hb X1 (by simp)).o; go_simp; try (with_reducible rfl))
    refine vT 6 S ?_ (hy := by intro wq hb; have q := (hb.hb X0 (by simp)).o; go_simp; try (with_reducible rfl))
    refine vY2 (cC 4 S (h9.out _ (ft.later (bC (bC (bC (bC (bC (bC (bC (bC (bC (bC (bA (bA (bA bR _) _) _) b1) b2) b3) (bC (bA bR _) b4)) b5) kz6) b22) b23) (bC (bA bR _) b24)) kz25))) fun w26 b26 => ?_) (cA 8 S fun w27 pp24_0 h X7 b27 => ?_)
    replace kz25 := bC kz25 b26
    clear S b26 w25
    revert kz25; revert w26
    exact s25c_0.out
    have jX7 := (lZ kz25.size h); replace kz25 := bC kz25 b27
    clear S b27 h w25
    revert kz25; revert jX7; revert X7; revert pp24_0; revert w27
    exact s25c_1.out
    case' ns25c_0 => refine lH ?_
    intro w28 kz25
    have S := Off.ofB kz25
    refine vY2 (cC 7 S (h10.out _ (ft.later (bC (bC (bC (bC (bC (bC (bC (bC (bC (bC (bA (bA (bA bR _) _) _) b1) b2) b3) (bC (bA bR _) b4)) b5) kz6) b22) b23) (bC (bA bR _) b24)) kz25))) fun w29 b29 => ?_) (cA 8 S fun w30 pp24_0 h X7 b30 => ?_)
    replace kz25 := bC kz25 b29
    clear S b29 w28
    revert kz25; revert w29
    exact s25c_2.out
    have jX7 := (lZ kz25.size h); replace kz25 := bC kz25 b30
    clear S b30 h w28
    revert kz25; revert jX7; revert X7; revert pp24_0; revert w30
    exact s25c_3.out
    case' ns25c_1 => refine lH ?_
    intro w31 pp24_0 X7 jX7 kz25
    have S := Off.ofB kz25
    refine vY1 (cC 4 S (h9.out _ (ft.later (bC (bC (bC (bC (bC (bC (bC (bC (bC (bC (bA (bA (bA bR _) _) _) b1) b2) b3) (bC (bA bR _) b4)) b5) kz6) b22) b23) (bC (bA bR _) b24)) kz25))) fun w32 b32 => s25c_3.out w32 pp24_0 (X7.later b32) jX7 (bC kz25 b32))
    case' ns25c_2 => refine lH ?_
    intro w33 kz25
    have S := Off.ofB kz25
    refine vY1 (cA 8 S fun w34 pp24_0 h X7 b34 => ?_)
    have jX7 := (lZ kz25.size h); replace kz25 := bC kz25 b34
    clear S b34 h w33
    revert kz25; revert jX7; revert X7; revert pp24_0; revert w34
    exact s25c_4.out
    case' ns25c_3 => refine lH ?_
    intro w35 pp24_0 X7 jX7 kz25
    have S := Off.ofB kz25
    refine vY1 (cC 7 S (h10.out _ (ft.later (bC (bC (bC (bC (bC (bC (bC (bC (bC (bC (bA (bA (bA bR _) _) _) b1) b2) b3) (bC (bA bR _) b4)) b5) kz6) b22) b23) (bC (bA bR _) b24)) kz25))) fun w36 b36 => s25c_4.out w36 pp24_0 (X7.later b36) jX7 (bC kz25 b36))
    case' ns25c_4 => refine lH ?_
    intro w37 pp24_0 X7 jX7 kz25
    have S := Off.ofB kz25
    refine vY1 (vO 9 fun K hK => ?_)
    have q := X7.o
    go_simp
    refine vW (fun W => HB W pp24_0 31 #[.int .u64 oh, .int .u64 ol, .int .u8 of] ∧ Below w24.heap.size w24 W) ⟨(((X7.set 0 _).set 1 _).set 2 _), (((kz25.setCell (p := ⟨pp24_0, 0, none⟩) jX7 _).setCell (p := ⟨pp24_0, 1, none⟩) jX7 _).setCell (p := ⟨pp24_0, 2, none⟩) jX7 _)⟩ fun w39 hz => ?_
    clear q X7 S kz25 w37; obtain ⟨X7, kz25⟩ := hz
    refine hK.out _ _ (Off.ofB kz25) fun S => ?_; clear hK K S; refine vP ?_
    revert kz25; revert jX7; revert X7; revert pp24_0; revert w39
    exact s25c_5.out
    case' ns25c_5 => refine lH ?_
    intro w40 pp24_0 X7 jX7 kz25
    refine vD ?_
    have nX0_X7 : w.heap.size < pp24_0 := by have := X0.lt; omega
    have nX1_X7 : w.heap.size + 1 < pp24_0 := by have := X1.lt; omega
    have nX4_X7 : w4.heap.size < pp24_0 := by have := X4.lt; omega
    have nX6_X7 : w23.heap.size < pp24_0 := by have := X6.lt; omega
    have gX7 : w.heap.size ≤ pp24_0 := by have := (bC (bC (bC (bC (bC (bC (bC (bC (bC (bA (bA (bA bR _) _) _) b1) b2) b3) (bC (bA bR _) b4)) b5) kz6) b22) b23) (bC (bA bR _) b24)).size; omega
    have oX7 := X7.o
    go_wp2_with fail
    refine vM (h11.out _ (ft.later (bC (bC (bC (bC (bC (bC (bC (bC (bC (bC (bA (bA (bA bR _) _) _) b1) b2) b3) (bC (bA bR _) b4)) b5) kz6) b22) b23) (bC (bA bR _) b24)) kz25))) fun w41 b41 => ?_
    clear oX7
    go_wp2_with fail
    refine vM (h12.out _ (ft.later (bC (bC (bC (bC (bC (bC (bC (bC (bC (bC (bC (bA (bA (bA bR _) _) _) b1) b2) b3) (bC (bA bR _) b4)) b5) kz6) b22) b23) (bC (bA bR _) b24)) kz25) b41))) fun w42 b42 => ?_
    go_wp2_with fail
    go_ret
    exact ⟨rfl, (bC (bC (bC (bC (bC (bC (bC (bC (bC (bC (bC (bC (bA (bA (bA bR _) _) _) b1) b2) b3) (bC (bA bR _) b4)) b5) kz6) b22) b23) (bC (bA bR _) b24)) kz25) b41) b42)⟩
  · go_wp2_with fail
    refine vM (h8.out _ (ft.later (bA (bC (bC (bC (bC (bC (bC (bC (bC (bA (bA (bA bR _) _) _) b1) b2) b3) (bC (bA bR _) b4)) b5) kz6) b22) b23) _))) fun w24 b24 => ?_
    have X6 := (HB.newAt (b := w23.heap.size) (by simp) _ _).later b24
    clear oX3
    go_wp2_with fail
    refine vM (h9.out _ (ft.later (bC (bC (bC (bC (bC (bC (bC (bC (bC (bA (bA (bA bR _) _) _) b1) b2) b3) (bC (bA bR _) b4)) b5) kz6) b22) b23) (bC (bA bR _) b24)))) fun w25 b25 => ?_
    go_wp2_with fail
    go_ret
    exact ⟨rfl, (bC (bC (bC (bC (bC (bC (bC (bC (bC (bC (bA (bA (bA bR _) _) _) b1) b2) b3) (bC (bA bR _) b4)) b5) kz6) b22) b23) (bC (bA bR _) b24)) b25)⟩
  · go_wp2_with fail
    refine vM (h8.out _ (ft.later (bA (bC (bC (bC (bC (bC (bC (bC (bC (bA (bA (bA bR _) _) _) b1) b2) b3) (bC (bA bR _) b4)) b5) kz6) b22) b23) _))) fun w24 b24 => ?_
    have X6 := (HB.newAt (b := w23.heap.size) (by simp) _ _).later b24
    clear oX3
    go_wp2_with fail
    replace X0 := X0.later (bC (bC b22 b23) (bC (bA bR _) b24))
    replace X1 := X1.later (bC (bC (bC kz6 b22) b23) (bC (bA bR _) b24))
    replace X4 := X4.later (bC (bC (bC kz6 b22) b23) (bC (bA bR _) b24))
    refine' (have s25e_5 : Hid (_ : Prop) := ?ns25e_5; ?ms25e_5)
    case' ms25e_5 => skip
    refine' (have s25e_4 : Hid (_ : Prop) := ?ns25e_4; ?ms25e_4)
    case' ms25e_4 => skip
    refine' (have s25e_3 : Hid (_ : Prop) := ?ns25e_3; ?ms25e_3)
    case' ms25e_3 => skip
    refine' (have s25e_2 : Hid (_ : Prop) := ?ns25e_2; ?ms25e_2)
    case' ms25e_2 => skip
    refine' (have s25e_1 : Hid (_ : Prop) := ?ns25e_1; ?ms25e_1)
    case' ms25e_1 => skip
    refine' (have s25e_0 : Hid (_ : Prop) := ?ns25e_0; ?ms25e_0)
    case' ms25e_0 => skip
    refine vR [] fun w25 kz25 S => ?_
    refine vT 0 S ?_
    refine vT 1 S ?_ (hy := by intro wq hb; have q := (hb.hb X4 (by simp)).o; go_simp; try (with_reducible rfl))
    refine vT 2 S ?_
    refine vT 3 S ?_ (hy := by intro wq hb; have q := (hb.hb X6 (by simp)).o; go_simp; try (with_reducible rfl))
    refine vT 5 S ?_ (hy := by intro wq hb; have q := (hb.hb X1 (by simp)).o; go_simp; try (with_reducible rfl))
    refine vT 6 S ?_ (hy := by intro wq hb; have q := (hb.hb X0 (by simp)).o; go_simp; try (with_reducible rfl))
    refine vY2 (cC 4 S (h9.out _ (ft.later (bC (bC (bC (bC (bC (bC (bC (bC (bC (bC (bA (bA (bA bR _) _) _) b1) b2) b3) (bC (bA bR _) b4)) b5) kz6) b22) b23) (bC (bA bR _) b24)) kz25))) fun w26 b26 => ?_) (cA 8 S fun w27 pp24_0 h X7 b27 => ?_)
    replace kz25 := bC kz25 b26
    clear S b26 w25
    revert kz25; revert w26
    exact s25e_0.out
    have jX7 := (lZ kz25.size h); replace kz25 := bC kz25 b27
    clear S b27 h w25
    revert kz25; revert jX7; revert X7; revert pp24_0; revert w27
    exact s25e_1.out
    case' ns25e_0 => refine lH ?_
    intro w28 kz25
    have S := Off.ofB kz25
    refine vY2 (cC 7 S (h10.out _ (ft.later (bC (bC (bC (bC (bC (bC (bC (bC (bC (bC (bA (bA (bA bR _) _) _) b1) b2) b3) (bC (bA bR _) b4)) b5) kz6) b22) b23) (bC (bA bR _) b24)) kz25))) fun w29 b29 => ?_) (cA 8 S fun w30 pp24_0 h X7 b30 => ?_)
    replace kz25 := bC kz25 b29
    clear S b29 w28
    revert kz25; revert w29
    exact s25e_2.out
    have jX7 := (lZ kz25.size h); replace kz25 := bC kz25 b30
    clear S b30 h w28
    revert kz25; revert jX7; revert X7; revert pp24_0; revert w30
    exact s25e_3.out
    case' ns25e_1 => refine lH ?_
    intro w31 pp24_0 X7 jX7 kz25
    have S := Off.ofB kz25
    refine vY1 (cC 4 S (h9.out _ (ft.later (bC (bC (bC (bC (bC (bC (bC (bC (bC (bC (bA (bA (bA bR _) _) _) b1) b2) b3) (bC (bA bR _) b4)) b5) kz6) b22) b23) (bC (bA bR _) b24)) kz25))) fun w32 b32 => s25e_3.out w32 pp24_0 (X7.later b32) jX7 (bC kz25 b32))
    case' ns25e_2 => refine lH ?_
    intro w33 kz25
    have S := Off.ofB kz25
    refine vY1 (cA 8 S fun w34 pp24_0 h X7 b34 => ?_)
    have jX7 := (lZ kz25.size h); replace kz25 := bC kz25 b34
    clear S b34 h w33
    revert kz25; revert jX7; revert X7; revert pp24_0; revert w34
    exact s25e_4.out
    case' ns25e_3 => refine lH ?_
    intro w35 pp24_0 X7 jX7 kz25
    have S := Off.ofB kz25
    refine vY1 (cC 7 S (h10.out _ (ft.later (bC (bC (bC (bC (bC (bC (bC (bC (bC (bC (bA (bA (bA bR _) _) _) b1) b2) b3) (bC (bA bR _) b4)) b5) kz6) b22) b23) (bC (bA bR _) b24)) kz25))) fun w36 b36 => s25e_4.out w36 pp24_0 (X7.later b36) jX7 (bC kz25 b36))
    case' ns25e_4 => refine lH ?_
    intro w37 pp24_0 X7 jX7 kz25
    have S := Off.ofB kz25
    refine vY1 (vO 9 fun K hK => ?_)
    have q := X7.o
    go_simp
    refine vW (fun W => HB W pp24_0 31 #[.int .u64 oh, .int .u64 ol, .int .u8 of] ∧ Below w24.heap.size w24 W) ⟨(((X7.set 0 _).set 1 _).set 2 _), (((kz25.setCell (p := ⟨pp24_0, 0, none⟩) jX7 _).setCell (p := ⟨pp24_0, 1, none⟩) jX7 _).setCell (p := ⟨pp24_0, 2, none⟩) jX7 _)⟩ fun w39 hz => ?_
    clear q X7 S kz25 w37; obtain ⟨X7, kz25⟩ := hz
    refine hK.out _ _ (Off.ofB kz25) fun S => ?_; clear hK K S; refine vP ?_
    revert kz25; revert jX7; revert X7; revert pp24_0; revert w39
    exact s25e_5.out
    case' ns25e_5 => refine lH ?_
    intro w40 pp24_0 X7 jX7 kz25
    refine vD ?_
    have gX7 : w.heap.size ≤ pp24_0 := by have := (bC (bC (bC (bC (bC (bC (bC (bC (bC (bA (bA (bA bR _) _) _) b1) b2) b3) (bC (bA bR _) b4)) b5) kz6) b22) b23) (bC (bA bR _) b24)).size; omega
    have oX7 := X7.o
    go_wp2_with fail
    refine vM (h11.out _ (ft.later (bC (bC (bC (bC (bC (bC (bC (bC (bC (bC (bA (bA (bA bR _) _) _) b1) b2) b3) (bC (bA bR _) b4)) b5) kz6) b22) b23) (bC (bA bR _) b24)) kz25))) fun w41 b41 => ?_
    clear oX7
    go_wp2_with fail
    refine vM (h12.out _ (ft.later (bC (bC (bC (bC (bC (bC (bC (bC (bC (bC (bC (bA (bA (bA bR _) _) _) b1) b2) b3) (bC (bA bR _) b4)) b5) kz6) b22) b23) (bC (bA bR _) b24)) kz25) b41))) fun w42 b42 => ?_
    go_wp2_with fail
    go_ret
    exact ⟨rfl, (bC (bC (bC (bC (bC (bC (bC (bC (bC (bC (bC (bC (bA (bA (bA bR _) _) _) b1) b2) b3) (bC (bA bR _) b4)) b5) kz6) b22) b23) (bC (bA bR _) b24)) kz25) b41) b42)⟩
  · go_wp2_with fail
    refine vM (h8.out _ (ft.later (bA (bC (bC (bC (bC (bC (bC (bC (bC (bA (bA (bA bR _) _) _) b1) b2) b3) (bC (bA bR _) b4)) b5) kz6) b22) b23) _))) fun w24 b24 => ?_
    have X6 := (HB.newAt (b := w23.heap.size) (by simp) _ _).later b24
    clear oX3
    go_wp2_with fail
    replace X0 := X0.later (bC (bC b22 b23) (bC (bA bR _) b24))
    replace X1 := X1.later (bC (bC (bC kz6 b22) b23) (bC (bA bR _) b24))
    replace X4 := X4.later (bC (bC (bC kz6 b22) b23) (bC (bA bR _) b24))
    refine' (have s25f_5 : Hid (_ : Prop) := ?ns25f_5; ?ms25f_5)
    case' ms25f_5 => skip
    refine' (have s25f_4 : Hid (_ : Prop) := ?ns25f_4; ?ms25f_4)
    case' ms25f_4 => skip
    refine' (have s25f_3 : Hid (_ : Prop) := ?ns25f_3; ?ms25f_3)
    case' ms25f_3 => skip
    refine' (have s25f_2 : Hid (_ : Prop) := ?ns25f_2; ?ms25f_2)
    case' ms25f_2 => skip
    refine' (have s25f_1 : Hid (_ : Prop) := ?ns25f_1; ?ms25f_1)
    case' ms25f_1 => skip
    refine' (have s25f_0 : Hid (_ : Prop) := ?ns25f_0; ?ms25f_0)
    case' ms25f_0 => skip
    refine vR [] fun w25 kz25 S => ?_
    refine vT 0 S ?_
    refine vT 1 S ?_ (hy := by intro wq hb; have q := (hb.hb X4 (by simp)).o; go_simp; try (with_reducible rfl))
    refine vT 2 S ?_
    refine vT 3 S ?_ (hy := by intro wq hb; have q := (hb.hb X6 (by simp)).o; go_simp; try (with_reducible rfl))
    refine vT 5 S ?_ (hy := by intro wq hb; have q := (hb.hb X1 (by simp)).o; go_simp; try (with_reducible rfl))
    refine vT 6 S ?_ (hy := by intro wq hb; have q := (hb.hb X0 (by simp)).o; go_simp; try (with_reducible rfl))
    refine vY2 (cC 4 S (h9.out _ (ft.later (bC (bC (bC (bC (bC (bC (bC (bC (bC (bC (bA (bA (bA bR _) _) _) b1) b2) b3) (bC (bA bR _) b4)) b5) kz6) b22) b23) (bC (bA bR _) b24)) kz25))) fun w26 b26 => ?_) (cA 8 S fun w27 pp24_0 h X7 b27 => ?_)
    replace kz25 := bC kz25 b26
    clear S b26 w25
    revert kz25; revert w26
    exact s25f_0.out
    have jX7 := (lZ kz25.size h); replace kz25 := bC kz25 b27
    clear S b27 h w25
    revert kz25; revert jX7; revert X7; revert pp24_0; revert w27
    exact s25f_1.out
    case' ns25f_0 => refine lH ?_
    intro w28 kz25
    have S := Off.ofB kz25
    refine vY2 (cC 7 S (h10.out _ (ft.later (bC (bC (bC (bC (bC (bC (bC (bC (bC (bC (bA (bA (bA bR _) _) _) b1) b2) b3) (bC (bA bR _) b4)) b5) kz6) b22) b23) (bC (bA bR _) b24)) kz25))) fun w29 b29 => ?_) (cA 8 S fun w30 pp24_0 h X7 b30 => ?_)
    replace kz25 := bC kz25 b29
    clear S b29 w28
    revert kz25; revert w29
    exact s25f_2.out
    have jX7 := (lZ kz25.size h); replace kz25 := bC kz25 b30
    clear S b30 h w28
    revert kz25; revert jX7; revert X7; revert pp24_0; revert w30
    exact s25f_3.out
    case' ns25f_1 => refine lH ?_
    intro w31 pp24_0 X7 jX7 kz25
    have S := Off.ofB kz25
    refine vY1 (cC 4 S (h9.out _ (ft.later (bC (bC (bC (bC (bC (bC (bC (bC (bC (bC (bA (bA (bA bR _) _) _) b1) b2) b3) (bC (bA bR _) b4)) b5) kz6) b22) b23) (bC (bA bR _) b24)) kz25))) fun w32 b32 => s25f_3.out w32 pp24_0 (X7.later b32) jX7 (bC kz25 b32))
    case' ns25f_2 => refine lH ?_
    intro w33 kz25
    have S := Off.ofB kz25
    refine vY1 (cA 8 S fun w34 pp24_0 h X7 b34 => ?_)
    have jX7 := (lZ kz25.size h); replace kz25 := bC kz25 b34
    clear S b34 h w33
    revert kz25; revert jX7; revert X7; revert pp24_0; revert w34
    exact s25f_4.out
    case' ns25f_3 => refine lH ?_
    intro w35 pp24_0 X7 jX7 kz25
    have S := Off.ofB kz25
    refine vY1 (cC 7 S (h10.out _ (ft.later (bC (bC (bC (bC (bC (bC (bC (bC (bC (bC (bA (bA (bA bR _) _) _) b1) b2) b3) (bC (bA bR _) b4)) b5) kz6) b22) b23) (bC (bA bR _) b24)) kz25))) fun w36 b36 => s25f_4.out w36 pp24_0 (X7.later b36) jX7 (bC kz25 b36))
    case' ns25f_4 => refine lH ?_
    intro w37 pp24_0 X7 jX7 kz25
    have S := Off.ofB kz25
    refine vY1 (vO 9 fun K hK => ?_)
    have q := X7.o
    go_simp
    refine vW (fun W => HB W pp24_0 31 #[.int .u64 oh, .int .u64 ol, .int .u8 of] ∧ Below w24.heap.size w24 W) ⟨(((X7.set 0 _).set 1 _).set 2 _), (((kz25.setCell (p := ⟨pp24_0, 0, none⟩) jX7 _).setCell (p := ⟨pp24_0, 1, none⟩) jX7 _).setCell (p := ⟨pp24_0, 2, none⟩) jX7 _)⟩ fun w39 hz => ?_
    clear q X7 S kz25 w37; obtain ⟨X7, kz25⟩ := hz
    refine hK.out _ _ (Off.ofB kz25) fun S => ?_; clear hK K S; refine vP ?_
    revert kz25; revert jX7; revert X7; revert pp24_0; revert w39
    exact s25f_5.out
    case' ns25f_5 => refine lH ?_
    intro w40 pp24_0 X7 jX7 kz25
    refine vD ?_
    have gX7 : w.heap.size ≤ pp24_0 := by have := (bC (bC (bC (bC (bC (bC (bC (bC (bC (bA (bA (bA bR _) _) _) b1) b2) b3) (bC (bA bR _) b4)) b5) kz6) b22) b23) (bC (bA bR _) b24)).size; omega
    have oX7 := X7.o
    go_wp2_with fail
    refine vM (h11.out _ (ft.later (bC (bC (bC (bC (bC (bC (bC (bC (bC (bC (bA (bA (bA bR _) _) _) b1) b2) b3) (bC (bA bR _) b4)) b5) kz6) b22) b23) (bC (bA bR _) b24)) kz25))) fun w41 b41 => ?_
    clear oX7
    go_wp2_with fail
    refine vM (h12.out _ (ft.later (bC (bC (bC (bC (bC (bC (bC (bC (bC (bC (bC (bA (bA (bA bR _) _) _) b1) b2) b3) (bC (bA bR _) b4)) b5) kz6) b22) b23) (bC (bA bR _) b24)) kz25) b41))) fun w42 b42 => ?_
    go_wp2_with fail
    go_ret
    exact ⟨rfl, (bC (bC (bC (bC (bC (bC (bC (bC (bC (bC (bC (bC (bA (bA (bA bR _) _) _) b1) b2) b3) (bC (bA bR _) b4)) b5) kz6) b22) b23) (bC (bA bR _) b24)) kz25) b41) b42)⟩
end Go.Proofs.YtnlmceafleeaiaaGreatDoor
