/-
  The walk of the statement AddsubNought.
-/
import Derived.Test.YtnaamckhignjeaaGreatDoorAdd18M
import Derived.Test.YtnaamckhignjeaaGreatDoorW2
import Derived.Test.YtnaamckhignjeaaGreatDoorGfA
import Derived.Test.YtnaamckhignjeaaGreatDoorGhA
import Derived.Test.YtnaamckhignjeaaGreatDoorGaA
import Derived.Test.YtnaamckhignjeaaGreatDoorGoes18
set_option linter.unusedVariables false
set_option linter.unusedSimpArgs false
set_option maxRecDepth 100000
namespace Go.Proofs.YtnaamckhignjeaaGreatDoor
open Go.RowKit
attribute [local go_sem ↓] Go.wp_at_zero Go.wp_at_succ

set_option maxHeartbeats 4000000 in
theorem nought18_no1 (f m ah al : Int) (t ng : Bool)
    (h0 : Hid (∀ w, FTab w → Ca 19 #[.int .u8 f] w (.bool false)))
    (h3 : Hid (∀ w, FTab w → Ca 13 #[] w (.bool true))) (w : World) (ft : FTab w) :
    Ca 7 #[.int .u8 f, .agg #[.int .u8 m, .bool t], U2 ah al, .bool ng] w (.bool true) := by
  simp only [Ca, U2] at *
  go_enter Tryz.func7, Tryz.ntmps7
  go_wp2_with fail
  refine vM (h0.out _ (ft.later (bA (bA (Below.refl _ _) _) _))) fun w1 b1 => ?_
  go_wp2_with fail
  refine vM (h3.out _ (ft.later (bC (bA (bA (Below.refl _ _) _) _) b1))) fun w2 b2 => ?_
  go_wp2_with fail
  go_ret
  exact ⟨rfl, (bC (bC (bA (bA (Below.refl _ _) _) _) b1) b2)⟩

set_option maxHeartbeats 4000000 in
theorem nought18_no2 (f m ah al : Int) (t ng : Bool)
    (h0 : Hid (∀ w, FTab w → Ca 19 #[.int .u8 f] w (.bool true)))
    (h1 : Hid (∀ w, Ca 23 #[.int .u8 m] w (.bool false)))
    (h3 : Hid (∀ w, FTab w → Ca 13 #[] w (.bool true))) (w : World) (ft : FTab w) :
    Ca 7 #[.int .u8 f, .agg #[.int .u8 m, .bool t], U2 ah al, .bool ng] w (.bool true) := by
  simp only [Ca, U2] at *
  go_enter Tryz.func7, Tryz.ntmps7
  go_wp2_with fail
  refine vM (h0.out _ (ft.later (bA (bA (Below.refl _ _) _) _))) fun w1 b1 => ?_
  have X0 := ((HB.newAt (b := w.heap.size) (by simp) _ _).alloc _).later b1
  have oX0 := X0.o
  go_wp2_with fail
  refine vM (h1.out _) fun w2 b2 => ?_
  clear oX0
  go_wp2_with fail
  refine vM (h3.out _ (ft.later (bC (bC (bA (bA (Below.refl _ _) _) _) b1) b2))) fun w3 b3 => ?_
  go_wp2_with fail
  go_ret
  exact ⟨rfl, (bC (bC (bC (bA (bA (Below.refl _ _) _) _) b1) b2) b3)⟩

set_option maxHeartbeats 4000000 in
theorem nought18_no3 (f m ah al : Int) (t ng : Bool)
    (h0 : Hid (∀ w, FTab w → Ca 19 #[.int .u8 f] w (.bool true)))
    (h1 : Hid (∀ w, Ca 23 #[.int .u8 m] w (.bool true)))
    (h2 : Hid (∀ w, FTab w → Ca 25 #[.int .u8 f, U2 ah al] w (.bool true)))
    (h3 : Hid (∀ w, FTab w → Ca 13 #[] w (.bool true))) (w : World) (ft : FTab w) :
    Ca 7 #[.int .u8 f, .agg #[.int .u8 m, .bool t], U2 ah al, .bool ng] w (.bool true) := by
  simp only [Ca, U2] at *
  go_enter Tryz.func7, Tryz.ntmps7
  go_wp2_with fail
  refine vM (h0.out _ (ft.later (bA (bA (Below.refl _ _) _) _))) fun w1 b1 => ?_
  have X0 := ((HB.newAt (b := w.heap.size) (by simp) _ _).alloc _).later b1
  have X1 := (HB.newAt (b := w.heap.size + 1) (by simp) _ _).later b1
  have oX0 := X0.o
  go_wp2_with fail
  refine vM (h1.out _) fun w2 b2 => ?_
  clear oX0
  replace X1 := X1.later b2
  have oX1 := X1.o
  go_wp2_with fail
  refine vM (h2.out _ (ft.later (bC (bC (bA (bA (Below.refl _ _) _) _) b1) b2))) fun w3 b3 => ?_
  clear oX1
  go_wp2_with fail
  refine vM (h3.out _ (ft.later (bC (bC (bC (bA (bA (Below.refl _ _) _) _) b1) b2) b3))) fun w4 b4 => ?_
  go_wp2_with fail
  go_ret
  exact ⟨rfl, (bC (bC (bC (bC (bA (bA (Below.refl _ _) _) _) b1) b2) b3) b4)⟩

set_option maxHeartbeats 4000000 in
theorem nought18_main (f m ah al c rh rl fl sh sl sf ph pl zh zl : Int) (t ng na rn : Bool)
    (h0 : Hid (∀ w, FTab w → Ca 19 #[.int .u8 f] w (.bool true)))
    (h1 : Hid (∀ w, Ca 23 #[.int .u8 m] w (.bool true)))
    (h2 : Hid (∀ w, FTab w → Ca 25 #[.int .u8 f, U2 ah al] w (.bool false)))
    (h3 : Hid (∀ w, FTab w → Ca 21 #[.int .u8 f, U2 ah al] w (.tuple #[.int .u8 c, .bool na])))
    (h4 : Hid (∀ w, FTab w → Ca 27 #[.int .u8 f, .bool ng] w (U2 zh zl)))
    (h5 : Hid (∀ w, FTab w → Ca 11 #[.int .u8 f, .agg #[.int .u8 m, .bool t], U2 ah al, U2 zh zl] w (.agg #[.int .u64 rh, .int .u64 rl, .int .u8 fl])))
    (h7 : Hid (∀ w, FTab w → Ca 16 #[.int .u8 f, .agg #[.int .u8 m, .bool t], U2 ah al, U2 zh zl] w (.agg #[.int .u64 sh, .int .u64 sl, .int .u8 sf]))) 
    (HH : (((c == 0) = true) ∧ ((fl == 0) = true) ∧ ((sf == 0) = true) ∧ Hid (∀ w, FTab w → Ca 21 #[.int .u8 f, U2 rh rl] w (.tuple #[.int .u8 0, .bool rn])) ∧ Hid (∀ w, FTab w → Ca 13 #[] w (.bool true))) ∨ (((c == 0) = false) ∧ (∀ w, (binOp .eql 31 (.agg #[.int .u64 rh, .int .u64 rl, .int .u8 fl]) (.agg #[.int .u64 ph, .int .u64 pl, .int .u8 0])).run Tryz.prog w = .ok (.bool true) w) ∧ (∀ w, (binOp .eql 31 (.agg #[.int .u64 sh, .int .u64 sl, .int .u8 sf]) (.agg #[.int .u64 rh, .int .u64 rl, .int .u8 fl])).run Tryz.prog w = .ok (.bool true) w) ∧ Hid (∀ w, FTab w → Ca 22 #[.int .u8 f, U2 ah al] w (U2 ph pl)) ∧ Hid (∀ w, FTab w → Ca 13 #[] w (.bool true)))) (w : World) (ft : FTab w) :
    Ca 7 #[.int .u8 f, .agg #[.int .u8 m, .bool t], U2 ah al, .bool ng] w (.bool true) := by
  simp only [Ca, U2] at *
  go_enter Tryz.func7, Tryz.ntmps7
  go_wp2_with fail
  refine vM (h0.out _ (ft.later (bA (bA (Below.refl _ _) _) _))) fun w1 b1 => ?_
  have X0 := ((HB.newAt (b := w.heap.size) (by simp) _ _).alloc _).later b1
  have X1 := (HB.newAt (b := w.heap.size + 1) (by simp) _ _).later b1
  have oX0 := X0.o
  go_wp2_with fail
  refine vM (h1.out _) fun w2 b2 => ?_
  clear oX0
  replace X1 := X1.later b2
  have oX1 := X1.o
  go_wp2_with fail
  refine vM (h2.out _ (ft.later (bC (bC (bA (bA (Below.refl _ _) _) _) b1) b2))) fun w3 b3 => ?_
  clear oX1
  replace X1 := X1.later b3
  have oX1 := X1.o
  go_wp2_with fail
  refine vM (h3.out _ (ft.later (bC (bC (bC (bA (bA (Below.refl _ _) _) _) b1) b2) b3))) fun w4 b4 => ?_
  clear oX1
  go_wp2_with fail
  replace X0 := X0.later (bC (bC b2 b3) b4)
  replace X1 := X1.later b4
  refine vR [] fun w5 kz5 S => ?_
  refine vT 0 S ?_
  refine vT 1 S ?_ (hy := by intro wq hb; have q := (hb.hb X0 (by simp)).o; go_simp; try (with_reducible rfl))
  refine vT 2 S ?_ (hy := by intro wq hb; have q := (hb.hb X1 (by simp)).o; go_simp; try (with_reducible rfl))
  refine vT 3 S ?_
  refine vT 4 S ?_
  refine vY2 (cC 5 S (h4.out _ (ft.later (bC (bC (bC (bC (bC (bA (bA (Below.refl _ _) _) _) b1) b2) b3) b4) kz5))) fun w6 b6 => ?_) (cA 7 S fun w7 pp4_0 h X2 b7 => ?_)
  replace kz5 := bC kz5 b6
  clear S b6 w5
  revert kz5; revert w6
  refine ?s5_0; rotate_left
  have jX2 := (Nat.le_trans kz5.size h); replace kz5 := bC kz5 b7
  clear S b7 h w5
  revert kz5; revert jX2; revert X2; revert pp4_0; revert w7
  refine ?s5_1; rotate_left
  intro w8 kz5
  have S := Off.ofB kz5
  refine vY2 (cC 6 S (h5.out _ (ft.later (bC (bC (bC (bC (bC (bA (bA (Below.refl _ _) _) _) b1) b2) b3) b4) kz5))) fun w9 b9 => ?_) (cA 7 S fun w10 pp4_0 h X2 b10 => ?_)
  replace kz5 := bC kz5 b9
  clear S b9 w8
  revert kz5; revert w9
  refine ?s5_2; rotate_left
  have jX2 := (Nat.le_trans kz5.size h); replace kz5 := bC kz5 b10
  clear S b10 h w8
  revert kz5; revert jX2; revert X2; revert pp4_0; revert w10
  refine ?s5_3; rotate_left
  intro w11 pp4_0 X2 jX2 kz5
  have S := Off.ofB kz5
  refine vY1 (cC 5 S (h4.out _ (ft.later (bC (bC (bC (bC (bC (bA (bA (Below.refl _ _) _) _) b1) b2) b3) b4) kz5))) fun w12 b12 => ?s5_3 w12 pp4_0 (X2.later b12) jX2 (bC kz5 b12))
  intro w13 kz5
  have S := Off.ofB kz5
  refine vY1 (cA 7 S fun w14 pp4_0 h X2 b14 => ?_)
  have jX2 := (Nat.le_trans kz5.size h); replace kz5 := bC kz5 b14
  clear S b14 h w13
  revert kz5; revert jX2; revert X2; revert pp4_0; revert w14
  refine ?s5_4; rotate_left
  intro w15 pp4_0 X2 jX2 kz5
  have S := Off.ofB kz5
  refine vY1 (cC 6 S (h5.out _ (ft.later (bC (bC (bC (bC (bC (bA (bA (Below.refl _ _) _) _) b1) b2) b3) b4) kz5))) fun w16 b16 => ?s5_4 w16 pp4_0 (X2.later b16) jX2 (bC kz5 b16))
  intro w17 pp4_0 X2 jX2 kz5
  have S := Off.ofB kz5
  refine vY1 (vO 8 fun K hK => ?_)
  have q := X2.o
  go_simp
  refine vW (fun W => HB W pp4_0 31 #[.int .u64 rh, .int .u64 rl, .int .u8 fl] ∧ Below w4.heap.size w4 W) ⟨(((X2.set 0 _).set 1 _).set 2 _), (((kz5.setCell (p := ⟨pp4_0, 0, none⟩) jX2 _).setCell (p := ⟨pp4_0, 1, none⟩) jX2 _).setCell (p := ⟨pp4_0, 2, none⟩) jX2 _)⟩ fun w19 hz => ?_
  clear q X2 S kz5 w17; obtain ⟨X2, kz5⟩ := hz
  refine hK.out _ _ (Off.ofB kz5) fun S => ?_; clear hK K S; refine vP ?_
  revert kz5; revert jX2; revert X2; revert pp4_0; revert w19
  refine ?s5_5; rotate_left
  intro w20 pp4_0 X2 jX2 kz5
  refine vD ?_
  have nX0_X2 : w.heap.size < pp4_0 := by have := X0.lt; omega
  have nX1_X2 : w.heap.size + 1 < pp4_0 := by have := X1.lt; omega
  have gX2 : w.heap.size ≤ pp4_0 := by have := (bC (bC (bC (bC (bA (bA (Below.refl _ _) _) _) b1) b2) b3) b4).size; omega
  go_wp2_with fail
  replace X0 := X0.later kz5
  replace X1 := X1.later kz5
  refine vR [] fun w21 kz21 S => ?_
  refine vT 0 S ?_
  refine vT 1 S ?_ (hy := by intro wq hb; have q := (hb.hb X0 (by simp)).o; go_simp; try (with_reducible rfl))
  refine vT 2 S ?_ (hy := by intro wq hb; have q := (hb.hb X1 (by simp)).o; go_simp; try (with_reducible rfl))
  refine vT 3 S ?_
  refine vT 4 S ?_
  refine vY2 (cC 5 S (h4.out _ (ft.later (bC (bC (bC (bC (bC (bC (bA (bA (Below.refl _ _) _) _) b1) b2) b3) b4) kz5) kz21))) fun w22 b22 => ?_) (cA 7 S fun w23 pp20_0 h X3 b23 => ?_)
  replace kz21 := bC kz21 b22
  clear S b22 w21
  revert kz21; revert w22
  refine ?s21_0; rotate_left
  have jX3 := (Nat.le_trans kz21.size h); replace kz21 := bC kz21 b23
  clear S b23 h w21
  revert kz21; revert jX3; revert X3; revert pp20_0; revert w23
  refine ?s21_1; rotate_left
  intro w24 kz21
  have S := Off.ofB kz21
  refine vY2 (cC 6 S (h7.out _ (ft.later (bC (bC (bC (bC (bC (bC (bA (bA (Below.refl _ _) _) _) b1) b2) b3) b4) kz5) kz21))) fun w25 b25 => ?_) (cA 7 S fun w26 pp20_0 h X3 b26 => ?_)
  replace kz21 := bC kz21 b25
  clear S b25 w24
  revert kz21; revert w25
  refine ?s21_2; rotate_left
  have jX3 := (Nat.le_trans kz21.size h); replace kz21 := bC kz21 b26
  clear S b26 h w24
  revert kz21; revert jX3; revert X3; revert pp20_0; revert w26
  refine ?s21_3; rotate_left
  intro w27 pp20_0 X3 jX3 kz21
  have S := Off.ofB kz21
  refine vY1 (cC 5 S (h4.out _ (ft.later (bC (bC (bC (bC (bC (bC (bA (bA (Below.refl _ _) _) _) b1) b2) b3) b4) kz5) kz21))) fun w28 b28 => ?s21_3 w28 pp20_0 (X3.later b28) jX3 (bC kz21 b28))
  intro w29 kz21
  have S := Off.ofB kz21
  refine vY1 (cA 7 S fun w30 pp20_0 h X3 b30 => ?_)
  have jX3 := (Nat.le_trans kz21.size h); replace kz21 := bC kz21 b30
  clear S b30 h w29
  revert kz21; revert jX3; revert X3; revert pp20_0; revert w30
  refine ?s21_4; rotate_left
  intro w31 pp20_0 X3 jX3 kz21
  have S := Off.ofB kz21
  refine vY1 (cC 6 S (h7.out _ (ft.later (bC (bC (bC (bC (bC (bC (bA (bA (Below.refl _ _) _) _) b1) b2) b3) b4) kz5) kz21))) fun w32 b32 => ?s21_4 w32 pp20_0 (X3.later b32) jX3 (bC kz21 b32))
  intro w33 pp20_0 X3 jX3 kz21
  have S := Off.ofB kz21
  refine vY1 (vO 8 fun K hK => ?_)
  have q := X3.o
  go_simp
  refine vW (fun W => HB W pp20_0 31 #[.int .u64 sh, .int .u64 sl, .int .u8 sf] ∧ Below w20.heap.size w20 W) ⟨(((X3.set 0 _).set 1 _).set 2 _), (((kz21.setCell (p := ⟨pp20_0, 0, none⟩) jX3 _).setCell (p := ⟨pp20_0, 1, none⟩) jX3 _).setCell (p := ⟨pp20_0, 2, none⟩) jX3 _)⟩ fun w35 hz => ?_
  clear q X3 S kz21 w33; obtain ⟨X3, kz21⟩ := hz
  refine hK.out _ _ (Off.ofB kz21) fun S => ?_; clear hK K S; refine vP ?_
  revert kz21; revert jX3; revert X3; revert pp20_0; revert w35
  refine ?s21_5; rotate_left
  intro w36 pp20_0 X3 jX3 kz21
  refine vD ?_
  have nX1_X3 : w.heap.size + 1 < pp20_0 := by have := X1.lt; omega
  have nX2_X3 : pp4_0 < pp20_0 := by have := X2.lt; omega
  have gX3 : w.heap.size ≤ pp20_0 := by have := (bC (bC (bC (bC (bC (bA (bA (Below.refl _ _) _) _) b1) b2) b3) b4) kz5).size; omega
  rcases HH with ⟨gc, gf, gs, h8, h9⟩ | ⟨gc, n1_, n2_, h8, h9⟩
  · replace X2 := X2.later kz21
    have oX2 := X2.o
    go_wp2_with fail
    refine vM (h8.out _ (ft.later (bC (bC (bC (bC (bC (bC (bA (bA (Below.refl _ _) _) _) b1) b2) b3) b4) kz5) kz21))) fun w37 b37 => ?_
    clear oX2
    replace X2 := X2.later b37
    have oX2 := X2.o
    replace X3 := X3.later b37
    have oX3 := X3.o
    go_wp2_with fail
    refine vM (h9.out _ (ft.later (bC (bC (bC (bC (bC (bC (bC (bA (bA (Below.refl _ _) _) _) b1) b2) b3) b4) kz5) kz21) b37))) fun w38 b38 => ?_
    clear oX2 oX3
    go_wp2_with fail
    go_ret
    exact ⟨rfl, (bC (bC (bC (bC (bC (bC (bC (bC (bA (bA (Below.refl _ _) _) _) b1) b2) b3) b4) kz5) kz21) b37) b38)⟩
  · go_wp2_with fail
    replace X1 := X1.later kz21
    replace X2 := X2.later kz21
    refine vR [] fun w37 b37 S37 => ?_
    refine vT 0 S37 ?_ (hy := by intro wq hb; have q := (hb.hb X2 (by simp)).o; go_simp; try (with_reducible rfl))
    refine vT 1 S37 ?_
    refine vT 2 S37 ?_ (hy := by intro wq hb; have q := (hb.hb X1 (by simp)).o; go_simp; try (with_reducible rfl))
    refine vY1 (vC 3 S37 (h8.out _ (ft.later (bC (bC (bC (bC (bC (bC (bC (bA (bA (Below.refl _ _) _) _) b1) b2) b3) b4) kz5) kz21) b37))) (fun _ _ => Off.later) fun w38 b38 S38 => ?_)
    refine vT 4 S38 ?_
    refine vT 5 S38 ?_
    refine vT 6 S38 ?_
    refine vT 7 S38 ?_ (hy := by intro wq hb; have q := (hb.hb X3 (by simp)).o; go_simp; try (with_reducible rfl))
    refine vT 8 S38 ?_ (hy := by intro wq hb; have q := (hb.hb X2 (by simp)).o; go_simp; try (with_reducible rfl))
    refine vT 9 S38 ?_
    refine vT 10 S38 ?_
    refine vT 11 S38 ?_
    refine vY1 (vC 12 S38 (h9.out _ (ft.later (bC (bC (bC (bC (bC (bC (bC (bC (bA (bA (Below.refl _ _) _) _) b1) b2) b3) b4) kz5) kz21) b37) b38))) (fun _ _ => Off.later) fun w39 b39 S39 => ?_)
    refine vT 13 S39 ?_
    refine vT 14 S39 ?_
    refine vD ?_
    go_wp2_with fail
    go_ret
    exact ⟨rfl, (bC (bC (bC (bC (bC (bC (bC (bC (bC (bA (bA (Below.refl _ _) _) _) b1) b2) b3) b4) kz5) kz21) b37) b38) b39)⟩



end Go.Proofs.YtnaamckhignjeaaGreatDoor
