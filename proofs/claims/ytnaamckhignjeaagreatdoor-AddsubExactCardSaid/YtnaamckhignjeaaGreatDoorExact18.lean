/-
  The walk of the statement AddsubExact.
-/
import Derived.Test.YtnaamckhignjeaaGreatDoorAdd18M
import Derived.Test.YtnaamckhignjeaaGreatDoorW2
import Derived.Test.YtnaamckhignjeaaGreatDoorGfA
import Derived.Test.YtnaamckhignjeaaGreatDoorGhA
import Derived.Test.YtnaamckhignjeaaGreatDoorGaA
import Derived.Test.YtnaamckhignjeaaGreatDoorGoes18
set_option linter.unusedVariables false
set_option linter.unusedSimpArgs false
set_option maxRecDepth 100000
namespace Go.Proofs.YtnaamckhignjeaaGreatDoor
open Go.RowKit
attribute [local go_sem ↓] Go.wp_at_zero Go.wp_at_succ

set_option maxHeartbeats 4000000 in
theorem exact18_nf (f m ah al bh bl mm : Int) (t : Bool)
    (h0 : Hid (∀ w, FTab w → Ca 19 #[.int .u8 f] w (.bool false)))
    (h1 : Hid (∀ w, FTab w → Ca 11 #[.int .u8 f, .agg #[.int .u8 mm, .bool t], U2 ah al, U2 bh bl] w (.agg #[.int .u64 0, .int .u64 0, .int .u8 0])))
    (h2 : Hid (∀ w, FTab w → Ca 13 #[] w (.bool true))) (m2 : m.tmod 5 = mm) (m3 : m % 5 = mm) (w : World) (ft : FTab w) :
    Ca 5 #[.int .u8 f, .agg #[.int .u8 m, .bool t], U2 ah al, U2 bh bl] w (.bool true) := by
  simp only [Ca, U2] at *
  go_enter Tryz.func5, Tryz.ntmps5
  go_wp2_with fail
  refine vM (h0.out _ (ft.later (bA (bA (bA (Below.refl _ _) _) _) _))) fun w1 b1 => ?_
  have X0 := (((HB.newAt (b := w.heap.size) (by simp) _ _).alloc _).alloc _).later b1
  have X1 := ((HB.newAt (b := w.heap.size + 1) (by simp) _ _).alloc _).later b1
  have X2 := (HB.newAt (b := w.heap.size + 1 + 1) (by simp) _ _).later b1
  have oX0 := X0.o
  have oX1 := X1.o
  have oX2 := X2.o
  go_wp2_with fail
  refine vM (h1.out _ (ft.later (bC (bA (bA (bA (Below.refl _ _) _) _) _) b1))) fun w2 b2 => ?_
  clear oX0 oX1 oX2
  go_wp2_with fail
  refine vM (h2.out _ (ft.later (bC (bC (bA (bA (bA (Below.refl _ _) _) _) _) b1) b2))) fun w3 b3 => ?_
  go_wp2_with fail
  go_ret
  exact ⟨rfl, (bC (bC (bC (bA (bA (bA (Below.refl _ _) _) _) _) b1) b2) b3)⟩

set_option maxHeartbeats 4000000 in
theorem exact18_na (f m ah al bh bl mm : Int) (t : Bool)
    (h0 : Hid (∀ w, FTab w → Ca 19 #[.int .u8 f] w (.bool true)))
    (h1 : Hid (∀ w, FTab w → Ca 20 #[.int .u8 f, U2 ah al] w (.bool false)))
    (h3 : Hid (∀ w, FTab w → Ca 13 #[] w (.bool true))) (m2 : m.tmod 5 = mm) (m3 : m % 5 = mm) (w : World) (ft : FTab w) :
    Ca 5 #[.int .u8 f, .agg #[.int .u8 m, .bool t], U2 ah al, U2 bh bl] w (.bool true) := by
  simp only [Ca, U2] at *
  go_enter Tryz.func5, Tryz.ntmps5
  go_wp2_with fail
  refine vM (h0.out _ (ft.later (bA (bA (bA (Below.refl _ _) _) _) _))) fun w1 b1 => ?_
  have X1 := ((HB.newAt (b := w.heap.size + 1) (by simp) _ _).alloc _).later b1
  have oX1 := X1.o
  go_wp2_with fail
  refine vM (h1.out _ (ft.later (bC (bA (bA (bA (Below.refl _ _) _) _) _) b1))) fun w2 b2 => ?_
  clear oX1
  go_wp2_with fail
  refine vM (h3.out _ (ft.later (bC (bC (bA (bA (bA (Below.refl _ _) _) _) _) b1) b2))) fun w3 b3 => ?_
  go_wp2_with fail
  go_ret
  exact ⟨rfl, (bC (bC (bC (bA (bA (bA (Below.refl _ _) _) _) _) b1) b2) b3)⟩

set_option maxHeartbeats 4000000 in
theorem exact18_nb (f m ah al bh bl mm : Int) (t : Bool)
    (h0 : Hid (∀ w, FTab w → Ca 19 #[.int .u8 f] w (.bool true)))
    (h1 : Hid (∀ w, FTab w → Ca 20 #[.int .u8 f, U2 ah al] w (.bool true)))
    (h2 : Hid (∀ w, FTab w → Ca 20 #[.int .u8 f, U2 bh bl] w (.bool false)))
    (h3 : Hid (∀ w, FTab w → Ca 13 #[] w (.bool true))) (m2 : m.tmod 5 = mm) (m3 : m % 5 = mm) (w : World) (ft : FTab w) :
    Ca 5 #[.int .u8 f, .agg #[.int .u8 m, .bool t], U2 ah al, U2 bh bl] w (.bool true) := by
  simp only [Ca, U2] at *
  go_enter Tryz.func5, Tryz.ntmps5
  go_wp2_with fail
  refine vM (h0.out _ (ft.later (bA (bA (bA (Below.refl _ _) _) _) _))) fun w1 b1 => ?_
  have X1 := ((HB.newAt (b := w.heap.size + 1) (by simp) _ _).alloc _).later b1
  have X2 := (HB.newAt (b := w.heap.size + 1 + 1) (by simp) _ _).later b1
  have oX1 := X1.o
  go_wp2_with fail
  refine vM (h1.out _ (ft.later (bC (bA (bA (bA (Below.refl _ _) _) _) _) b1))) fun w2 b2 => ?_
  clear oX1
  replace X2 := X2.later b2
  have oX2 := X2.o
  go_wp2_with fail
  refine vM (h2.out _ (ft.later (bC (bC (bA (bA (bA (Below.refl _ _) _) _) _) b1) b2))) fun w3 b3 => ?_
  clear oX2
  go_wp2_with fail
  refine vM (h3.out _ (ft.later (bC (bC (bC (bA (bA (bA (Below.refl _ _) _) _) _) b1) b2) b3))) fun w4 b4 => ?_
  go_wp2_with fail
  go_ret
  exact ⟨rfl, (bC (bC (bC (bC (bA (bA (bA (Below.refl _ _) _) _) _) b1) b2) b3) b4)⟩

set_option maxHeartbeats 4000000 in
theorem exact18_main (f m ah al bh bl mm c ca cb g rh rl fl zh zl sh sl sf ph pl qh ql : Int) (t rn na nb gn zz : Bool)
    (h0 : Hid (∀ w, FTab w → Ca 19 #[.int .u8 f] w (.bool true)))
    (h1 : Hid (∀ w, FTab w → Ca 20 #[.int .u8 f, U2 ah al] w (.bool true)))
    (h2 : Hid (∀ w, FTab w → Ca 20 #[.int .u8 f, U2 bh bl] w (.bool true)))
    (h3 : Hid (∀ w, FTab w → Ca 11 #[.int .u8 f, .agg #[.int .u8 mm, .bool t], U2 ah al, U2 bh bl] w (.agg #[.int .u64 rh, .int .u64 rl, .int .u8 fl])))
    (h4 : Hid (∀ w, FTab w → Ca 21 #[.int .u8 f, U2 rh rl] w (.tuple #[.int .u8 c, .bool rn])))
    (h5 : Hid (∀ w, FTab w → Ca 16 #[.int .u8 f, .agg #[.int .u8 mm, .bool t], U2 ah al, U2 ah al] w (.agg #[.int .u64 zh, .int .u64 zl, .int .u8 0])))
    (h6 : Hid (∀ w, FTab w → Ca 21 #[.int .u8 f, U2 zh zl] w (.tuple #[.int .u8 0, .bool ((mm == 3))])))
    (h7 : Hid (∀ w, FTab w → Ca 21 #[.int .u8 f, U2 ah al] w (.tuple #[.int .u8 ca, .bool na])))
    (h8 : Hid (∀ w, FTab w → Ca 16 #[.int .u8 f, .agg #[.int .u8 mm, .bool t], U2 ah al, U2 bh bl] w (.agg #[.int .u64 sh, .int .u64 sl, .int .u8 sf])))
    (h9 : Hid (∀ w, FTab w → Ca 21 #[.int .u8 f, U2 sh sl] w (.tuple #[.int .u8 g, .bool gn])))
    (h10 : Hid (∀ w, FTab w → Ca 21 #[.int .u8 f, U2 bh bl] w (.tuple #[.int .u8 cb, .bool nb]))) (n8 : bits .and .u8 fl 8 = 0) (n3 : bits .and .u8 fl 3 = 0) (HC : ((c == 0) = false ∧ (c == 1) = false) ∨ ((c == 0) = true ∧ (fl != 0) = false) ∨ ((c == 0) = false ∧ (c == 1) = true ∧ (fl != 0) = false)) (m2 : m.tmod 5 = mm) (m3 : m % 5 = mm)
    (HH : ((∀ w, (binOp .eql 28 (U2 ph pl) (U2 qh ql)).run Tryz.prog w = .ok (.bool true) w) ∧ ((g == 0) = true) ∧ Hid (∀ w, FTab w → Ca 22 #[.int .u8 f, U2 ah al] w (U2 ph pl)) ∧ Hid (∀ w, FTab w → Ca 22 #[.int .u8 f, U2 bh bl] w (U2 qh ql)) ∧ Hid (∀ w, FTab w → Ca 13 #[] w (.bool true))) ∨ ((∀ w, (binOp .eql 28 (U2 ph pl) (U2 qh ql)).run Tryz.prog w = .ok (.bool false) w) ∧ ((ca == 0) = false) ∧ ((g == 0) = false) ∧ Hid (∀ w, FTab w → Ca 22 #[.int .u8 f, U2 ah al] w (U2 ph pl)) ∧ Hid (∀ w, FTab w → Ca 22 #[.int .u8 f, U2 bh bl] w (U2 qh ql)) ∧ Hid (∀ w, FTab w → Ca 13 #[] w (.bool true))) ∨ ((∀ w, (binOp .eql 28 (U2 ph pl) (U2 qh ql)).run Tryz.prog w = .ok (.bool false) w) ∧ ((ca == 0) = true) ∧ ((cb == 0) = zz) ∧ ((g == 0) = zz) ∧ Hid (∀ w, FTab w → Ca 22 #[.int .u8 f, U2 ah al] w (U2 ph pl)) ∧ Hid (∀ w, FTab w → Ca 22 #[.int .u8 f, U2 bh bl] w (U2 qh ql)) ∧ Hid (∀ w, FTab w → Ca 13 #[] w (.bool true)))) (w : World) (ft : FTab w) :
    Ca 5 #[.int .u8 f, .agg #[.int .u8 m, .bool t], U2 ah al, U2 bh bl] w (.bool true) := by
  simp only [Ca, U2] at *
  rcases HC with ⟨g1, g2⟩ | ⟨g1, g2⟩ | ⟨g1, g2, g3⟩
  all_goals
    go_enter Tryz.func5, Tryz.ntmps5
    go_wp2_with fail
    refine vM (h0.out _ (ft.later (bA (bA (bA (Below.refl _ _) _) _) _))) fun w1 b1 => ?_
    have X0 := (((HB.newAt (b := w.heap.size) (by simp) _ _).alloc _).alloc _).later b1
    have X1 := ((HB.newAt (b := w.heap.size + 1) (by simp) _ _).alloc _).later b1
    have X2 := (HB.newAt (b := w.heap.size + 1 + 1) (by simp) _ _).later b1
    have oX1 := X1.o
    go_wp2_with fail
    refine vM (h1.out _ (ft.later (bC (bA (bA (bA (Below.refl _ _) _) _) _) b1))) fun w2 b2 => ?_
    clear oX1
    replace X2 := X2.later b2
    have oX2 := X2.o
    go_wp2_with fail
    refine vM (h2.out _ (ft.later (bC (bC (bA (bA (bA (Below.refl _ _) _) _) _) b1) b2))) fun w3 b3 => ?_
    clear oX2
    replace X0 := X0.later (bC b2 b3)
    have oX0 := X0.o
    replace X1 := X1.later (bC b2 b3)
    have oX1 := X1.o
    replace X2 := X2.later b3
    have oX2 := X2.o
    go_wp2_with fail
    refine vM (h3.out _ (ft.later (bC (bC (bC (bA (bA (bA (Below.refl _ _) _) _) _) b1) b2) b3))) fun w4 b4 => ?_
    clear oX0 oX1 oX2
    go_wp2_with fail
    refine vM (h4.out _ (ft.later (bA (bC (bC (bC (bC (bA (bA (bA (Below.refl _ _) _) _) _) b1) b2) b3) b4) _))) fun w5 b5 => ?_
    have X3 := (HB.newAt (b := w4.heap.size) (by simp) _ _).later b5
    have oX3 := X3.o
    replace X0 := X0.later (bC b4 (bC (bA (Below.refl _ _) _) b5))
    have oX0 := X0.o
    replace X1 := X1.later (bC b4 (bC (bA (Below.refl _ _) _) b5))
    have oX1 := X1.o
    go_wp2_with fail
    refine vM (h5.out _ (ft.later (bC (bC (bC (bC (bC (bA (bA (bA (Below.refl _ _) _) _) _) b1) b2) b3) b4) (bC (bA (Below.refl _ _) _) b5)))) fun w6 b6 => ?_
    clear oX3 oX0 oX1
    go_wp2_with fail
    refine vM (h6.out _ (ft.later (bA (bC (bC (bC (bC (bC (bC (bA (bA (bA (Below.refl _ _) _) _) _) b1) b2) b3) b4) (bC (bA (Below.refl _ _) _) b5)) b6) _))) fun w7 b7 => ?_
    have X4 := (HB.newAt (b := w6.heap.size) (by simp) _ _).later b7
    replace X1 := X1.later (bC b6 (bC (bA (Below.refl _ _) _) b7))
    have oX1 := X1.o
    go_wp2_with fail
    refine vM (h7.out _ (ft.later (bC (bC (bC (bC (bC (bC (bC (bA (bA (bA (Below.refl _ _) _) _) _) b1) b2) b3) b4) (bC (bA (Below.refl _ _) _) b5)) b6) (bC (bA (Below.refl _ _) _) b7)))) fun w8 b8 => ?_
    clear oX1
    replace X4 := X4.later b8
    have oX4 := X4.o
    replace X0 := X0.later (bC (bC b6 (bC (bA (Below.refl _ _) _) b7)) b8)
    have oX0 := X0.o
    replace X1 := X1.later b8
    have oX1 := X1.o
    replace X2 := X2.later (bC (bC (bC (bC b4 (bC (bA (Below.refl _ _) _) b5)) b6) (bC (bA (Below.refl _ _) _) b7)) b8)
    have oX2 := X2.o
    go_wp2_with fail
    refine vM (h8.out _ (ft.later (bC (bC (bC (bC (bC (bC (bC (bC (bA (bA (bA (Below.refl _ _) _) _) _) b1) b2) b3) b4) (bC (bA (Below.refl _ _) _) b5)) b6) (bC (bA (Below.refl _ _) _) b7)) b8))) fun w9 b9 => ?_
    clear oX4 oX0 oX1 oX2
    go_wp2_with fail
    refine vM (h9.out _ (ft.later (bA (bC (bC (bC (bC (bC (bC (bC (bC (bC (bA (bA (bA (Below.refl _ _) _) _) _) b1) b2) b3) b4) (bC (bA (Below.refl _ _) _) b5)) b6) (bC (bA (Below.refl _ _) _) b7)) b8) b9) _))) fun w10 b10 => ?_
    replace X2 := X2.later (bC b9 (bC (bA (Below.refl _ _) _) b10))
    have oX2 := X2.o
    go_wp2_with fail
    refine vM (h10.out _ (ft.later (bC (bC (bC (bC (bC (bC (bC (bC (bC (bC (bA (bA (bA (Below.refl _ _) _) _) _) b1) b2) b3) b4) (bC (bA (Below.refl _ _) _) b5)) b6) (bC (bA (Below.refl _ _) _) b7)) b8) b9) (bC (bA (Below.refl _ _) _) b10)))) fun w11 b11 => ?_
    clear oX2
    go_wp2_with fail
    replace X1 := X1.later (bC (bC b9 (bC (bA (Below.refl _ _) _) b10)) b11)
    replace X2 := X2.later b11
    refine vR [] fun w12 b12 S12 => ?_
    refine vT 0 S12 ?_
    refine vT 1 S12 ?_ (hy := by intro wq hb; have q := (hb.hb X1 (by simp)).o; go_simp; try (with_reducible rfl))
    refine vT 3 S12 ?_
    refine vT 4 S12 ?_ (hy := by intro wq hb; have q := (hb.hb X2 (by simp)).o; go_simp; try (with_reducible rfl))
    rcases HH with ⟨nq, gg, h11, h12, h13⟩ | ⟨nq, ga, gg, h11, h12, h13⟩ | ⟨nq, ga, gb, gg, h11, h12, h13⟩
    · refine vY1 (vC 2 S12 (h11.out _ (ft.later (bC (bC (bC (bC (bC (bC (bC (bC (bC (bC (bC (bC (bA (bA (bA (Below.refl _ _) _) _) _) b1) b2) b3) b4) (bC (bA (Below.refl _ _) _) b5)) b6) (bC (bA (Below.refl _ _) _) b7)) b8) b9) (bC (bA (Below.refl _ _) _) b10)) b11) b12))) (fun _ _ => Off.later) fun w13 b13 S13 => ?_)
      refine vY1 (vC 5 S13 (h12.out _ (ft.later (bC (bC (bC (bC (bC (bC (bC (bC (bC (bC (bC (bC (bC (bA (bA (bA (Below.refl _ _) _) _) _) b1) b2) b3) b4) (bC (bA (Below.refl _ _) _) b5)) b6) (bC (bA (Below.refl _ _) _) b7)) b8) b9) (bC (bA (Below.refl _ _) _) b10)) b11) b12) b13))) (fun _ _ => Off.later) fun w14 b14 S14 => ?_)
      refine vT 6 S14 ?_
      refine vT 7 S14 ?_
      refine vN 8 S14 ?_
      refine vN 9 S14 ?_
      refine vN 10 S14 ?_
      refine vN 11 S14 ?_
      refine vN 12 S14 ?_
      refine vN 13 S14 ?_
      refine vT 14 S14 ?_
      refine vT 15 S14 ?_
      refine vD ?_
      go_wp2_with fail
      refine vM (h13.out _ (ft.later (bC (bC (bC (bC (bC (bC (bC (bC (bC (bC (bC (bC (bC (bC (bA (bA (bA (Below.refl _ _) _) _) _) b1) b2) b3) b4) (bC (bA (Below.refl _ _) _) b5)) b6) (bC (bA (Below.refl _ _) _) b7)) b8) b9) (bC (bA (Below.refl _ _) _) b10)) b11) b12) b13) b14))) fun w15 b15 => ?_
      go_wp2_with fail
      go_ret
      exact ⟨rfl, (bC (bC (bC (bC (bC (bC (bC (bC (bC (bC (bC (bC (bC (bC (bC (bA (bA (bA (Below.refl _ _) _) _) _) b1) b2) b3) b4) (bC (bA (Below.refl _ _) _) b5)) b6) (bC (bA (Below.refl _ _) _) b7)) b8) b9) (bC (bA (Below.refl _ _) _) b10)) b11) b12) b13) b14) b15)⟩
    · refine vY1 (vC 2 S12 (h11.out _ (ft.later (bC (bC (bC (bC (bC (bC (bC (bC (bC (bC (bC (bC (bA (bA (bA (Below.refl _ _) _) _) _) b1) b2) b3) b4) (bC (bA (Below.refl _ _) _) b5)) b6) (bC (bA (Below.refl _ _) _) b7)) b8) b9) (bC (bA (Below.refl _ _) _) b10)) b11) b12))) (fun _ _ => Off.later) fun w13 b13 S13 => ?_)
      refine vY1 (vC 5 S13 (h12.out _ (ft.later (bC (bC (bC (bC (bC (bC (bC (bC (bC (bC (bC (bC (bC (bA (bA (bA (Below.refl _ _) _) _) _) b1) b2) b3) b4) (bC (bA (Below.refl _ _) _) b5)) b6) (bC (bA (Below.refl _ _) _) b7)) b8) b9) (bC (bA (Below.refl _ _) _) b10)) b11) b12) b13))) (fun _ _ => Off.later) fun w14 b14 S14 => ?_)
      refine vT 6 S14 ?_
      refine vT 7 S14 ?_
      refine vT 8 S14 ?_
      refine vT 9 S14 ?_
      refine vT 10 S14 ?_
      refine vN 11 S14 ?_
      refine vN 12 S14 ?_
      refine vT 13 S14 ?_
      refine vT 14 S14 ?_
      refine vT 15 S14 ?_
      refine vD ?_
      go_wp2_with fail
      refine vM (h13.out _ (ft.later (bC (bC (bC (bC (bC (bC (bC (bC (bC (bC (bC (bC (bC (bC (bA (bA (bA (Below.refl _ _) _) _) _) b1) b2) b3) b4) (bC (bA (Below.refl _ _) _) b5)) b6) (bC (bA (Below.refl _ _) _) b7)) b8) b9) (bC (bA (Below.refl _ _) _) b10)) b11) b12) b13) b14))) fun w15 b15 => ?_
      go_wp2_with fail
      go_ret
      exact ⟨rfl, (bC (bC (bC (bC (bC (bC (bC (bC (bC (bC (bC (bC (bC (bC (bC (bA (bA (bA (Below.refl _ _) _) _) _) b1) b2) b3) b4) (bC (bA (Below.refl _ _) _) b5)) b6) (bC (bA (Below.refl _ _) _) b7)) b8) b9) (bC (bA (Below.refl _ _) _) b10)) b11) b12) b13) b14) b15)⟩
    · refine vY1 (vC 2 S12 (h11.out _ (ft.later (bC (bC (bC (bC (bC (bC (bC (bC (bC (bC (bC (bC (bA (bA (bA (Below.refl _ _) _) _) _) b1) b2) b3) b4) (bC (bA (Below.refl _ _) _) b5)) b6) (bC (bA (Below.refl _ _) _) b7)) b8) b9) (bC (bA (Below.refl _ _) _) b10)) b11) b12))) (fun _ _ => Off.later) fun w13 b13 S13 => ?_)
      refine vY1 (vC 5 S13 (h12.out _ (ft.later (bC (bC (bC (bC (bC (bC (bC (bC (bC (bC (bC (bC (bC (bA (bA (bA (Below.refl _ _) _) _) _) b1) b2) b3) b4) (bC (bA (Below.refl _ _) _) b5)) b6) (bC (bA (Below.refl _ _) _) b7)) b8) b9) (bC (bA (Below.refl _ _) _) b10)) b11) b12) b13))) (fun _ _ => Off.later) fun w14 b14 S14 => ?_)
      refine vT 6 S14 ?_
      refine vT 7 S14 ?_
      refine vT 8 S14 ?_
      refine vT 9 S14 ?_
      refine vT 10 S14 ?_
      refine vT 11 S14 ?_
      refine vT 12 S14 ?_
      refine vT 13 S14 ?_
      refine vT 14 S14 ?_
      refine vT 15 S14 ?_
      refine vD ?_
      go_wp2_with fail
      refine vM (h13.out _ (ft.later (bC (bC (bC (bC (bC (bC (bC (bC (bC (bC (bC (bC (bC (bC (bA (bA (bA (Below.refl _ _) _) _) _) b1) b2) b3) b4) (bC (bA (Below.refl _ _) _) b5)) b6) (bC (bA (Below.refl _ _) _) b7)) b8) b9) (bC (bA (Below.refl _ _) _) b10)) b11) b12) b13) b14))) fun w15 b15 => ?_
      go_wp2_with fail
      go_ret
      exact ⟨rfl, (bC (bC (bC (bC (bC (bC (bC (bC (bC (bC (bC (bC (bC (bC (bC (bA (bA (bA (Below.refl _ _) _) _) _) b1) b2) b3) b4) (bC (bA (Below.refl _ _) _) b5)) b6) (bC (bA (Below.refl _ _) _) b7)) b8) b9) (bC (bA (Below.refl _ _) _) b10)) b11) b12) b13) b14) b15)⟩



end Go.Proofs.YtnaamckhignjeaaGreatDoor
