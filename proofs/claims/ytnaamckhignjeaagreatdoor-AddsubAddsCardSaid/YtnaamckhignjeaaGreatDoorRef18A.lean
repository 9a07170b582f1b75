/-
  The document's answers of stage 18, over variables: every Add.
-/
import Derived.Test.YtnaamckhignjeaaGreatDoorAdd18M
import Derived.Test.YtnaamckhignjeaaGreatDoorW2
import Derived.Test.YtnaamckhignjeaaGreatDoorGnB
import Derived.Test.YtnaamckhignjeaaGreatDoorGhA
import Derived.Test.YtnaamckhignjeaaGreatDoorGjA
import Derived.Test.YtnaamckhignjeaaGreatDoorGaA
import Derived.Test.YtnaamckhignjeaaGreatDoorGaB
set_option linter.unusedVariables false
set_option linter.unusedSimpArgs false
set_option maxRecDepth 100000
namespace Go.Proofs.YtnaamckhignjeaaGreatDoor
open Go.RowKit
attribute [local go_sem ↓] Go.wp_at_zero Go.wp_at_succ

set_option maxHeartbeats 4000000 in
theorem ref18_add_no1 (f m ah al bh bl : Int) (t tn : Bool)
     (g1 : decide (3 < f) = true) (w : World) :
    Ca 12 #[.int .u8 f, .agg #[.int .u8 m, .bool t], U2 ah al, U2 bh bl, .bool tn] w (.agg #[.int .u64 0, .int .u64 0, .int .u8 0]) := by
  simp only [Ca, U2] at *
  go_enter Tryz.func12, Tryz.ntmps12
  go_wp2_with fail
  refine bodyPost_ret (v := .agg #[.int .u64 0, .int .u64 0, .int .u8 0]) ?_ rfl ⟨rfl, (bA (bA (bA (bA (Below.refl _ _) _) _) _) _)⟩
  simp [results, Tryz.results12, go_sem]

set_option maxHeartbeats 4000000 in
theorem ref18_add_no2 (f m ah al bh bl : Int) (t tn : Bool)
     (g1 : decide (3 < f) = false) (g2 : decide (4 < m) = true) (w : World) :
    Ca 12 #[.int .u8 f, .agg #[.int .u8 m, .bool t], U2 ah al, U2 bh bl, .bool tn] w (.agg #[.int .u64 0, .int .u64 0, .int .u8 0]) := by
  simp only [Ca, U2] at *
  go_enter Tryz.func12, Tryz.ntmps12
  go_wp2_with fail
  refine bodyPost_ret (v := .agg #[.int .u64 0, .int .u64 0, .int .u8 0]) ?_ rfl ⟨rfl, (bA (bA (bA (bA (Below.refl _ _) _) _) _) _)⟩
  simp [results, Tryz.results12, go_sem]

set_option maxHeartbeats 4000000 in
theorem ref18_add_A (f m ah al bh bl ca cb ph pl pf rh rl fl xa xb M N : Int) (t tn sa sb s1 pk va vb : Bool)
    (h0 : Hid (∀ w, Ca 38 #[.int .u8 f, U2 ah al] w (.tuple #[.int .u8 ca, .bool sa])))
    (h1 : Hid (∀ w, Ca 38 #[.int .u8 f, U2 bh bl] w (.tuple #[.int .u8 cb, .bool sb]))) (f3 : decide (3 < f) = false) (m4 : decide (4 < m) = false) (g0 : (!(sb == tn)) = s1) (g1 : (ca == 3) = false) (PK : Hid (∀ w, ∀ p T, HB w p T #[.int .u64 ah, .int .u64 al, .int .u64 bh, .int .u64 bl] → Ca 39 #[.int .u8 f, .bool false, .slice (some ⟨p, 0, none⟩) 2 2] w (.tuple #[.agg #[.int .u64 ph, .int .u64 pl, .int .u8 pf], .bool pk]))) 
    (HH : ((pk = true)) ∨ ((pk = false) ∧ ((cb == 3) = true) ∧ (fl = 0) ∧ Hid (∀ w, Ca 40 #[.int .u8 f, .bool s1] w (U2 rh rl))) ∨ ((pk = false) ∧ ((cb == 3) = false) ∧ Hid (∀ w, Calls Tryz.prog 41 #[.int .u8 f, U2 ah al] w fun e' w' => ∃ s : Option Addr × Nat × Nat, e' = .returned (.agg #[.bool va, .slice s.1 s.2.1 s.2.2, .int .i64 xa]) ∧ IsNum w' (.slice s.1 s.2.1 s.2.2) M ∧ Below w.heap.size w w') ∧ Hid (∀ w, Calls Tryz.prog 41 #[.int .u8 f, U2 bh bl] w fun e' w' => ∃ s : Option Addr × Nat × Nat, e' = .returned (.agg #[.bool vb, .slice s.1 s.2.1 s.2.2, .int .i64 xb]) ∧ IsNum w' (.slice s.1 s.2.1 s.2.2) N ∧ Below w.heap.size w w') ∧ Hid (∀ w (sx sy : Option Addr × Nat × Nat), IsNum w (.slice sx.1 sx.2.1 sx.2.2) M → IsNum w (.slice sy.1 sy.2.1 sy.2.2) N → Ca 42 #[.int .u8 f, .agg #[.int .u8 m, .bool t], .agg #[.bool va, .slice sx.1 sx.2.1 sx.2.2, .int .i64 xa], .agg #[.bool s1, .slice sy.1 sy.2.1 sy.2.2, .int .i64 xb]] w (.agg #[.int .u64 rh, .int .u64 rl, .int .u8 fl])))) (w : World) :
    Ca 12 #[.int .u8 f, .agg #[.int .u8 m, .bool t], U2 ah al, U2 bh bl, .bool tn] w (.agg #[.int .u64 (if pk then ph else rh), .int .u64 (if pk then pl else rl), .int .u8 (if pk then pf else fl)]) := by
  simp only [Ca, U2] at *
  go_enter Tryz.func12, Tryz.ntmps12
  go_wp2_with fail
  refine vM (h0.out _) fun w1 b1 => ?_
  have gX3 : w.heap.size ≤ w.heap.size + 1 + 1 + 1 := by omega
  have X0 := ((((HB.newAt (b := w.heap.size) (by simp) _ _).alloc _).alloc _).alloc _).later b1
  have X1 := (((HB.newAt (b := w.heap.size + 1) (by simp) _ _).alloc _).alloc _).later b1
  have X2 := ((HB.newAt (b := w.heap.size + 1 + 1) (by simp) _ _).alloc _).later b1
  have X3 := (HB.newAt (b := w.heap.size + 1 + 1 + 1) (by simp) _ _).later b1
  have oX2 := X2.o
  go_wp2_with fail
  refine vM (h1.out _) fun w2 b2 => ?_
  clear oX2
  replace X1 := X1.later b2
  have oX1 := X1.o
  replace X2 := X2.later b2
  have oX2 := X2.o
  go_wp2_with fail
  refine vM (PK.out _ _ _ (HB.newAt (b := w2.heap.size) (by simp) _ _)) fun w3 b3 => ?_
  rcases HH with rfl | ⟨rfl, gb, rfl, h3⟩ | ⟨rfl, gb, VA, VB, SG⟩
  · clear oX1 oX2
    replace X3 := X3.later (bC b2 (bC (bA (Below.refl _ _) _) b3))
    have oX3 := X3.o
    replace X0 := X0.later (bC b2 (bC (bA (Below.refl _ _) _) b3))
    replace X1 := X1.later (bC (bA (Below.refl _ _) _) b3)
    replace X2 := X2.later (bC (bA (Below.refl _ _) _) b3)
    go_wp2_with fail
    refine bodyPost_ret (v := .agg #[.int .u64 ph, .int .u64 pl, .int .u8 pf]) ?_ rfl ⟨rfl, (bA ((((bC (bC (bC (bA (bA (bA (bA (Below.refl _ _) _) _) _) _) b1) b2) (bC (bA (Below.refl _ _) _) b3)).setCell (p := ⟨w.heap.size + 1 + 1 + 1, 0, none⟩) gX3 _).setCell (p := ⟨w.heap.size + 1 + 1 + 1, 1, none⟩) gX3 _).setCell (p := ⟨w.heap.size + 1 + 1 + 1, 2, none⟩) gX3 _) _)⟩
    simp [results, Tryz.results12, go_sem, oX3]
  · clear oX1 oX2
    go_wp2_with fail
    refine vM (h3.out _) fun w4 b4 => ?_
    replace X3 := X3.later (bC (bC b2 (bC (bA (Below.refl _ _) _) b3)) (bC (bA (Below.refl _ _) _) b4))
    have oX3 := X3.o
    replace X0 := X0.later (bC (bC b2 (bC (bA (Below.refl _ _) _) b3)) (bC (bA (Below.refl _ _) _) b4))
    go_wp2_with fail
    refine bodyPost_ret (v := .agg #[.int .u64 rh, .int .u64 rl, .int .u8 0]) ?_ rfl ⟨rfl, ((((bC (bC (bC (bC (bA (bA (bA (bA (Below.refl _ _) _) _) _) _) b1) b2) (bC (bA (Below.refl _ _) _) b3)) (bC (bA (Below.refl _ _) _) b4)).setCell (p := ⟨w.heap.size + 1 + 1 + 1, 0, none⟩) gX3 _).setCell (p := ⟨w.heap.size + 1 + 1 + 1, 1, none⟩) gX3 _).setCell (p := ⟨w.heap.size + 1 + 1 + 1, 2, none⟩) gX3 _)⟩
    simp [results, Tryz.results12, go_sem, oX3]
  · clear oX1 oX2
    go_wp2_with fail
    refine vF1 fun w4 b4 _ => ?_
    replace X1 := X1.later (bC (bC (bA (Below.refl _ _) _) b3) b4)
    replace X2 := X2.later (bC (bC (bA (Below.refl _ _) _) b3) b4)
    refine vR [] fun w5 kz5 S => ?_
    refine vT 0 S ?_
    refine vT 1 S ?_ (hy := by intro wq hb; have q := (hb.hb X1 (by simp)).o; go_simp; try (with_reducible rfl))
    refine vT 3 S ?_
    refine vT 4 S ?_ (hy := by intro wq hb; have q := (hb.hb X2 (by simp)).o; go_simp; try (with_reducible rfl))
    refine vY3 (cE 2 S (VA.out _) fun v1 w6 nv1 b6 => ?_) (cA 6 S fun w7 pp4_0 h X6 b7 => ?_) (cA 7 S fun w8 pp4_1 h X7 b8 => ?_)
    replace kz5 := bC kz5 b6
    clear S b6 w5
    revert kz5; revert nv1; revert v1; revert w6
    refine ?s5_0; rotate_left
    have jX6 := (Nat.le_trans kz5.size h); replace kz5 := bC kz5 b7
    clear S b7 h w5
    revert kz5; revert jX6; revert X6; revert pp4_0; revert w7
    refine ?s5_1; rotate_left
    have jX7 := (Nat.le_trans kz5.size h); replace kz5 := bC kz5 b8
    clear S b8 h w5
    revert kz5; revert jX7; revert X7; revert pp4_1; revert w8
    refine ?s5_2; rotate_left
    intro w9 v1 nv1 kz5
    have S := Off.ofB kz5
    refine vY3 (cE 5 S (VB.out _) fun v2 w10 nv2 b10 => ?_) (cA 6 S fun w11 pp4_0 h X6 b11 => ?_) (cA 7 S fun w12 pp4_1 h X7 b12 => ?_)
    replace nv1 := (nv1.later b10); replace kz5 := bC kz5 b10
    clear S b10 w9
    revert kz5; revert nv2; revert nv1; revert v2; revert v1; revert w10
    refine ?s5_3; rotate_left
    have jX6 := (Nat.le_trans kz5.size h); replace nv1 := (nv1.later b11); replace kz5 := bC kz5 b11
    clear S b11 h w9
    revert kz5; revert jX6; revert nv1; revert X6; revert v1; revert pp4_0; revert w11
    refine ?s5_4; rotate_left
    have jX7 := (Nat.le_trans kz5.size h); replace nv1 := (nv1.later b12); replace kz5 := bC kz5 b12
    clear S b12 h w9
    revert kz5; revert jX7; revert nv1; revert X7; revert v1; revert pp4_1; revert w12
    refine ?s5_5; rotate_left
    intro w13 pp4_0 X6 jX6 kz5
    have S := Off.ofB kz5
    refine vY2 (cE 2 S (VA.out _) fun v1 w14 nv1 b14 => ?s5_4 w14 pp4_0 v1 (X6.later b14) nv1 jX6 (bC kz5 b14)) (cA 7 S fun w15 pp4_1 h X7 b15 => ?_)
    have ndX6_X7 : ¬ (pp4_0 = pp4_1) := (Nat.ne_of_lt (Nat.lt_of_lt_of_le X6.lt h)); have jX7 := (Nat.le_trans kz5.size h); replace X6 := (X6.later b15); replace kz5 := bC kz5 b15
    clear S b15 h w13
    revert kz5; revert ndX6_X7; revert jX7; revert jX6; revert X7; revert X6; revert pp4_1; revert pp4_0; revert w15
    refine ?s5_6; rotate_left
    intro w16 pp4_1 X7 jX7 kz5
    have S := Off.ofB kz5
    refine vY2 (cE 2 S (VA.out _) fun v1 w17 nv1 b17 => ?s5_5 w17 pp4_1 v1 (X7.later b17) nv1 jX7 (bC kz5 b17)) (cA 6 S fun w18 pp4_0 h X6 b18 => ?s5_6 w18 pp4_0 pp4_1 X6 (X7.later b18) (Nat.le_trans kz5.size h) jX7 (Nat.ne_of_gt (Nat.lt_of_lt_of_le X7.lt h)) (bC kz5 b18))
    intro w19 v1 v2 nv1 nv2 kz5
    have S := Off.ofB kz5
    refine vY2 (cA 6 S fun w20 pp4_0 h X6 b20 => ?_) (cA 7 S fun w21 pp4_1 h X7 b21 => ?_)
    have jX6 := (Nat.le_trans kz5.size h); replace nv1 := (nv1.later b20); replace nv2 := (nv2.later b20); replace kz5 := bC kz5 b20
    clear S b20 h w19
    revert kz5; revert jX6; revert nv2; revert nv1; revert X6; revert v2; revert v1; revert pp4_0; revert w20
    refine ?s5_7; rotate_left
    have jX7 := (Nat.le_trans kz5.size h); replace nv1 := (nv1.later b21); replace nv2 := (nv2.later b21); replace kz5 := bC kz5 b21
    clear S b21 h w19
    revert kz5; revert jX7; revert nv2; revert nv1; revert X7; revert v2; revert v1; revert pp4_1; revert w21
    refine ?s5_8; rotate_left
    intro w22 pp4_0 v1 X6 nv1 jX6 kz5
    have S := Off.ofB kz5
    refine vY2 (cE 5 S (VB.out _) fun v2 w23 nv2 b23 => ?s5_7 w23 pp4_0 v1 v2 (X6.later b23) (nv1.later b23) nv2 jX6 (bC kz5 b23)) (cA 7 S fun w24 pp4_1 h X7 b24 => ?_)
    have ndX6_X7 : ¬ (pp4_0 = pp4_1) := (Nat.ne_of_lt (Nat.lt_of_lt_of_le X6.lt h)); have jX7 := (Nat.le_trans kz5.size h); replace X6 := (X6.later b24); replace nv1 := (nv1.later b24); replace kz5 := bC kz5 b24
    clear S b24 h w22
    revert kz5; revert ndX6_X7; revert jX7; revert jX6; revert nv1; revert X7; revert X6; revert v1; revert pp4_1; revert pp4_0; revert w24
    refine ?s5_9; rotate_left
    intro w25 pp4_1 v1 X7 nv1 jX7 kz5
    have S := Off.ofB kz5
    refine vY2 (cE 5 S (VB.out _) fun v2 w26 nv2 b26 => ?s5_8 w26 pp4_1 v1 v2 (X7.later b26) (nv1.later b26) nv2 jX7 (bC kz5 b26)) (cA 6 S fun w27 pp4_0 h X6 b27 => ?s5_9 w27 pp4_0 pp4_1 v1 X6 (X7.later b27) (nv1.later b27) (Nat.le_trans kz5.size h) jX7 (Nat.ne_of_gt (Nat.lt_of_lt_of_le X7.lt h)) (bC kz5 b27))
    intro w28 pp4_0 pp4_1 X6 X7 jX6 jX7 ndX6_X7 kz5
    have S := Off.ofB kz5
    refine vY1 (cE 2 S (VA.out _) fun v1 w29 nv1 b29 => ?s5_9 w29 pp4_0 pp4_1 v1 (X6.later b29) (X7.later b29) nv1 jX6 jX7 ndX6_X7 (bC kz5 b29))
    intro w30 pp4_0 v1 v2 X6 nv1 nv2 jX6 kz5
    have S := Off.ofB kz5
    refine vY1 (cA 7 S fun w31 pp4_1 h X7 b31 => ?_)
    have ndX6_X7 : ¬ (pp4_0 = pp4_1) := (Nat.ne_of_lt (Nat.lt_of_lt_of_le X6.lt h)); have jX7 := (Nat.le_trans kz5.size h); replace X6 := (X6.later b31); replace nv1 := (nv1.later b31); replace nv2 := (nv2.later b31); replace kz5 := bC kz5 b31
    clear S b31 h w30
    revert kz5; revert ndX6_X7; revert jX7; revert jX6; revert nv2; revert nv1; revert X7; revert X6; revert v2; revert v1; revert pp4_1; revert pp4_0; revert w31
    refine ?s5_10; rotate_left
    intro w32 pp4_1 v1 v2 X7 nv1 nv2 jX7 kz5
    have S := Off.ofB kz5
    refine vY1 (cA 6 S fun w33 pp4_0 h X6 b33 => ?s5_10 w33 pp4_0 pp4_1 v1 v2 X6 (X7.later b33) (nv1.later b33) (nv2.later b33) (Nat.le_trans kz5.size h) jX7 (Nat.ne_of_gt (Nat.lt_of_lt_of_le X7.lt h)) (bC kz5 b33))
    intro w34 pp4_0 pp4_1 v1 X6 X7 nv1 jX6 jX7 ndX6_X7 kz5
    have S := Off.ofB kz5
    refine vY1 (cE 5 S (VB.out _) fun v2 w35 nv2 b35 => ?s5_10 w35 pp4_0 pp4_1 v1 v2 (X6.later b35) (X7.later b35) (nv1.later b35) nv2 jX6 jX7 ndX6_X7 (bC kz5 b35))
    intro w36 pp4_0 pp4_1 v1 v2 X6 X7 nv1 nv2 jX6 jX7 ndX6_X7 kz5
    have S := Off.ofB kz5
    refine vY1 (vO 8 fun K hK => ?_)
    have q := X6.o; have mX7 : ¬ (pp4_1 = pp4_0) := by omega
    go_simp
    refine vW (fun W => HB W pp4_0 77 #[.bool va, .slice v1.1 v1.2.1 v1.2.2, .int .i64 xa] ∧ HB W pp4_1 77 #[.bool false, .slice none 0 0, .int .i64 0] ∧ IsNum W (.slice v1.1 v1.2.1 v1.2.2) M ∧ IsNum W (.slice v2.1 v2.2.1 v2.2.2) N ∧ Below w4.heap.size w4 W) ⟨(((X6.set 0 _).set 1 _).set 2 _), (((X7.other mX7 0 _).other mX7 1 _).other mX7 2 _), (((nv1.setHB X6 (by simp) 0 _).setHB (X6.set 0 _) (by simp) 1 _).setHB ((X6.set 0 _).set 1 _) (by simp) 2 _), (((nv2.setHB X6 (by simp) 0 _).setHB (X6.set 0 _) (by simp) 1 _).setHB ((X6.set 0 _).set 1 _) (by simp) 2 _), (((kz5.setCell (p := ⟨pp4_0, 0, none⟩) jX6 _).setCell (p := ⟨pp4_0, 1, none⟩) jX6 _).setCell (p := ⟨pp4_0, 2, none⟩) jX6 _)⟩ fun w38 hz => ?_
    clear q mX7 X6 X7 nv1 nv2 S kz5 w36; obtain ⟨X6, X7, nv1, nv2, kz5⟩ := hz
    refine hK.out _ _ (Off.ofB kz5) fun S => ?_; clear hK K S; refine vP ?_
    revert kz5; revert ndX6_X7; revert jX7; revert jX6; revert nv2; revert nv1; revert X7; revert X6; revert v2; revert v1; revert pp4_1; revert pp4_0; revert w38
    refine ?s5_11; rotate_left
    intro w39 pp4_0 pp4_1 v1 v2 X6 X7 nv1 nv2 jX6 jX7 ndX6_X7 kz5
    have S := Off.ofB kz5
    refine vY1 (vO 9 fun K hK => ?_)
    have q := X7.o; have mX6 : ¬ (pp4_0 = pp4_1) := by omega
    go_simp
    refine vW (fun W => HB W pp4_0 77 #[.bool va, .slice v1.1 v1.2.1 v1.2.2, .int .i64 xa] ∧ HB W pp4_1 77 #[.bool vb, .slice v2.1 v2.2.1 v2.2.2, .int .i64 xb] ∧ IsNum W (.slice v1.1 v1.2.1 v1.2.2) M ∧ IsNum W (.slice v2.1 v2.2.1 v2.2.2) N ∧ Below w4.heap.size w4 W) ⟨(((X6.other mX6 0 _).other mX6 1 _).other mX6 2 _), (((X7.set 0 _).set 1 _).set 2 _), (((nv1.setHB X7 (by simp) 0 _).setHB (X7.set 0 _) (by simp) 1 _).setHB ((X7.set 0 _).set 1 _) (by simp) 2 _), (((nv2.setHB X7 (by simp) 0 _).setHB (X7.set 0 _) (by simp) 1 _).setHB ((X7.set 0 _).set 1 _) (by simp) 2 _), (((kz5.setCell (p := ⟨pp4_1, 0, none⟩) jX7 _).setCell (p := ⟨pp4_1, 1, none⟩) jX7 _).setCell (p := ⟨pp4_1, 2, none⟩) jX7 _)⟩ fun w41 hz => ?_
    clear q mX6 X6 X7 nv1 nv2 S kz5 w39; obtain ⟨X6, X7, nv1, nv2, kz5⟩ := hz
    refine hK.out _ _ (Off.ofB kz5) fun S => ?_; clear hK K S; refine vP ?_
    revert kz5; revert ndX6_X7; revert jX7; revert jX6; revert nv2; revert nv1; revert X7; revert X6; revert v2; revert v1; revert pp4_1; revert pp4_0; revert w41
    refine ?s5_12; rotate_left
    intro w42 pp4_0 pp4_1 v1 v2 X6 X7 nv1 nv2 jX6 jX7 ndX6_X7 kz5
    refine vD ?_
    replace X0 := X0.later (bC (bC b2 (bC (bA (Below.refl _ _) _) b3)) b4)
    have nX0_X6 : w.heap.size < pp4_0 := by have := X0.lt; omega
    have nX0_X7 : w.heap.size < pp4_1 := by have := X0.lt; omega
    replace X3 := X3.later (bC (bC b2 (bC (bA (Below.refl _ _) _) b3)) b4)
    have nX3_X6 : w.heap.size + 1 + 1 + 1 < pp4_0 := by have := X3.lt; omega
    have nX3_X7 : w.heap.size + 1 + 1 + 1 < pp4_1 := by have := X3.lt; omega
    have gX6 : w.heap.size ≤ pp4_0 := by have := (bC (bC (bC (bC (bA (bA (bA (bA (Below.refl _ _) _) _) _) _) b1) b2) (bC (bA (Below.refl _ _) _) b3)) b4).size; omega
    have gX7 : w.heap.size ≤ pp4_1 := by have := (bC (bC (bC (bC (bA (bA (bA (bA (Below.refl _ _) _) _) _) _) b1) b2) (bC (bA (Below.refl _ _) _) b3)) b4).size; omega
    have oX7 := X7.o
    replace X0 := X0.later kz5
    have oX0 := X0.o
    have oX6 := X6.o
    have mX0_X7 : ¬ (w.heap.size = pp4_1) := by omega
    have mX7_X0 : ¬ (pp4_1 = w.heap.size) := by omega
    have mX6_X7 : ¬ (pp4_0 = pp4_1) := by omega
    have mX7_X6 : ¬ (pp4_1 = pp4_0) := by omega
    replace X3 := X3.later kz5
    go_wp2_with fail
    refine vM (SG.out _ _ _ (nv1.setHB X7 (by simp) 0 _) (nv2.setHB X7 (by simp) 0 _)) fun w43 b43 => ?_
    replace nv1 := (nv1.setHB X7 (by simp) 0 _).later b43
    replace nv2 := (nv2.setHB X7 (by simp) 0 _).later b43
    replace X3 := (X3.other (by omega) 0 _).later b43
    have kk := bC ((bC (bC (bC (bC (bC (bA (bA (bA (bA (Below.refl _ _) _) _) _) _) b1) b2) (bC (bA (Below.refl _ _) _) b3)) b4) kz5).setCell (p := ⟨pp4_1, 0, none⟩) gX7 _) b43
    clear oX7 oX0 oX6 mX0_X7 mX6_X7 mX7_X0 mX7_X6
    clear nv1
    clear nv2
    have oX3 := X3.o
    go_wp2_with fail
    refine bodyPost_ret (v := .agg #[.int .u64 rh, .int .u64 rl, .int .u8 fl]) ?_ rfl ⟨rfl, (((kk.setCell (p := ⟨w.heap.size + 1 + 1 + 1, 0, none⟩) gX3 _).setCell (p := ⟨w.heap.size + 1 + 1 + 1, 1, none⟩) gX3 _).setCell (p := ⟨w.heap.size + 1 + 1 + 1, 2, none⟩) gX3 _)⟩
    simp [results, Tryz.results12, go_sem, oX3]

set_option maxHeartbeats 4000000 in
theorem ref18_add_B (f m ah al bh bl ca cb ph pl pf rh rl fl xa xb M N : Int) (t tn sa sb s1 pk va vb : Bool)
    (h0 : Hid (∀ w, Ca 38 #[.int .u8 f, U2 ah al] w (.tuple #[.int .u8 ca, .bool sa])))
    (h1 : Hid (∀ w, Ca 38 #[.int .u8 f, U2 bh bl] w (.tuple #[.int .u8 cb, .bool sb]))) (f3 : decide (3 < f) = false) (m4 : decide (4 < m) = false) (g0 : (!(sb == tn)) = s1) (g1 : (ca == 3) = true) (g2 : (cb == 3) = false) (PK : Hid (∀ w, ∀ p T, HB w p T #[.int .u64 ah, .int .u64 al, .int .u64 bh, .int .u64 bl] → Ca 39 #[.int .u8 f, .bool false, .slice (some ⟨p, 0, none⟩) 2 2] w (.tuple #[.agg #[.int .u64 ph, .int .u64 pl, .int .u8 pf], .bool pk]))) 
    (HH : ((pk = true)) ∨ ((pk = false) ∧ (fl = 0) ∧ Hid (∀ w, Ca 40 #[.int .u8 f, .bool sa] w (U2 rh rl)))) (w : World) :
    Ca 12 #[.int .u8 f, .agg #[.int .u8 m, .bool t], U2 ah al, U2 bh bl, .bool tn] w (.agg #[.int .u64 (if pk then ph else rh), .int .u64 (if pk then pl else rl), .int .u8 (if pk then pf else fl)]) := by
  simp only [Ca, U2] at *
  go_enter Tryz.func12, Tryz.ntmps12
  go_wp2_with fail
  refine vM (h0.out _) fun w1 b1 => ?_
  have gX3 : w.heap.size ≤ w.heap.size + 1 + 1 + 1 := by omega
  have X1 := (((HB.newAt (b := w.heap.size + 1) (by simp) _ _).alloc _).alloc _).later b1
  have X2 := ((HB.newAt (b := w.heap.size + 1 + 1) (by simp) _ _).alloc _).later b1
  have X3 := (HB.newAt (b := w.heap.size + 1 + 1 + 1) (by simp) _ _).later b1
  have oX2 := X2.o
  go_wp2_with fail
  refine vM (h1.out _) fun w2 b2 => ?_
  clear oX2
  replace X1 := X1.later b2
  have oX1 := X1.o
  replace X2 := X2.later b2
  have oX2 := X2.o
  go_wp2_with fail
  refine vM (PK.out _ _ _ (HB.newAt (b := w2.heap.size) (by simp) _ _)) fun w3 b3 => ?_
  rcases HH with rfl | ⟨rfl, rfl, h3⟩
  · clear oX1 oX2
    replace X3 := X3.later (bC b2 (bC (bA (Below.refl _ _) _) b3))
    have oX3 := X3.o
    go_wp2_with fail
    refine bodyPost_ret (v := .agg #[.int .u64 ph, .int .u64 pl, .int .u8 pf]) ?_ rfl ⟨rfl, (bA ((((bC (bC (bC (bA (bA (bA (bA (Below.refl _ _) _) _) _) _) b1) b2) (bC (bA (Below.refl _ _) _) b3)).setCell (p := ⟨w.heap.size + 1 + 1 + 1, 0, none⟩) gX3 _).setCell (p := ⟨w.heap.size + 1 + 1 + 1, 1, none⟩) gX3 _).setCell (p := ⟨w.heap.size + 1 + 1 + 1, 2, none⟩) gX3 _) _)⟩
    simp [results, Tryz.results12, go_sem, oX3]
  · clear oX1 oX2
    go_wp2_with fail
    refine vM (h3.out _) fun w4 b4 => ?_
    replace X3 := X3.later (bC (bC b2 (bC (bA (Below.refl _ _) _) b3)) (bC (bA (Below.refl _ _) _) b4))
    have oX3 := X3.o
    go_wp2_with fail
    refine bodyPost_ret (v := .agg #[.int .u64 rh, .int .u64 rl, .int .u8 0]) ?_ rfl ⟨rfl, ((((bC (bC (bC (bC (bA (bA (bA (bA (Below.refl _ _) _) _) _) _) b1) b2) (bC (bA (Below.refl _ _) _) b3)) (bC (bA (Below.refl _ _) _) b4)).setCell (p := ⟨w.heap.size + 1 + 1 + 1, 0, none⟩) gX3 _).setCell (p := ⟨w.heap.size + 1 + 1 + 1, 1, none⟩) gX3 _).setCell (p := ⟨w.heap.size + 1 + 1 + 1, 2, none⟩) gX3 _)⟩
    simp [results, Tryz.results12, go_sem, oX3]

set_option maxHeartbeats 4000000 in
theorem ref18_add_C (f m ah al bh bl ca cb ph pl pf rh rl fl xa xb M N : Int) (t tn sa sb s1 pk va vb : Bool)
    (h0 : Hid (∀ w, Ca 38 #[.int .u8 f, U2 ah al] w (.tuple #[.int .u8 ca, .bool sa])))
    (h1 : Hid (∀ w, Ca 38 #[.int .u8 f, U2 bh bl] w (.tuple #[.int .u8 cb, .bool sb]))) (f3 : decide (3 < f) = false) (m4 : decide (4 < m) = false) (g0 : (!(sb == tn)) = s1) (g1 : (ca == 3) = true) (g2 : (cb == 3) = true) (PK : Hid (∀ w, ∀ p T, HB w p T #[.int .u64 ah, .int .u64 al, .int .u64 bh, .int .u64 bl] → Ca 39 #[.int .u8 f, .bool ((!(sa == s1))), .slice (some ⟨p, 0, none⟩) 2 2] w (.tuple #[.agg #[.int .u64 ph, .int .u64 pl, .int .u8 pf], .bool pk]))) 
    (HH : ((pk = true)) ∨ ((pk = false) ∧ (fl = 0) ∧ Hid (∀ w, Ca 40 #[.int .u8 f, .bool sa] w (U2 rh rl)))) (w : World) :
    Ca 12 #[.int .u8 f, .agg #[.int .u8 m, .bool t], U2 ah al, U2 bh bl, .bool tn] w (.agg #[.int .u64 (if pk then ph else rh), .int .u64 (if pk then pl else rl), .int .u8 (if pk then pf else fl)]) := by
  simp only [Ca, U2] at *
  go_enter Tryz.func12, Tryz.ntmps12
  go_wp2_with fail
  refine vM (h0.out _) fun w1 b1 => ?_
  have gX3 : w.heap.size ≤ w.heap.size + 1 + 1 + 1 := by omega
  have X1 := (((HB.newAt (b := w.heap.size + 1) (by simp) _ _).alloc _).alloc _).later b1
  have X2 := ((HB.newAt (b := w.heap.size + 1 + 1) (by simp) _ _).alloc _).later b1
  have X3 := (HB.newAt (b := w.heap.size + 1 + 1 + 1) (by simp) _ _).later b1
  have oX2 := X2.o
  go_wp2_with fail
  refine vM (h1.out _) fun w2 b2 => ?_
  clear oX2
  replace X1 := X1.later b2
  have oX1 := X1.o
  replace X2 := X2.later b2
  have oX2 := X2.o
  go_wp2_with fail
  refine vM (PK.out _ _ _ (HB.newAt (b := w2.heap.size) (by simp) _ _)) fun w3 b3 => ?_
  rcases HH with rfl | ⟨rfl, rfl, h3⟩
  · clear oX1 oX2
    replace X3 := X3.later (bC b2 (bC (bA (Below.refl _ _) _) b3))
    have oX3 := X3.o
    go_wp2_with fail
    refine bodyPost_ret (v := .agg #[.int .u64 ph, .int .u64 pl, .int .u8 pf]) ?_ rfl ⟨rfl, (bA ((((bC (bC (bC (bA (bA (bA (bA (Below.refl _ _) _) _) _) _) b1) b2) (bC (bA (Below.refl _ _) _) b3)).setCell (p := ⟨w.heap.size + 1 + 1 + 1, 0, none⟩) gX3 _).setCell (p := ⟨w.heap.size + 1 + 1 + 1, 1, none⟩) gX3 _).setCell (p := ⟨w.heap.size + 1 + 1 + 1, 2, none⟩) gX3 _) _)⟩
    simp [results, Tryz.results12, go_sem, oX3]
  · clear oX1 oX2
    go_wp2_with fail
    refine vM (h3.out _) fun w4 b4 => ?_
    replace X3 := X3.later (bC (bC b2 (bC (bA (Below.refl _ _) _) b3)) (bC (bA (Below.refl _ _) _) b4))
    have oX3 := X3.o
    go_wp2_with fail
    refine bodyPost_ret (v := .agg #[.int .u64 rh, .int .u64 rl, .int .u8 0]) ?_ rfl ⟨rfl, ((((bC (bC (bC (bC (bA (bA (bA (bA (Below.refl _ _) _) _) _) _) b1) b2) (bC (bA (Below.refl _ _) _) b3)) (bC (bA (Below.refl _ _) _) b4)).setCell (p := ⟨w.heap.size + 1 + 1 + 1, 0, none⟩) gX3 _).setCell (p := ⟨w.heap.size + 1 + 1 + 1, 1, none⟩) gX3 _).setCell (p := ⟨w.heap.size + 1 + 1 + 1, 2, none⟩) gX3 _)⟩
    simp [results, Tryz.results12, go_sem, oX3]



end Go.Proofs.YtnaamckhignjeaaGreatDoor
