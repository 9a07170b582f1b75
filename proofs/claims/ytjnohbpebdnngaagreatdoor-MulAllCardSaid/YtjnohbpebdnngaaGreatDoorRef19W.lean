/-
  The document's answers of stage 19, over variables.
-/
import Derived.Test.YtjnohbpebdnngaaGreatDoorW2
import Derived.Test.YtjnohbpebdnngaaGreatDoorGnB
import Derived.Test.YtjnohbpebdnngaaGreatDoorGhA
import Derived.Test.YtjnohbpebdnngaaGreatDoorGjC
import Derived.Test.YtjnohbpebdnngaaGreatDoorGaA
import Derived.Test.YtjnohbpebdnngaaGreatDoorGaB
set_option linter.unusedVariables false
set_option linter.unusedSimpArgs false
set_option maxRecDepth 100000
namespace Go.Proofs.YtjnohbpebdnngaaGreatDoor
open Go.RowKit
attribute [local go_sem ↓] Go.wp_at_zero Go.wp_at_succ

set_option maxHeartbeats 4000000 in
theorem ref19_product (sx sy : Option Addr × Nat × Nat) (xa xb em M N Q : Int) (sa sb : Bool)
     (w1 : IntKind.i64.wrap (xa + xb) = em) (w1x : wrap64 (xa + xb) = em) (ML : Hid (∀ w u v, IsNum w u M → IsNum w v N → Calls Tryz.prog 48 #[u, v] w fun e' w' => ∃ q : Option Addr × Nat × Nat, e' = .returned (.slice q.1 q.2.1 q.2.2) ∧ IsNum w' (.slice q.1 q.2.1 q.2.2) Q ∧ Below w.heap.size w w')) (w : World) (nsx : IsNum w (.slice sx.1 sx.2.1 sx.2.2) (M)) (nsy : IsNum w (.slice sy.1 sy.2.1 sy.2.2) (N)) :
    Calls Tryz.prog 43 #[.agg #[.bool sa, .slice sx.1 sx.2.1 sx.2.2, .int .i64 xa], .agg #[.bool sb, .slice sy.1 sy.2.1 sy.2.2, .int .i64 xb]] w fun e' w' => ∃ q : Option Addr × Nat × Nat, e' = .returned (.agg #[.bool ((!(sa == sb))), .slice q.1 q.2.1 q.2.2, .int .i64 em]) ∧ IsNum w' (.slice q.1 q.2.1 q.2.2) Q ∧ Below w.heap.size w w' := by
  go_enter Tryz.func43, Tryz.ntmps43
  go_wp2_with fail
  have gX2 : w.heap.size ≤ w.heap.size + 1 + 1 := by omega
  refine vF3 fun w1 b1 X0 X1 X2 => ?_
  refine vR [w.heap.size + 1 + 1] fun w2 b2 S2 => ?_
  refine vT 0 S2 ?_
  refine vT 1 S2 ?_ (hy := by intro wq hb; have q := (hb.hb X0 (by simp <;> omega)).o; go_simp; try (with_reducible rfl))
  refine vT 2 S2 ?_
  refine vT 3 S2 ?_ (hy := by intro wq hb; have q := (hb.hb X1 (by simp <;> omega)).o; go_simp; try (with_reducible rfl))
  refine vT 4 S2 ?_
  refine vT 5 S2 ?_
  refine vT 6 S2 ?_ (hy := by intro wq hb; have q := (hb.hb X0 (by simp <;> omega)).o; go_simp; try (with_reducible rfl))
  refine vT 7 S2 ?_
  refine vT 8 S2 ?_ (hy := by intro wq hb; have q := (hb.hb X1 (by simp <;> omega)).o; go_simp; try (with_reducible rfl))
  refine vT 10 S2 ?_
  refine vT 11 S2 ?_ (hy := by intro wq hb; have q := (hb.hb X0 (by simp <;> omega)).o; go_simp; try (with_reducible rfl))
  refine vT 12 S2 ?_
  refine vT 13 S2 ?_ (hy := by intro wq hb; have q := (hb.hb X1 (by simp <;> omega)).o; go_simp; try (with_reducible rfl))
  refine vT 14 S2 ?_
  replace nsx := nsx.later (bC b1 b2)
  replace nsy := nsy.later (bC b1 b2)
  refine vY1 (vCE 9 S2 (ML.out _ _ _ nsx nsy) (fun _ _ => Off.later) fun q w3 nq b3 S3 => ?_)
  clear nsx
  clear nsy
  refine vT 15 S3 ?_
  refine vY1 (vO 16 fun K hK => ?_)
  replace X2 := X2.later (bC b2 b3)
  have oX2 := X2.o
  go_simp
  refine hK.out _ _ (Off.set (by simp) (Off.set (by simp) (Off.set (by simp) S3))) fun S4 => ?_
  clear hK K
  refine vP ?_
  refine vD ?_
  go_wp2_with fail
  refine bodyPost_ret (v := .agg #[.bool ((!(sa == sb))), .slice q.1 q.2.1 q.2.2, .int .i64 em]) ?_ rfl ⟨_, rfl, (((nq.setHB X2 (by simp) 0 _).setHB (X2.set 0 _) (by simp) 1 _).setHB ((X2.set 0 _).set 1 _) (by simp) 2 _), ((((bC (bC b1 b2) b3).setCell (p := ⟨w.heap.size + 1 + 1, 0, none⟩) gX2 _).setCell (p := ⟨w.heap.size + 1 + 1, 1, none⟩) gX2 _).setCell (p := ⟨w.heap.size + 1 + 1, 2, none⟩) gX2 _)⟩
  simp [results, Tryz.results43, go_sem, oX2]

set_option maxHeartbeats 4000000 in
theorem ref19_mul_no1 (f m ah al bh bl : Int) (t : Bool)
     (g1 : decide (3 < f) = true) (w : World) :
    Ca 12 #[.int .u8 f, .agg #[.int .u8 m, .bool t], U2 ah al, U2 bh bl] w (.agg #[.int .u64 0, .int .u64 0, .int .u8 0]) := by
  simp only [Ca, U2] at *
  go_enter Tryz.func12, Tryz.ntmps12
  go_wp2_with fail
  refine bodyPost_ret (v := .agg #[.int .u64 0, .int .u64 0, .int .u8 0]) ?_ rfl ⟨rfl, (bA (bA (bA (bA (Below.refl _ _) _) _) _) _)⟩
  simp [results, Tryz.results12, go_sem]

set_option maxHeartbeats 4000000 in
theorem ref19_mul_no2 (f m ah al bh bl : Int) (t : Bool)
     (g1 : decide (3 < f) = false) (g2 : decide (4 < m) = true) (w : World) :
    Ca 12 #[.int .u8 f, .agg #[.int .u8 m, .bool t], U2 ah al, U2 bh bl] w (.agg #[.int .u64 0, .int .u64 0, .int .u8 0]) := by
  simp only [Ca, U2] at *
  go_enter Tryz.func12, Tryz.ntmps12
  go_wp2_with fail
  refine bodyPost_ret (v := .agg #[.int .u64 0, .int .u64 0, .int .u8 0]) ?_ rfl ⟨rfl, (bA (bA (bA (bA (Below.refl _ _) _) _) _) _)⟩
  simp [results, Tryz.results12, go_sem]

set_option maxHeartbeats 4000000 in
theorem ref19_mul_yes (f m ah al bh bl ca cb ph pl pf rh rl fl xa xb em M N Q : Int) (t sa sb i pk va vb n1 : Bool)
    (h0 : Hid (∀ w, Ca 40 #[.int .u8 f, U2 ah al] w (.tuple #[.int .u8 ca, .bool sa])))
    (h1 : Hid (∀ w, Ca 40 #[.int .u8 f, U2 bh bl] w (.tuple #[.int .u8 cb, .bool sb])))
    (h2 : Hid (∀ w, Ca 17 #[.int .u8 ca, .int .u8 cb] w (.bool i))) (f3 : decide (3 < f) = false) (m4 : decide (4 < m) = false) (PK : Hid (∀ w, ∀ p T, HB w p T #[.int .u64 ah, .int .u64 al, .int .u64 bh, .int .u64 bl] → Ca 41 #[.int .u8 f, .bool i, .slice (some ⟨p, 0, none⟩) 2 2] w (.tuple #[.agg #[.int .u64 ph, .int .u64 pl, .int .u8 pf], .bool pk])))
    (HH : ((pk = true)) ∨ ((pk = false) ∧ ((ca == 3) = true) ∧ (fl = 0) ∧ Hid (∀ w, Ca 42 #[.int .u8 f, .bool ((!(sa == sb)))] w (U2 rh rl))) ∨ ((pk = false) ∧ ((ca == 3) = false) ∧ ((cb == 3) = true) ∧ (fl = 0) ∧ Hid (∀ w, Ca 42 #[.int .u8 f, .bool ((!(sa == sb)))] w (U2 rh rl))) ∨ ((pk = false) ∧ ((ca == 3) = false) ∧ ((cb == 3) = false) ∧ Hid (∀ w, Calls Tryz.prog 44 #[.int .u8 f, U2 ah al] w fun e' w' => ∃ s : Option Addr × Nat × Nat, e' = .returned (.agg #[.bool va, .slice s.1 s.2.1 s.2.2, .int .i64 xa]) ∧ IsNum w' (.slice s.1 s.2.1 s.2.2) M ∧ Below w.heap.size w w') ∧ Hid (∀ w, Calls Tryz.prog 44 #[.int .u8 f, U2 bh bl] w fun e' w' => ∃ s : Option Addr × Nat × Nat, e' = .returned (.agg #[.bool vb, .slice s.1 s.2.1 s.2.2, .int .i64 xb]) ∧ IsNum w' (.slice s.1 s.2.1 s.2.2) N ∧ Below w.heap.size w w') ∧ Hid (∀ w (sx sy : Option Addr × Nat × Nat), IsNum w (.slice sx.1 sx.2.1 sx.2.2) M → IsNum w (.slice sy.1 sy.2.1 sy.2.2) N → Calls Tryz.prog 43 #[.agg #[.bool va, .slice sx.1 sx.2.1 sx.2.2, .int .i64 xa], .agg #[.bool vb, .slice sy.1 sy.2.1 sy.2.2, .int .i64 xb]] w fun e' w' => ∃ q : Option Addr × Nat × Nat, e' = .returned (.agg #[.bool n1, .slice q.1 q.2.1 q.2.2, .int .i64 em]) ∧ IsNum w' (.slice q.1 q.2.1 q.2.2) Q ∧ Below w.heap.size w w') ∧ Hid (∀ w (q : Option Addr × Nat × Nat), IsNum w (.slice q.1 q.2.1 q.2.2) Q → Ca 45 #[.int .u8 f, .agg #[.int .u8 m, .bool t], .agg #[.bool ((!(sa == sb))), .slice q.1 q.2.1 q.2.2, .int .i64 em, .bool false]] w (.agg #[.int .u64 rh, .int .u64 rl, .int .u8 fl])))) (w : World) :
    Ca 12 #[.int .u8 f, .agg #[.int .u8 m, .bool t], U2 ah al, U2 bh bl] w (.agg #[.int .u64 (if pk then ph else rh), .int .u64 (if pk then pl else rl), .int .u8 (if pk then pf else fl)]) := by
  simp only [Ca, U2] at *
  go_enter Tryz.func12, Tryz.ntmps12
  go_wp2_with fail
  refine vM (h0.out _) fun w1 b1 => ?_
  have gX3 : w.heap.size ≤ w.heap.size + 1 + 1 + 1 := by omega
  have X0 := ((((HB.newAt (b := w.heap.size) (by simp) _ _).alloc _).alloc _).alloc _).later b1
  have X1 := (((HB.newAt (b := w.heap.size + 1) (by simp) _ _).alloc _).alloc _).later b1
  have X2 := ((HB.newAt (b := w.heap.size + 1 + 1) (by simp) _ _).alloc _).later b1
  have X3 := (HB.newAt (b := w.heap.size + 1 + 1 + 1) (by simp) _ _).later b1
  have oX2 := X2.o
  go_wp2_with fail
  refine vM (h1.out _) fun w2 b2 => ?_
  clear oX2
  go_wp2_with fail
  replace X1 := X1.later b2
  replace X2 := X2.later b2
  refine vR [] fun w3 kz3 S => ?_
  refine vT 0 S ?_
  refine vT 1 S ?_
  refine vT 2 S ?_
  refine vT 4 S ?_ (hy := by intro wq hb; have q := (hb.hb X1 (by simp)).o; go_simp; try (with_reducible rfl))
  refine vT 5 S ?_ (hy := by intro wq hb; have q := (hb.hb X2 (by simp)).o; go_simp; try (with_reducible rfl))
  refine vY3 (cC 3 S (h2.out _) fun w4 b4 => ?_) (cB (n := 2) 6 S fun w5 pp2_0 h X4 b5 => ?_) (cA 11 S fun w6 pp2_1 h X5 b6 => ?_)
  replace kz3 := bC kz3 b4
  clear S b4 w3
  revert kz3; revert w4
  refine ?s3_0; rotate_left
  have jX4 := (Nat.le_trans kz3.size h); replace kz3 := bC kz3 b5
  clear S b5 h w3
  revert kz3; revert jX4; revert X4; revert pp2_0; revert w5
  refine ?s3_1; rotate_left
  have jX5 := (Nat.le_trans kz3.size h); replace kz3 := bC kz3 b6
  clear S b6 h w3
  revert kz3; revert jX5; revert X5; revert pp2_1; revert w6
  refine ?s3_2; rotate_left
  intro w7 kz3
  have S := Off.ofB kz3
  refine vY2 (cB (n := 2) 6 S fun w8 pp2_0 h X4 b8 => ?_) (cA 11 S fun w9 pp2_1 h X5 b9 => ?_)
  have jX4 := (Nat.le_trans kz3.size h); replace kz3 := bC kz3 b8
  clear S b8 h w7
  revert kz3; revert jX4; revert X4; revert pp2_0; revert w8
  refine ?s3_3; rotate_left
  have jX5 := (Nat.le_trans kz3.size h); replace kz3 := bC kz3 b9
  clear S b9 h w7
  revert kz3; revert jX5; revert X5; revert pp2_1; revert w9
  refine ?s3_4; rotate_left
  intro w10 pp2_0 X4 jX4 kz3
  have S := Off.ofB kz3
  refine vY2 (cC 3 S (h2.out _) fun w11 b11 => ?s3_3 w11 pp2_0 (X4.later b11) jX4 (bC kz3 b11)) (cA 11 S fun w12 pp2_1 h X5 b12 => ?_)
  have ndX4_X5 : ¬ (pp2_0 = pp2_1) := (Nat.ne_of_lt (Nat.lt_of_lt_of_le X4.lt h)); have jX5 := (Nat.le_trans kz3.size h); replace X4 := (X4.later b12); replace kz3 := bC kz3 b12
  clear S b12 h w10
  revert kz3; revert ndX4_X5; revert jX5; revert jX4; revert X5; revert X4; revert pp2_1; revert pp2_0; revert w12
  refine ?s3_5; rotate_left
  intro w13 pp2_1 X5 jX5 kz3
  have S := Off.ofB kz3
  refine vY2 (cC 3 S (h2.out _) fun w14 b14 => ?s3_4 w14 pp2_1 (X5.later b14) jX5 (bC kz3 b14)) (cB (n := 2) 6 S fun w15 pp2_0 h X4 b15 => ?s3_5 w15 pp2_0 pp2_1 X4 (X5.later b15) (Nat.le_trans kz3.size h) jX5 (Nat.ne_of_gt (Nat.lt_of_lt_of_le X5.lt h)) (bC kz3 b15))
  intro w16 pp2_0 X4 jX4 kz3
  have S := Off.ofB kz3
  refine vY2 (cC 7 S (PK.out _ _ _ X4) fun w17 b17 => ?_) (cA 11 S fun w18 pp2_1 h X5 b18 => ?_)
  replace X4 := (X4.later b17); replace kz3 := bC kz3 b17
  refine vT 8 (Off.ofB kz3) ?_
  refine vT 9 (Off.ofB kz3) ?_
  refine vT 10 (Off.ofB kz3) ?_
  clear S b17 w16
  revert kz3; revert jX4; revert X4; revert pp2_0; revert w17
  refine ?s3_6; rotate_left
  have ndX4_X5 : ¬ (pp2_0 = pp2_1) := (Nat.ne_of_lt (Nat.lt_of_lt_of_le X4.lt h)); have jX5 := (Nat.le_trans kz3.size h); replace X4 := (X4.later b18); replace kz3 := bC kz3 b18
  clear S b18 h w16
  revert kz3; revert ndX4_X5; revert jX5; revert jX4; revert X5; revert X4; revert pp2_1; revert pp2_0; revert w18
  refine ?s3_7; rotate_left
  intro w19 pp2_1 X5 jX5 kz3
  have S := Off.ofB kz3
  refine vY1 (cB (n := 2) 6 S fun w20 pp2_0 h X4 b20 => ?s3_7 w20 pp2_0 pp2_1 X4 (X5.later b20) (Nat.le_trans kz3.size h) jX5 (Nat.ne_of_gt (Nat.lt_of_lt_of_le X5.lt h)) (bC kz3 b20))
  intro w21 pp2_0 pp2_1 X4 X5 jX4 jX5 ndX4_X5 kz3
  have S := Off.ofB kz3
  refine vY1 (cC 3 S (h2.out _) fun w22 b22 => ?s3_7 w22 pp2_0 pp2_1 (X4.later b22) (X5.later b22) jX4 jX5 ndX4_X5 (bC kz3 b22))
  intro w23 pp2_0 X4 jX4 kz3
  have S := Off.ofB kz3
  refine vY1 (cA 11 S fun w24 pp2_1 h X5 b24 => ?_)
  have ndX4_X5 : ¬ (pp2_0 = pp2_1) := (Nat.ne_of_lt (Nat.lt_of_lt_of_le X4.lt h)); have jX5 := (Nat.le_trans kz3.size h); replace X4 := (X4.later b24); replace kz3 := bC kz3 b24
  clear S b24 h w23
  revert kz3; revert ndX4_X5; revert jX5; revert jX4; revert X5; revert X4; revert pp2_1; revert pp2_0; revert w24
  refine ?s3_8; rotate_left
  intro w25 pp2_0 pp2_1 X4 X5 jX4 jX5 ndX4_X5 kz3
  have S := Off.ofB kz3
  refine vY1 (cC 7 S (PK.out _ _ _ X4) fun w26 b26 => ?_)
  replace X4 := (X4.later b26); replace X5 := (X5.later b26); replace kz3 := bC kz3 b26
  refine vT 8 (Off.ofB kz3) ?_
  refine vT 9 (Off.ofB kz3) ?_
  refine vT 10 (Off.ofB kz3) ?_
  clear S b26 w25
  revert kz3; revert ndX4_X5; revert jX5; revert jX4; revert X5; revert X4; revert pp2_1; revert pp2_0; revert w26
  exact ?s3_8
  intro w27 pp2_0 pp2_1 X4 X5 jX4 jX5 ndX4_X5 kz3
  have S := Off.ofB kz3
  refine vY1 (vO 12 fun K hK => ?_)
  have q := X5.o; have mX4 : ¬ (pp2_0 = pp2_1) := (by omega)
  go_simp
  refine vW (fun W => HB W pp2_0 28 #[.int .u64 ah, .int .u64 al, .int .u64 bh, .int .u64 bl] ∧ HB W pp2_1 31 #[.int .u64 ph, .int .u64 pl, .int .u8 pf] ∧ Below w2.heap.size w2 W) ⟨(((X4.other mX4 0 _).other mX4 1 _).other mX4 2 _), (((X5.set 0 _).set 1 _).set 2 _), (((kz3.setCell (p := ⟨pp2_1, 0, none⟩) jX5 _).setCell (p := ⟨pp2_1, 1, none⟩) jX5 _).setCell (p := ⟨pp2_1, 2, none⟩) jX5 _)⟩ fun w29 hz => ?_
  clear q mX4 X4 X5 S kz3 w27; obtain ⟨X4, X5, kz3⟩ := hz
  refine hK.out _ _ (Off.ofB kz3) fun S => ?_; clear hK K S; refine vP ?_
  refine vT 13 (Off.ofB kz3) ?_
  revert kz3; revert ndX4_X5; revert jX5; revert jX4; revert X5; revert X4; revert pp2_1; revert pp2_0; revert w29
  refine ?s3_9; rotate_left
  intro w30 pp2_0 pp2_1 X4 X5 jX4 jX5 ndX4_X5 kz3
  refine vD ?_
  replace X0 := X0.later b2
  have nX0_X5 : w.heap.size < pp2_1 := by have := X0.lt; omega
  have nX1_X5 : w.heap.size + 1 < pp2_1 := by have := X1.lt; omega
  have nX2_X5 : w.heap.size + 1 + 1 < pp2_1 := by have := X2.lt; omega
  replace X3 := X3.later b2
  have nX3_X5 : w.heap.size + 1 + 1 + 1 < pp2_1 := by have := X3.lt; omega
  have gX4 : w.heap.size ≤ pp2_0 := by have := (bC (bC (bA (bA (bA (bA (Below.refl _ _) _) _) _) _) b1) b2).size; omega
  have gX5 : w.heap.size ≤ pp2_1 := by have := (bC (bC (bA (bA (bA (bA (Below.refl _ _) _) _) _) _) b1) b2).size; omega
  rcases HH with rfl | ⟨rfl, ga, rfl, h4⟩ | ⟨rfl, ga, gb, rfl, h4⟩ | ⟨rfl, ga, gb, VA, VB, PR, RD⟩
  · have oX5 := X5.o
    replace X3 := X3.later kz3
    have oX3 := X3.o
    have mX5_X3 : ¬ (pp2_1 = w.heap.size + 1 + 1 + 1) := by omega
    have mX3_X5 : ¬ (w.heap.size + 1 + 1 + 1 = pp2_1) := by omega
    replace X0 := X0.later kz3
    replace X1 := X1.later kz3
    replace X2 := X2.later kz3
    go_wp2_with fail
    refine bodyPost_ret (v := .agg #[.int .u64 ph, .int .u64 pl, .int .u8 pf]) ?_ rfl ⟨rfl, ((((bC (bC (bC (bA (bA (bA (bA (Below.refl _ _) _) _) _) _) b1) b2) kz3).setCell (p := ⟨w.heap.size + 1 + 1 + 1, 0, none⟩) gX3 _).setCell (p := ⟨w.heap.size + 1 + 1 + 1, 1, none⟩) gX3 _).setCell (p := ⟨w.heap.size + 1 + 1 + 1, 2, none⟩) gX3 _)⟩
    simp [results, Tryz.results12, go_sem, oX3, mX5_X3, mX3_X5]
  · go_wp2_with fail
    refine vM (h4.out _) fun w31 b31 => ?_
    replace X3 := X3.later (bC kz3 b31)
    have oX3 := X3.o
    go_wp2_with fail
    refine bodyPost_ret (v := .agg #[.int .u64 rh, .int .u64 rl, .int .u8 0]) ?_ rfl ⟨rfl, ((((bC (bC (bC (bC (bA (bA (bA (bA (Below.refl _ _) _) _) _) _) b1) b2) kz3) b31).setCell (p := ⟨w.heap.size + 1 + 1 + 1, 0, none⟩) gX3 _).setCell (p := ⟨w.heap.size + 1 + 1 + 1, 1, none⟩) gX3 _).setCell (p := ⟨w.heap.size + 1 + 1 + 1, 2, none⟩) gX3 _)⟩
    simp [results, Tryz.results12, go_sem, oX3]
  · go_wp2_with fail
    refine vM (h4.out _) fun w31 b31 => ?_
    replace X3 := X3.later (bC kz3 b31)
    have oX3 := X3.o
    go_wp2_with fail
    refine bodyPost_ret (v := .agg #[.int .u64 rh, .int .u64 rl, .int .u8 0]) ?_ rfl ⟨rfl, ((((bC (bC (bC (bC (bA (bA (bA (bA (Below.refl _ _) _) _) _) _) b1) b2) kz3) b31).setCell (p := ⟨w.heap.size + 1 + 1 + 1, 0, none⟩) gX3 _).setCell (p := ⟨w.heap.size + 1 + 1 + 1, 1, none⟩) gX3 _).setCell (p := ⟨w.heap.size + 1 + 1 + 1, 2, none⟩) gX3 _)⟩
    simp [results, Tryz.results12, go_sem, oX3]
  · go_wp2_with fail
    replace X1 := X1.later kz3
    replace X2 := X2.later kz3
    refine vR [] fun w31 kz31 S => ?_
    refine vT 0 S ?_
    refine vT 1 S ?_ (hy := by intro wq hb; have q := (hb.hb X1 (by simp)).o; go_simp; try (with_reducible rfl))
    refine vT 3 S ?_
    refine vT 4 S ?_ (hy := by intro wq hb; have q := (hb.hb X2 (by simp)).o; go_simp; try (with_reducible rfl))
    refine vY2 (cE 2 S (VA.out _) fun v1 w32 nv1 b32 => ?_) (cA 7 S fun w33 pp30_0 h X6 b33 => ?_)
    replace kz31 := bC kz31 b32
    clear S b32 w31
    revert kz31; revert nv1; revert v1; revert w32
    refine ?s31d_0; rotate_left
    have jX6 := (Nat.le_trans kz31.size h); replace kz31 := bC kz31 b33
    clear S b33 h w31
    revert kz31; revert jX6; revert X6; revert pp30_0; revert w33
    refine ?s31d_1; rotate_left
    intro w34 v1 nv1 kz31
    have S := Off.ofB kz31
    refine vY2 (cE 5 S (VB.out _) fun v2 w35 nv2 b35 => ?_) (cA 7 S fun w36 pp30_0 h X6 b36 => ?_)
    replace nv1 := (nv1.later b35); replace kz31 := bC kz31 b35
    clear S b35 w34
    revert kz31; revert nv2; revert nv1; revert v2; revert v1; revert w35
    refine ?s31d_2; rotate_left
    have jX6 := (Nat.le_trans kz31.size h); replace nv1 := (nv1.later b36); replace kz31 := bC kz31 b36
    clear S b36 h w34
    revert kz31; revert jX6; revert nv1; revert X6; revert v1; revert pp30_0; revert w36
    refine ?s31d_3; rotate_left
    intro w37 pp30_0 X6 jX6 kz31
    have S := Off.ofB kz31
    refine vY1 (cE 2 S (VA.out _) fun v1 w38 nv1 b38 => ?s31d_3 w38 pp30_0 v1 (X6.later b38) nv1 jX6 (bC kz31 b38))
    intro w39 v1 v2 nv1 nv2 kz31
    have S := Off.ofB kz31
    refine vY2 (cE 6 S (PR.out _ _ _ nv1 nv2) fun sq w40 nsq b40 => ?_) (cA 7 S fun w41 pp30_0 h X6 b41 => ?_)
    replace kz31 := bC kz31 b40
    clear nv1 nv2 S b40 w39
    revert kz31; revert nsq; revert sq; revert v2; revert v1; revert w40
    refine ?s31d_4; rotate_left
    have jX6 := (Nat.le_trans kz31.size h); replace nv1 := (nv1.later b41); replace nv2 := (nv2.later b41); replace kz31 := bC kz31 b41
    clear S b41 h w39
    revert kz31; revert jX6; revert nv2; revert nv1; revert X6; revert v2; revert v1; revert pp30_0; revert w41
    refine ?s31d_5; rotate_left
    intro w42 pp30_0 v1 X6 nv1 jX6 kz31
    have S := Off.ofB kz31
    refine vY1 (cE 5 S (VB.out _) fun v2 w43 nv2 b43 => ?s31d_5 w43 pp30_0 v1 v2 (X6.later b43) (nv1.later b43) nv2 jX6 (bC kz31 b43))
    intro w44 v1 v2 sq nsq kz31
    have S := Off.ofB kz31
    refine vY1 (cA 7 S fun w45 pp30_0 h X6 b45 => ?_)
    have jX6 := (Nat.le_trans kz31.size h); replace nsq := (nsq.later b45); replace kz31 := bC kz31 b45
    clear S b45 h w44
    revert kz31; revert jX6; revert nsq; revert X6; revert sq; revert v2; revert v1; revert pp30_0; revert w45
    refine ?s31d_6; rotate_left
    intro w46 pp30_0 v1 v2 X6 nv1 nv2 jX6 kz31
    have S := Off.ofB kz31
    refine vY1 (cE 6 S (PR.out _ _ _ nv1 nv2) fun sq w47 nsq b47 => ?s31d_6 w47 pp30_0 v1 v2 sq (X6.later b47) nsq jX6 (bC kz31 b47))
    intro w48 pp30_0 v1 v2 sq X6 nsq jX6 kz31
    have S := Off.ofB kz31
    refine vY1 (vO 8 fun K hK => ?_)
    have q := X6.o
    go_simp
    refine vW (fun W => HB W pp30_0 71 #[.bool n1, .slice sq.1 sq.2.1 sq.2.2, .int .i64 em] ∧ IsNum W (.slice sq.1 sq.2.1 sq.2.2) Q ∧ Below w30.heap.size w30 W) ⟨(((X6.set 0 _).set 1 _).set 2 _), (((nsq.setHB X6 (by simp) 0 _).setHB (X6.set 0 _) (by simp) 1 _).setHB ((X6.set 0 _).set 1 _) (by simp) 2 _), (((kz31.setCell (p := ⟨pp30_0, 0, none⟩) jX6 _).setCell (p := ⟨pp30_0, 1, none⟩) jX6 _).setCell (p := ⟨pp30_0, 2, none⟩) jX6 _)⟩ fun w50 hz => ?_
    clear q X6 nsq S kz31 w48; obtain ⟨X6, nsq, kz31⟩ := hz
    refine hK.out _ _ (Off.ofB kz31) fun S => ?_; clear hK K S; refine vP ?_
    revert kz31; revert jX6; revert nsq; revert X6; revert sq; revert v2; revert v1; revert pp30_0; revert w50
    refine ?s31d_7; rotate_left
    intro w51 pp30_0 v1 v2 sq X6 nsq jX6 kz31
    refine vD ?_
    replace X0 := X0.later kz3
    have nX0_X6 : w.heap.size < pp30_0 := by have := X0.lt; omega
    replace X3 := X3.later kz3
    have nX3_X6 : w.heap.size + 1 + 1 + 1 < pp30_0 := by have := X3.lt; omega
    have gX6 : w.heap.size ≤ pp30_0 := by have := (bC (bC (bC (bA (bA (bA (bA (Below.refl _ _) _) _) _) _) b1) b2) kz3).size; omega
    replace X0 := X0.later kz31
    have oX0 := X0.o
    have oX6 := X6.o
    go_wp2_with fail
    refine vM (RD.out _ _ nsq) fun w52 b52 => ?_
    clear oX0 oX6
    clear nsq
    replace X3 := X3.later (bC kz31 b52)
    have oX3 := X3.o
    go_wp2_with fail
    refine bodyPost_ret (v := .agg #[.int .u64 rh, .int .u64 rl, .int .u8 fl]) ?_ rfl ⟨rfl, ((((bC (bC (bC (bC (bC (bA (bA (bA (bA (Below.refl _ _) _) _) _) _) b1) b2) kz3) kz31) b52).setCell (p := ⟨w.heap.size + 1 + 1 + 1, 0, none⟩) gX3 _).setCell (p := ⟨w.heap.size + 1 + 1 + 1, 1, none⟩) gX3 _).setCell (p := ⟨w.heap.size + 1 + 1 + 1, 2, none⟩) gX3 _)⟩
    simp [results, Tryz.results12, go_sem, oX3]



end Go.Proofs.YtjnohbpebdnngaaGreatDoor
