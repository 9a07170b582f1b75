import Derived.Test.YtbighggnfkdncaaGreatDoorGdA
import Derived.Test.YtbighggnfkdncaaGreatDoorGoA
import Derived.Test.YtbighggnfkdncaaGreatDoorGqB
set_option maxHeartbeats 4000000
set_option linter.unusedVariables false
set_option linter.unusedSimpArgs false
set_option maxRecDepth 100000
namespace Go.Proofs.YtbighggnfkdncaaGreatDoor
open Go.RowKit
attribute [local go_sem ↓] Go.wp_at_zero Go.wp_at_succ
theorem widen22_nor (hh ll : Nat → Int) (d : Nat) (f g bh bl rh rl oh ol yh yl sh sl ph pl ex p0 p1 e0 e1 e2 e3 e4 e5 lf mf : Int) (ng : Bool)
    (h0 : Hid (∀ w, FTab w → Ca 24 #[.int .u8 f, U2 bh bl] w (.tuple #[.bool ng, .int .i64 ex, U2 ((hh 0)) ((ll 0))])))
    (h1 : Hid (∀ w, FTab w → Ca 25 #[.int .u8 g] w (.int .i64 e1)))
    (h2 : Hid (∀ w, FTab w → Ca 26 #[.int .u8 g, .bool false, .int .i64 e1, U2 0 0] w (U2 oh ol)))
    (h3 : Hid (∀ w, FTab w → Ca 25 #[.int .u8 f] w (.int .i64 e0)))
    (h5 : Hid (∀ w, FTab w → Ca 26 #[.int .u8 g, .bool false, .int .i64 e3, U2 ((hh d)) ((ll d))] w (U2 rh rl))) (wg : IntKind.u8.wrap (f + 1) = g) (DL : Hid (d ≤ 1000)) (wd : IntKind.i64.wrap (p1 - p0) = (d : Int)) (wdx : wrap64 (p1 - p0) = (d : Int)) (P1 : Hid (∀ w, FTab w → Ca 47 #[.int .u8 g] w (.int .i64 p1))) (P0 : Hid (∀ w, FTab w → Ca 47 #[.int .u8 f] w (.int .i64 p0))) (AD : Hid (∀ k : Nat, k < d → ∀ w, Ca 15 #[U2 (hh k) (ll k), U2 (hh k) (ll k)] w (.tuple #[U2 (hh (k + 1)) (ll (k + 1)), .bool false]))) (g1 : decide (0 < ex) = true) (w1 : IntKind.i64.wrap (ex - e0) = e2) (w1x : wrap64 (ex - e0) = e2) (w2 : IntKind.i64.wrap (e2 + e1) = e3) (w2x : wrap64 (e2 + e1) = e3) (w : World) (ft : FTab w) :
    Ca 17 #[.int .u8 f, U2 bh bl] w (U2 rh rl) := by
  simp only [Ca, U2] at *
  go_enter Tryz.func17, Tryz.ntmps17
  go_wp2_with fail
  refine vM (h0.out _ (ft.later (bA (bA bR _) _))) fun w1 b1 => ?_
  have gX1 : w.heap.size ≤ w.heap.size + 1 := by omega
  have X1 := (HB.newAt (b := w.heap.size + 1) (by simp) _ _).later b1
  go_wp2_with fail
  refine vM (h1.out _ (ft.later (bA (bC (bA (bA bR _) _) b1) _))) fun w2 b2 => ?_
  have nX1_X2 : w.heap.size + 1 < w1.heap.size := by have := X1.lt; omega
  have X2 := (HB.newAt (b := w1.heap.size) (by simp) _ _).later b2
  go_wp2_with fail
  refine vM (h2.out _ (ft.later (bC (bC (bA (bA bR _) _) b1) (bC (bA bR _) b2)))) fun w3 b3 => ?_
  replace X2 := X2.later b3
  have oX2 := X2.o
  go_wp2_with fail
  have gX4 : w.heap.size ≤ w3.heap.size + 1 := by have := (bC (bC (bC (bA (bA bR _) _) b1) (bC (bA bR _) b2)) b3).size; omega
  replace X1 := X1.later (bC (bC (bA bR _) b2) b3)
  have nX1_X4 : w.heap.size + 1 < w3.heap.size + 1 := by have := X1.lt; omega
  refine vF2 fun w4 b4 _ X4 => ?_
  clear oX2
  replace X1 := X1.later b4
  have mX1 : ¬ (w.heap.size + 1 = w3.heap.size + 1) := by omega
  go_loopw [10] (fun iv wi => ∃ k : Nat, k ≤ d ∧ iv = .int .i64 k ∧ HB wi (w3.heap.size + 1) 28 #[.int .u64 (hh k), .int .u64 (ll k)] ∧ HB wi (w.heap.size + 1) 28 #[.int .u64 0, .int .u64 0] ∧ Below w.heap.size w wi) (fun iv _ => d + 1 - (intOf iv).toNat)
  case atStart => exact ⟨0, Nat.zero_le _, rfl, X4, X1, (bC (bC (bC (bC (bA (bA bR _) _) b1) (bC (bA bR _) b2)) b3) b4)⟩
  case round =>
    clear X4 X1
    obtain ⟨k, hk, rfl, X4, X1, kl⟩ := hrel
    go_wp2_with fail
    refine vM (P1.out _ (ft.later kl)) fun wa ba => ?_
    go_wp2_with fail
    refine vM (P0.out _ (ft.later (bC kl ba))) fun wb bb => ?_
    have kz := bC ba bb
    replace kl := bC kl kz
    replace X4 := X4.later kz; replace X1 := X1.later kz
    clear ba bb kz
    by_cases hlt : k < d
    · have gk : decide ((k : Int) < (d : Int)) = true := decide_eq_true (by omega)
      have inc : IntKind.i64.wrap ((k : Int) + 1) = ((k + 1 : Nat) : Int) := by rw [IntKind.wrap_i64]; have := DL.out; omega
      have KL := lH hlt
      clear hlt hk
      have o9 := X4.o
      go_wp2_with fail
      clear o9 gk
      refine vM (AD.out k KL.out _) fun wc bc => ?_
      replace kl := bC kl bc
      replace X4 := X4.later bc; replace X1 := X1.later bc
      clear bc
      have o9 := X4.o
      have hX := (X4.set 0 (.int .u64 (hh (k + 1)))).set 1 (.int .u64 (ll (k + 1)))
      have hX1 := HB.other (HB.other X1 mX1 0 (.int .u64 (hh (k + 1)))) mX1 1 (.int .u64 (ll (k + 1)))
      have hk := (kl.setCell (p := ⟨w3.heap.size + 1, 0, none⟩) gX4 (.int .u64 (hh (k + 1)))).setCell (p := ⟨w3.heap.size + 1, 1, none⟩) gX4 (.int .u64 (ll (k + 1)))
      have KY := lH (And.intro hX (And.intro hX1 hk))
      clear hX hX1 hk X4 X1 kl
      go_wp2_with fail
      go_roundw
      case rel => exact ⟨k + 1, KL.out, by go_num, KY.out.1, KY.out.2.1, KY.out.2.2⟩
      case measure => have := KL.out; simp [intOf]; omega
    · obtain rfl : d = k := by omega
      have gk : decide ((d : Int) < (d : Int)) = false := decide_eq_false (by omega)
      clear hk hlt
      have kk := kl
      go_wp2_with fail
      refine vR [w.heap.size + 1] fun w5 b5 S5 => ?_
      refine vT 0 S5 ?_
      refine vT 1 S5 ?_
      refine vT 2 S5 ?_
      refine vT 3 S5 ?_
      refine vT 6 S5 ?_
      refine vT 7 S5 ?_
      refine vT 10 S5 ?_ (hy := by intro wq hb; have q := (hb.hb X4 (by simp <;> omega)).o; go_simp; try (with_reducible rfl))
      refine vY1 (vC 4 S5 (h3.out _ (ft.later (bC kk b5))) (fun _ _ => Off.later) fun w6 b6 S6 => ?_)
      refine vT 5 S6 ?_
      refine vY1 (vC 8 S6 (h1.out _ (ft.later (bC kk (bC b5 b6)))) (fun _ _ => Off.later) fun w7 b7 S7 => ?_)
      refine vT 9 S7 ?_
      refine vY1 (vC 11 S7 (h5.out _ (ft.later (bC kk (bC (bC b5 b6) b7)))) (fun _ _ => Off.later) fun w8 b8 S8 => ?_)
      refine vY1 (vO 12 fun K hK => ?_)
      replace X1 := X1.later (bC (bC (bC b5 b6) b7) b8)
      have oX1 := X1.o
      go_simp
      refine hK.out _ _ (Off.set (by simp) (Off.set (by simp) S8)) fun S9 => ?_
      clear hK K
      refine vP ?_
      refine vD ?_
      go_wp2_with fail
      refine bodyPost_ret (v := .agg #[.int .u64 rh, .int .u64 rl]) ?_ rfl ⟨rfl, (((bC kk (bC (bC (bC b5 b6) b7) b8)).setCell (p := ⟨w.heap.size + 1, 0, none⟩) gX1 _).setCell (p := ⟨w.heap.size + 1, 1, none⟩) gX1 _)⟩
      simp [results, Tryz.results17, go_sem, oX1]
theorem widen22_sub (hh ll : Nat → Int) (d : Nat) (f g bh bl rh rl oh ol yh yl sh sl ph pl ex p0 p1 e0 e1 e2 e3 e4 e5 lf mf : Int) (ng : Bool)
    (h0 : Hid (∀ w, FTab w → Ca 24 #[.int .u8 f, U2 bh bl] w (.tuple #[.bool ng, .int .i64 ex, U2 ((hh 0)) ((ll 0))])))
    (h1 : Hid (∀ w, FTab w → Ca 25 #[.int .u8 g] w (.int .i64 e1)))
    (h2 : Hid (∀ w, FTab w → Ca 26 #[.int .u8 g, .bool false, .int .i64 e1, U2 0 0] w (U2 oh ol)))
    (h4 : Hid (∀ w, FTab w → Ca 26 #[.int .u8 g, .bool false, .int .i64 e1, U2 ((hh d)) ((ll d))] w (U2 yh yl)))
    (h5 : Hid (∀ w, FTab w → Ca 48 #[.int .u8 g, .agg #[.int .u8 0, .bool false], U2 yh yl, U2 oh ol] w (.agg #[.int .u64 sh, .int .u64 sl, .int .u8 lf])))
    (h6 : Hid (∀ w, FTab w → Ca 25 #[.int .u8 f] w (.int .i64 e0)))
    (h8 : Hid (∀ w, FTab w → Ca 26 #[.int .u8 g, .bool false, .int .i64 e5, U2 0 0] w (U2 ph pl)))
    (h9 : Hid (∀ w, FTab w → Ca 19 #[.int .u8 g, .agg #[.int .u8 0, .bool false], U2 sh sl, U2 ph pl] w (.agg #[.int .u64 rh, .int .u64 rl, .int .u8 mf]))) (wg : IntKind.u8.wrap (f + 1) = g) (DL : Hid (d ≤ 1000)) (wd : IntKind.i64.wrap (p1 - p0) = (d : Int)) (wdx : wrap64 (p1 - p0) = (d : Int)) (P1 : Hid (∀ w, FTab w → Ca 47 #[.int .u8 g] w (.int .i64 p1))) (P0 : Hid (∀ w, FTab w → Ca 47 #[.int .u8 f] w (.int .i64 p0))) (AD : Hid (∀ k : Nat, k < d → ∀ w, Ca 15 #[U2 (hh k) (ll k), U2 (hh k) (ll k)] w (.tuple #[U2 (hh (k + 1)) (ll (k + 1)), .bool false]))) (g1 : decide (0 < ex) = false) (w1 : IntKind.i64.wrap (1 - e0) = e4) (w1x : wrap64 (1 - e0) = e4) (w2 : IntKind.i64.wrap (e4 + e1) = e5) (w2x : wrap64 (e4 + e1) = e5) (w : World) (ft : FTab w) :
    Ca 17 #[.int .u8 f, U2 bh bl] w (U2 rh rl) := by
  simp only [Ca, U2] at *
  go_enter Tryz.func17, Tryz.ntmps17
  go_wp2_with fail
  refine vM (h0.out _ (ft.later (bA (bA bR _) _))) fun w1 b1 => ?_
  have gX1 : w.heap.size ≤ w.heap.size + 1 := by omega
  have X1 := (HB.newAt (b := w.heap.size + 1) (by simp) _ _).later b1
  go_wp2_with fail
  refine vM (h1.out _ (ft.later (bA (bC (bA (bA bR _) _) b1) _))) fun w2 b2 => ?_
  have nX1_X2 : w.heap.size + 1 < w1.heap.size := by have := X1.lt; omega
  have X2 := (HB.newAt (b := w1.heap.size) (by simp) _ _).later b2
  go_wp2_with fail
  refine vM (h2.out _ (ft.later (bC (bC (bA (bA bR _) _) b1) (bC (bA bR _) b2)))) fun w3 b3 => ?_
  replace X2 := X2.later b3
  have oX2 := X2.o
  go_wp2_with fail
  replace X1 := X1.later (bC (bC (bA bR _) b2) b3)
  have nX1_X3 : w.heap.size + 1 < w3.heap.size := by have := X1.lt; omega
  have gX4 : w.heap.size ≤ w3.heap.size + 1 := by have := (bC (bC (bC (bA (bA bR _) _) b1) (bC (bA bR _) b2)) b3).size; omega
  have nX1_X4 : w.heap.size + 1 < w3.heap.size + 1 := by have := X1.lt; omega
  refine vF2 fun w4 b4 X3 X4 => ?_
  clear oX2
  replace X1 := X1.later b4
  have mX1 : ¬ (w.heap.size + 1 = w3.heap.size + 1) := by omega
  have mX3 : ¬ (w3.heap.size = w3.heap.size + 1) := by omega
  go_loopw [10] (fun iv wi => ∃ k : Nat, k ≤ d ∧ iv = .int .i64 k ∧ HB wi (w3.heap.size + 1) 28 #[.int .u64 (hh k), .int .u64 (ll k)] ∧ HB wi (w.heap.size + 1) 28 #[.int .u64 0, .int .u64 0] ∧ HB wi w3.heap.size 28 #[.int .u64 oh, .int .u64 ol] ∧ Below w.heap.size w wi) (fun iv _ => d + 1 - (intOf iv).toNat)
  case atStart => exact ⟨0, Nat.zero_le _, rfl, X4, X1, X3, (bC (bC (bC (bC (bA (bA bR _) _) b1) (bC (bA bR _) b2)) b3) b4)⟩
  case round =>
    clear X4 X1 X3
    obtain ⟨k, hk, rfl, X4, X1, X3, kl⟩ := hrel
    go_wp2_with fail
    refine vM (P1.out _ (ft.later kl)) fun wa ba => ?_
    go_wp2_with fail
    refine vM (P0.out _ (ft.later (bC kl ba))) fun wb bb => ?_
    have kz := bC ba bb
    replace kl := bC kl kz
    replace X4 := X4.later kz; replace X1 := X1.later kz; replace X3 := X3.later kz
    clear ba bb kz
    by_cases hlt : k < d
    · have gk : decide ((k : Int) < (d : Int)) = true := decide_eq_true (by omega)
      have inc : IntKind.i64.wrap ((k : Int) + 1) = ((k + 1 : Nat) : Int) := by rw [IntKind.wrap_i64]; have := DL.out; omega
      have KL := lH hlt
      clear hlt hk
      have o9 := X4.o
      go_wp2_with fail
      clear o9 gk
      refine vM (AD.out k KL.out _) fun wc bc => ?_
      replace kl := bC kl bc
      replace X4 := X4.later bc; replace X1 := X1.later bc; replace X3 := X3.later bc
      clear bc
      have o9 := X4.o
      have hX := (X4.set 0 (.int .u64 (hh (k + 1)))).set 1 (.int .u64 (ll (k + 1)))
      have hX1 := HB.other (HB.other X1 mX1 0 (.int .u64 (hh (k + 1)))) mX1 1 (.int .u64 (ll (k + 1)))
      have hX3 := HB.other (HB.other X3 mX3 0 (.int .u64 (hh (k + 1)))) mX3 1 (.int .u64 (ll (k + 1)))
      have hk := (kl.setCell (p := ⟨w3.heap.size + 1, 0, none⟩) gX4 (.int .u64 (hh (k + 1)))).setCell (p := ⟨w3.heap.size + 1, 1, none⟩) gX4 (.int .u64 (ll (k + 1)))
      have KY := lH (And.intro hX (And.intro hX1 (And.intro hX3 hk)))
      clear hX hX1 hX3 hk X4 X1 X3 kl
      go_wp2_with fail
      go_roundw
      case rel => exact ⟨k + 1, KL.out, by go_num, KY.out.1, KY.out.2.1, KY.out.2.2.1, KY.out.2.2.2⟩
      case measure => have := KL.out; simp [intOf]; omega
    · obtain rfl : d = k := by omega
      have gk : decide ((d : Int) < (d : Int)) = false := decide_eq_false (by omega)
      clear hk hlt
      have kk := kl
      go_wp2_with fail
      have nX1_X5 : w.heap.size + 1 < wb.heap.size := by have := X1.lt; omega
      have nX4_X5 : w3.heap.size + 1 < wb.heap.size := by have := X4.lt; omega
      refine vF1 fun w5 b5 X5 => ?_
      replace X3 := X3.later b5
      replace X4 := X4.later b5
      refine vR [] fun w6 kz6 S => ?_
      refine vT 0 S ?_
      refine vT 1 S ?_
      refine vT 2 S ?_ (hy := by intro wq hb; have q := (hb.hb X5 (by simp)).o; go_simp; try (with_reducible rfl))
      refine vT 3 S ?_
      refine vT 4 S ?_
      refine vT 5 S ?_
      refine vT 6 S ?_
      refine vT 8 S ?_ (hy := by intro wq hb; have q := (hb.hb X4 (by simp)).o; go_simp; try (with_reducible rfl))
      refine vT 10 S ?_ (hy := by intro wq hb; have q := (hb.hb X3 (by simp)).o; go_simp; try (with_reducible rfl))
      refine vY2 (cC 7 S (h1.out _ (ft.later (bC kk (bC b5 kz6)))) fun w7 b7 => ?_) (cA 12 S fun w8 pp5_0 h X6 b8 => ?_)
      replace kz6 := bC kz6 b7
      clear S b7 w6
      revert kz6; revert w7
      refine ?s6_0; rotate_left
      have jX6 := (lZ kz6.size h); replace kz6 := bC kz6 b8
      clear S b8 h w6
      revert kz6; revert jX6; revert X6; revert pp5_0; revert w8
      refine ?s6_1; rotate_left
      intro w9 kz6
      have S := Off.ofB kz6
      refine vY2 (cC 9 S (h4.out _ (ft.later (bC kk (bC b5 kz6)))) fun w10 b10 => ?_) (cA 12 S fun w11 pp5_0 h X6 b11 => ?_)
      replace kz6 := bC kz6 b10
      clear S b10 w9
      revert kz6; revert w10
      refine ?s6_2; rotate_left
      have jX6 := (lZ kz6.size h); replace kz6 := bC kz6 b11
      clear S b11 h w9
      revert kz6; revert jX6; revert X6; revert pp5_0; revert w11
      refine ?s6_3; rotate_left
      intro w12 pp5_0 X6 jX6 kz6
      have S := Off.ofB kz6
      refine vY1 (cC 7 S (h1.out _ (ft.later (bC kk (bC b5 kz6)))) fun w13 b13 => ?s6_3 w13 pp5_0 (X6.later b13) jX6 (bC kz6 b13))
      intro w14 kz6
      have S := Off.ofB kz6
      refine vY2 (cC 11 S (h5.out _ (ft.later (bC kk (bC b5 kz6)))) fun w15 b15 => ?_) (cA 12 S fun w16 pp5_0 h X6 b16 => ?_)
      replace kz6 := bC kz6 b15
      clear S b15 w14
      revert kz6; revert w15
      refine ?s6_4; rotate_left
      have jX6 := (lZ kz6.size h); replace kz6 := bC kz6 b16
      clear S b16 h w14
      revert kz6; revert jX6; revert X6; revert pp5_0; revert w16
      refine ?s6_5; rotate_left
      intro w17 pp5_0 X6 jX6 kz6
      have S := Off.ofB kz6
      refine vY1 (cC 9 S (h4.out _ (ft.later (bC kk (bC b5 kz6)))) fun w18 b18 => ?s6_5 w18 pp5_0 (X6.later b18) jX6 (bC kz6 b18))
      intro w19 kz6
      have S := Off.ofB kz6
      refine vY1 (cA 12 S fun w20 pp5_0 h X6 b20 => ?_)
      have jX6 := (lZ kz6.size h); replace kz6 := bC kz6 b20
      clear S b20 h w19
      revert kz6; revert jX6; revert X6; revert pp5_0; revert w20
      refine ?s6_6; rotate_left
      intro w21 pp5_0 X6 jX6 kz6
      have S := Off.ofB kz6
      refine vY1 (cC 11 S (h5.out _ (ft.later (bC kk (bC b5 kz6)))) fun w22 b22 => ?s6_6 w22 pp5_0 (X6.later b22) jX6 (bC kz6 b22))
      intro w23 pp5_0 X6 jX6 kz6
      have S := Off.ofB kz6
      refine vY1 (vO 13 fun K hK => ?_)
      have q := X6.o
      go_simp
      refine vW (fun W => HB W pp5_0 31 #[.int .u64 sh, .int .u64 sl, .int .u8 lf] ∧ Below w5.heap.size w5 W) ⟨(((X6.set 0 _).set 1 _).set 2 _), (((kz6.setCell (p := ⟨pp5_0, 0, none⟩) jX6 _).setCell (p := ⟨pp5_0, 1, none⟩) jX6 _).setCell (p := ⟨pp5_0, 2, none⟩) jX6 _)⟩ fun w25 hz => ?_
      clear q X6 S kz6 w23; obtain ⟨X6, kz6⟩ := hz
      refine hK.out _ _ (Off.ofB kz6) fun S => ?_; clear hK K S; refine vP ?_
      revert kz6; revert jX6; revert X6; revert pp5_0; revert w25
      refine ?s6_7; rotate_left
      intro w26 pp5_0 X6 jX6 kz6
      refine vD ?_
      replace X1 := X1.later b5
      have nX1_X6 : w.heap.size + 1 < pp5_0 := by have := X1.lt; omega
      have nX5_X6 : wb.heap.size < pp5_0 := by have := X5.lt; omega
      have gX6 : w.heap.size ≤ pp5_0 := by have := (bC kk b5).size; omega
      go_wp2_with fail
      have hfd1 : ∀ w : World, (Instr.field 31 (.agg #[.int .u64 rh, .int .u64 rl, .int .u8 mf]) 0).run Tryz.prog w = .ok (.agg #[.int .u64 rh, .int .u64 rl]) w := fun _ => by kernel_rfl
      replace X1 := X1.later kz6
      replace X5 := X5.later kz6
      refine vR [w.heap.size + 1] fun w27 b27 S27 => ?_
      refine vT 0 S27 ?_
      refine vT 1 S27 ?_
      refine vT 2 S27 ?_ (hy := by intro wq hb; have q := (hb.hb X5 (by simp <;> omega)).o; go_simp; try (with_reducible rfl))
      refine vT 3 S27 ?_
      refine vT 4 S27 ?_ (hy := by intro wq hb; have q := (hb.hb X6 (by simp <;> omega)).o; go_simp; try (with_reducible rfl))
      refine vT 5 S27 ?_
      refine vT 6 S27 ?_
      refine vT 7 S27 ?_
      refine vT 10 S27 ?_
      refine vT 11 S27 ?_
      refine vT 14 S27 ?_
      refine vY1 (vC 8 S27 (h6.out _ (ft.later (bC kk (bC (bC b5 kz6) b27)))) (fun _ _ => Off.later) fun w28 b28 S28 => ?_)
      refine vT 9 S28 ?_
      refine vY1 (vC 12 S28 (h1.out _ (ft.later (bC kk (bC (bC (bC b5 kz6) b27) b28)))) (fun _ _ => Off.later) fun w29 b29 S29 => ?_)
      refine vT 13 S29 ?_
      refine vY1 (vC 15 S29 (h8.out _ (ft.later (bC kk (bC (bC (bC (bC b5 kz6) b27) b28) b29)))) (fun _ _ => Off.later) fun w30 b30 S30 => ?_)
      refine vY1 (vC 16 S30 (h9.out _ (ft.later (bC kk (bC (bC (bC (bC (bC b5 kz6) b27) b28) b29) b30)))) (fun _ _ => Off.later) fun w31 b31 S31 => ?_)
      refine vT 17 S31 ?_
      refine vY1 (vO 18 fun K hK => ?_)
      replace X1 := X1.later (bC (bC (bC (bC b27 b28) b29) b30) b31)
      have oX1 := X1.o
      go_simp
      refine hK.out _ _ (Off.set (by simp) (Off.set (by simp) S31)) fun S32 => ?_
      clear hK K
      refine vP ?_
      refine vD ?_
      go_wp2_with fail
      refine bodyPost_ret (v := .agg #[.int .u64 rh, .int .u64 rl]) ?_ rfl ⟨rfl, (((bC kk (bC (bC (bC (bC (bC (bC b5 kz6) b27) b28) b29) b30) b31)).setCell (p := ⟨w.heap.size + 1, 0, none⟩) gX1 _).setCell (p := ⟨w.heap.size + 1, 1, none⟩) gX1 _)⟩
      simp [results, Tryz.results17, go_sem, oX1]
end Go.Proofs.YtbighggnfkdncaaGreatDoor
