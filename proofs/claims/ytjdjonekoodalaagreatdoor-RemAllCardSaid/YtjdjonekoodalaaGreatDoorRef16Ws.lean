import Derived.Test.YtjdjonekoodalaaGreatDoorRef16W
set_option maxHeartbeats 4000000
set_option linter.unusedVariables false
set_option linter.unusedSimpArgs false
set_option maxRecDepth 100000
namespace Go.Proofs.YtjdjonekoodalaaGreatDoor
open Go.RowKit
attribute [local go_sem ↓] Go.wp_at_zero Go.wp_at_succ
theorem ref16_sub_exact (ao : Option Addr) (kl cap : Nat) (f m E X p em ls L1 a1 e1 p1 a2 n1 Y1 r1 L2 a3 a4 ow mx un n2 Y2 r2 L3 rh rl : Int) (t ng more : Bool)
    (h0 : Hid (∀ w, Ca 72 #[.int .u8 f] w (.int .i64 p)))
    (h1 : Hid (∀ w, Ca 73 #[.int .u8 f] w (.int .i64 em))) (g1 : decide (3 < f) = false) (g2 : decide (4 < m) = false) (hz : ((kl : Int) == 0) = false) (w1 : IntKind.i64.wrap (1 - em) = ls) (w1x : wrap64 (1 - em) = ls) (w2 : IntKind.i64.wrap (L1 - 1) = a1) (w2x : wrap64 (L1 - 1) = a1) (w3 : IntKind.i64.wrap (a1 + E) = e1) (w3x : wrap64 (a1 + E) = e1) (w4 : IntKind.i64.wrap (p - 1) = p1) (w4x : wrap64 (p - 1) = p1) (w5 : IntKind.i64.wrap (e1 - p1) = a2) (w5x : wrap64 (e1 - p1) = a2) (w6 : IntKind.i64.wrap (a2 - E) = n1) (w6x : wrap64 (a2 - E) = n1) (w7 : IntKind.i64.wrap (L2 - 1) = a3) (w7x : wrap64 (L2 - 1) = a3) (w8 : IntKind.i64.wrap (a3 + e1) = a4) (w8x : wrap64 (a3 + e1) = a4) (w9 : IntKind.i64.wrap (a4 - p1) = ow) (w9x : wrap64 (a4 - p1) = ow) (q1 : (if ls > e1 then ls else e1) = mx) (q1' : (if e1 < ls then ls else e1) = mx) (v1 : IntKind.i64.wrap (mx - p1) = un) (v1x : wrap64 (mx - p1) = un) (v2 : IntKind.i64.wrap (un - E) = n2) (v2x : wrap64 (un - E) = n2) (LX : Hid (∀ w v, IsNum w v X → Ca 96 #[v] w (.int .i64 L1))) (C1 : Hid (∀ w v, IsNum w v X → Calls Tryz.prog 97 #[v, .int .i64 n1, .bool more, .int .u8 m, .bool ng] w fun e w' => ∃ u, e = .returned (.tuple #[u, .int .i64 r1]) ∧ IsNum w' u Y1 ∧ Below w.heap.size w w')) (LY : Hid (∀ w v, IsNum w v Y1 → Ca 96 #[v] w (.int .i64 L2))) (g3 : decide (em < ow) = false) (C2 : Hid (∀ w v, IsNum w v X → Calls Tryz.prog 97 #[v, .int .i64 n2, .bool more, .int .u8 m, .bool ng] w fun e w' => ∃ u, e = .returned (.tuple #[u, .int .i64 r2]) ∧ IsNum w' u Y2 ∧ Below w.heap.size w w')) (LZ : Hid (∀ w v, IsNum w v Y2 → Ca 96 #[v] w (.int .i64 L3))) (g4 : decide (L3 < p) = true) (MK : Hid (∀ w v, IsNum w v Y2 → Ca 95 #[.int .u8 f, .bool ng, .int .i64 0, v] w (U2 rh rl))) (g5 : (r2 == 0) = true) (w : World) (nv : IsNum w (.slice ao kl cap) (X)) :
    Ca 38 #[.int .u8 f, .agg #[.int .u8 m, .bool t], .agg #[.bool ng, .slice ao kl cap, .int .i64 E, .bool more]] w (.agg #[.int .u64 rh, .int .u64 rl, .int .u8 0]) := by
  simp only [Ca, U2] at *
  go_enter Tryz.func38, Tryz.ntmps38
  go_wp2_with fail
  refine vM (h0.out _) fun w1 b1 => ?_
  have gX2 : w.heap.size ≤ w.heap.size + 1 + 1 := by omega
  have X0 := (((HB.newAt (b := w.heap.size) (by simp) _ _).alloc _).alloc _).later b1
  have X1 := ((HB.newAt (b := w.heap.size + 1) (by simp) _ _).alloc _).later b1
  have X2 := (HB.newAt (b := w.heap.size + 1 + 1) (by simp) _ _).later b1
  go_wp2_with fail
  refine vM (h1.out _) fun w2 b2 => ?_
  go_wp2_with fail
  replace X1 := X1.later b2
  refine vR [] fun w3 b3 S3 => ?_
  refine vT 0 S3 ?_
  refine vT 1 S3 ?_ (hy := by intro wq hb; have q := (hb.hb X1 (by simp)).o; go_simp; try (with_reducible rfl))
  refine vT 4 S3 ?_
  refine vT 5 S3 ?_ (hy := by intro wq hb; have q := (hb.hb X1 (by simp)).o; go_simp; try (with_reducible rfl))
  replace nv := nv.later (bC (bC (bC (bA (bA (bA bR _) _) _) b1) b2) b3)
  refine vY1 (vC 2 S3 (LX.out _ _ nv) (fun _ _ => Off.later) fun w4 b4 S4 => ?_)
  refine vT 3 S4 ?_
  refine vT 6 S4 ?_
  refine vT 7 S4 ?_
  refine vD ?_
  replace X1 := X1.later (bC b3 b4)
  have oX1 := X1.o
  replace X0 := X0.later (bC (bC b2 b3) b4)
  have oX0 := X0.o
  replace nv := nv.later b4
  go_wp2_with fail
  refine vE (C1.out _ _ nv) fun y1 w5 ny1 b5 => ?_
  clear oX1 oX0
  go_wp2_with fail
  refine vM (LY.out _ _ ny1) fun w6 b6 => ?_
  clear ny1
  go_wp2_with fail
  refine vM (h1.out _) fun w7 b7 => ?_
  replace X1 := X1.later (bC (bC b5 b6) b7)
  have oX1 := X1.o
  replace X0 := X0.later (bC (bC b5 b6) b7)
  have oX0 := X0.o
  replace nv := nv.later (bC (bC b5 b6) b7)
  go_wp2_with fail
  refine vE (C2.out _ _ nv) fun y2 w8 ny2 b8 => ?_
  clear oX1 oX0
  clear nv
  go_wp2_with fail
  refine vM (LZ.out _ _ (ny2.later (bA bR _))) fun w9 b9 => ?_
  have gX3 : w.heap.size ≤ w8.heap.size := by have := (bC (bC (bC (bC (bC (bC (bC (bC (bA (bA (bA bR _) _) _) b1) b2) b3) b4) b5) b6) b7) b8).size; omega
  replace X1 := X1.later b8
  have nX1_X3 : w.heap.size + 1 < w8.heap.size := by have := X1.lt; omega
  replace X2 := X2.later (bC (bC (bC (bC (bC (bC b2 b3) b4) b5) b6) b7) b8)
  have nX2_X3 : w.heap.size + 1 + 1 < w8.heap.size := by have := X2.lt; omega
  have X3 := (HB.newAt (b := w8.heap.size) (by simp) _ _).later b9
  replace X1 := X1.later (bC (bA bR _) b9)
  have oX1 := X1.o
  replace ny2 := ny2.later (bC (bA bR _) b9)
  go_wp2_with fail
  refine vM (MK.out _ _ ny2) fun w10 b10 => ?_
  clear oX1
  clear ny2
  replace X3 := X3.later b10
  have oX3 := X3.o
  replace X2 := X2.later (bC (bC (bA bR _) b9) b10)
  have oX2 := X2.o
  have mX2_X3 : ¬ (w.heap.size + 1 + 1 = w8.heap.size) := by omega
  have mX3_X2 : ¬ (w8.heap.size = w.heap.size + 1 + 1) := by omega
  go_wp2_with fail
  refine bodyPost_ret (v := .agg #[.int .u64 rh, .int .u64 rl, .int .u8 0]) ?_ rfl ⟨rfl, ((((((bC (bC (bC (bC (bC (bC (bC (bC (bC (bC (bA (bA (bA bR _) _) _) b1) b2) b3) b4) b5) b6) b7) b8) (bC (bA bR _) b9)) b10).setCell (p := ⟨w8.heap.size, 0, none⟩) gX3 _).setCell (p := ⟨w8.heap.size, 1, none⟩) gX3 _).setCell (p := ⟨w.heap.size + 1 + 1, 0, none⟩) gX2 _).setCell (p := ⟨w.heap.size + 1 + 1, 1, none⟩) gX2 _).setCell (p := ⟨w.heap.size + 1 + 1, 2, none⟩) gX2 _)⟩
  simp [results, Tryz.results38, go_sem, oX2, mX2_X3, mX3_X2]
theorem ref16_sub_00 (ao : Option Addr) (kl cap : Nat) (f m E X p em ls L1 a1 e1 p1 a2 n1 Y1 r1 L2 a3 a4 ow mx un n2 Y2 r2 L3 rh rl : Int) (ng more : Bool)
    (h0 : Hid (∀ w, Ca 72 #[.int .u8 f] w (.int .i64 p)))
    (h1 : Hid (∀ w, Ca 73 #[.int .u8 f] w (.int .i64 em))) (g1 : decide (3 < f) = false) (g2 : decide (4 < m) = false) (hz : ((kl : Int) == 0) = false) (w1 : IntKind.i64.wrap (1 - em) = ls) (w1x : wrap64 (1 - em) = ls) (w2 : IntKind.i64.wrap (L1 - 1) = a1) (w2x : wrap64 (L1 - 1) = a1) (w3 : IntKind.i64.wrap (a1 + E) = e1) (w3x : wrap64 (a1 + E) = e1) (w4 : IntKind.i64.wrap (p - 1) = p1) (w4x : wrap64 (p - 1) = p1) (w5 : IntKind.i64.wrap (e1 - p1) = a2) (w5x : wrap64 (e1 - p1) = a2) (w6 : IntKind.i64.wrap (a2 - E) = n1) (w6x : wrap64 (a2 - E) = n1) (w7 : IntKind.i64.wrap (L2 - 1) = a3) (w7x : wrap64 (L2 - 1) = a3) (w8 : IntKind.i64.wrap (a3 + e1) = a4) (w8x : wrap64 (a3 + e1) = a4) (w9 : IntKind.i64.wrap (a4 - p1) = ow) (w9x : wrap64 (a4 - p1) = ow) (q1 : (if ls > e1 then ls else e1) = mx) (q1' : (if e1 < ls then ls else e1) = mx) (v1 : IntKind.i64.wrap (mx - p1) = un) (v1x : wrap64 (mx - p1) = un) (v2 : IntKind.i64.wrap (un - E) = n2) (v2x : wrap64 (un - E) = n2) (LX : Hid (∀ w v, IsNum w v X → Ca 96 #[v] w (.int .i64 L1))) (C1 : Hid (∀ w v, IsNum w v X → Calls Tryz.prog 97 #[v, .int .i64 n1, .bool more, .int .u8 m, .bool ng] w fun e w' => ∃ u, e = .returned (.tuple #[u, .int .i64 r1]) ∧ IsNum w' u Y1 ∧ Below w.heap.size w w')) (LY : Hid (∀ w v, IsNum w v Y1 → Ca 96 #[v] w (.int .i64 L2))) (g3 : decide (em < ow) = false) (C2 : Hid (∀ w v, IsNum w v X → Calls Tryz.prog 97 #[v, .int .i64 n2, .bool more, .int .u8 m, .bool ng] w fun e w' => ∃ u, e = .returned (.tuple #[u, .int .i64 r2]) ∧ IsNum w' u Y2 ∧ Below w.heap.size w w')) (LZ : Hid (∀ w v, IsNum w v Y2 → Ca 96 #[v] w (.int .i64 L3))) (g4 : decide (L3 < p) = true) (MK : Hid (∀ w v, IsNum w v Y2 → Ca 95 #[.int .u8 f, .bool ng, .int .i64 0, v] w (U2 rh rl))) (g5 : (r2 == 0) = false) (g6 : decide (e1 < ls) = false) (w : World) (nv : IsNum w (.slice ao kl cap) (X)) :
    Ca 38 #[.int .u8 f, .agg #[.int .u8 m, .bool false], .agg #[.bool ng, .slice ao kl cap, .int .i64 E, .bool more]] w (.agg #[.int .u64 rh, .int .u64 rl, .int .u8 16]) := by
  simp only [Ca, U2] at *
  go_enter Tryz.func38, Tryz.ntmps38
  go_wp2_with fail
  refine vM (h0.out _) fun w1 b1 => ?_
  have gX2 : w.heap.size ≤ w.heap.size + 1 + 1 := by omega
  have X0 := (((HB.newAt (b := w.heap.size) (by simp) _ _).alloc _).alloc _).later b1
  have X1 := ((HB.newAt (b := w.heap.size + 1) (by simp) _ _).alloc _).later b1
  have X2 := (HB.newAt (b := w.heap.size + 1 + 1) (by simp) _ _).later b1
  go_wp2_with fail
  refine vM (h1.out _) fun w2 b2 => ?_
  go_wp2_with fail
  replace X1 := X1.later b2
  refine vR [] fun w3 b3 S3 => ?_
  refine vT 0 S3 ?_
  refine vT 1 S3 ?_ (hy := by intro wq hb; have q := (hb.hb X1 (by simp)).o; go_simp; try (with_reducible rfl))
  refine vT 4 S3 ?_
  refine vT 5 S3 ?_ (hy := by intro wq hb; have q := (hb.hb X1 (by simp)).o; go_simp; try (with_reducible rfl))
  replace nv := nv.later (bC (bC (bC (bA (bA (bA bR _) _) _) b1) b2) b3)
  refine vY1 (vC 2 S3 (LX.out _ _ nv) (fun _ _ => Off.later) fun w4 b4 S4 => ?_)
  refine vT 3 S4 ?_
  refine vT 6 S4 ?_
  refine vT 7 S4 ?_
  refine vD ?_
  replace X1 := X1.later (bC b3 b4)
  have oX1 := X1.o
  replace X0 := X0.later (bC (bC b2 b3) b4)
  have oX0 := X0.o
  replace nv := nv.later b4
  go_wp2_with fail
  refine vE (C1.out _ _ nv) fun y1 w5 ny1 b5 => ?_
  clear oX1 oX0
  go_wp2_with fail
  refine vM (LY.out _ _ ny1) fun w6 b6 => ?_
  clear ny1
  go_wp2_with fail
  refine vM (h1.out _) fun w7 b7 => ?_
  replace X1 := X1.later (bC (bC b5 b6) b7)
  have oX1 := X1.o
  replace X0 := X0.later (bC (bC b5 b6) b7)
  have oX0 := X0.o
  replace nv := nv.later (bC (bC b5 b6) b7)
  go_wp2_with fail
  refine vE (C2.out _ _ nv) fun y2 w8 ny2 b8 => ?_
  clear oX1 oX0
  clear nv
  go_wp2_with fail
  refine vM (LZ.out _ _ (ny2.later (bA bR _))) fun w9 b9 => ?_
  have gX3 : w.heap.size ≤ w8.heap.size := by have := (bC (bC (bC (bC (bC (bC (bC (bC (bA (bA (bA bR _) _) _) b1) b2) b3) b4) b5) b6) b7) b8).size; omega
  replace X0 := X0.later b8
  have nX0_X3 : w.heap.size < w8.heap.size := by have := X0.lt; omega
  replace X1 := X1.later b8
  have nX1_X3 : w.heap.size + 1 < w8.heap.size := by have := X1.lt; omega
  replace X2 := X2.later (bC (bC (bC (bC (bC (bC b2 b3) b4) b5) b6) b7) b8)
  have nX2_X3 : w.heap.size + 1 + 1 < w8.heap.size := by have := X2.lt; omega
  have X3 := (HB.newAt (b := w8.heap.size) (by simp) _ _).later b9
  replace X1 := X1.later (bC (bA bR _) b9)
  have oX1 := X1.o
  replace ny2 := ny2.later (bC (bA bR _) b9)
  go_wp2_with fail
  refine vM (MK.out _ _ ny2) fun w10 b10 => ?_
  clear oX1
  clear ny2
  replace X3 := X3.later b10
  have oX3 := X3.o
  replace X0 := X0.later (bC (bC (bA bR _) b9) b10)
  have oX0 := X0.o
  replace X2 := X2.later (bC (bC (bA bR _) b9) b10)
  have oX2 := X2.o
  have mX0_X3 : ¬ (w.heap.size = w8.heap.size) := by omega
  have mX3_X0 : ¬ (w8.heap.size = w.heap.size) := by omega
  have mX2_X3 : ¬ (w.heap.size + 1 + 1 = w8.heap.size) := by omega
  have mX3_X2 : ¬ (w8.heap.size = w.heap.size + 1 + 1) := by omega
  have mX0_X2 : ¬ (w.heap.size = w.heap.size + 1 + 1) := by omega
  have mX2_X0 : ¬ (w.heap.size + 1 + 1 = w.heap.size) := by omega
  go_wp2_with fail
  refine bodyPost_ret (v := .agg #[.int .u64 rh, .int .u64 rl, .int .u8 16]) ?_ rfl ⟨rfl, (((((((bC (bC (bC (bC (bC (bC (bC (bC (bC (bC (bA (bA (bA bR _) _) _) b1) b2) b3) b4) b5) b6) b7) b8) (bC (bA bR _) b9)) b10).setCell (p := ⟨w8.heap.size, 0, none⟩) gX3 _).setCell (p := ⟨w8.heap.size, 1, none⟩) gX3 _).setCell (p := ⟨w8.heap.size, 2, none⟩) gX3 _).setCell (p := ⟨w.heap.size + 1 + 1, 0, none⟩) gX2 _).setCell (p := ⟨w.heap.size + 1 + 1, 1, none⟩) gX2 _).setCell (p := ⟨w.heap.size + 1 + 1, 2, none⟩) gX2 _)⟩
  simp [results, Tryz.results38, go_sem, oX2, mX0_X3, mX3_X0, mX2_X3, mX3_X2, mX0_X2, mX2_X0]
theorem ref16_sub_01 (ao : Option Addr) (kl cap : Nat) (f m E X p em ls L1 a1 e1 p1 a2 n1 Y1 r1 L2 a3 a4 ow mx un n2 Y2 r2 L3 rh rl : Int) (ng more : Bool)
    (h0 : Hid (∀ w, Ca 72 #[.int .u8 f] w (.int .i64 p)))
    (h1 : Hid (∀ w, Ca 73 #[.int .u8 f] w (.int .i64 em))) (g1 : decide (3 < f) = false) (g2 : decide (4 < m) = false) (hz : ((kl : Int) == 0) = false) (w1 : IntKind.i64.wrap (1 - em) = ls) (w1x : wrap64 (1 - em) = ls) (w2 : IntKind.i64.wrap (L1 - 1) = a1) (w2x : wrap64 (L1 - 1) = a1) (w3 : IntKind.i64.wrap (a1 + E) = e1) (w3x : wrap64 (a1 + E) = e1) (w4 : IntKind.i64.wrap (p - 1) = p1) (w4x : wrap64 (p - 1) = p1) (w5 : IntKind.i64.wrap (e1 - p1) = a2) (w5x : wrap64 (e1 - p1) = a2) (w6 : IntKind.i64.wrap (a2 - E) = n1) (w6x : wrap64 (a2 - E) = n1) (w7 : IntKind.i64.wrap (L2 - 1) = a3) (w7x : wrap64 (L2 - 1) = a3) (w8 : IntKind.i64.wrap (a3 + e1) = a4) (w8x : wrap64 (a3 + e1) = a4) (w9 : IntKind.i64.wrap (a4 - p1) = ow) (w9x : wrap64 (a4 - p1) = ow) (q1 : (if ls > e1 then ls else e1) = mx) (q1' : (if e1 < ls then ls else e1) = mx) (v1 : IntKind.i64.wrap (mx - p1) = un) (v1x : wrap64 (mx - p1) = un) (v2 : IntKind.i64.wrap (un - E) = n2) (v2x : wrap64 (un - E) = n2) (LX : Hid (∀ w v, IsNum w v X → Ca 96 #[v] w (.int .i64 L1))) (C1 : Hid (∀ w v, IsNum w v X → Calls Tryz.prog 97 #[v, .int .i64 n1, .bool more, .int .u8 m, .bool ng] w fun e w' => ∃ u, e = .returned (.tuple #[u, .int .i64 r1]) ∧ IsNum w' u Y1 ∧ Below w.heap.size w w')) (LY : Hid (∀ w v, IsNum w v Y1 → Ca 96 #[v] w (.int .i64 L2))) (g3 : decide (em < ow) = false) (C2 : Hid (∀ w v, IsNum w v X → Calls Tryz.prog 97 #[v, .int .i64 n2, .bool more, .int .u8 m, .bool ng] w fun e w' => ∃ u, e = .returned (.tuple #[u, .int .i64 r2]) ∧ IsNum w' u Y2 ∧ Below w.heap.size w w')) (LZ : Hid (∀ w v, IsNum w v Y2 → Ca 96 #[v] w (.int .i64 L3))) (g4 : decide (L3 < p) = true) (MK : Hid (∀ w v, IsNum w v Y2 → Ca 95 #[.int .u8 f, .bool ng, .int .i64 0, v] w (U2 rh rl))) (g5 : (r2 == 0) = false) (g6 : decide (e1 < ls) = true) (w : World) (nv : IsNum w (.slice ao kl cap) (X)) :
    Ca 38 #[.int .u8 f, .agg #[.int .u8 m, .bool false], .agg #[.bool ng, .slice ao kl cap, .int .i64 E, .bool more]] w (.agg #[.int .u64 rh, .int .u64 rl, .int .u8 24]) := by
  simp only [Ca, U2] at *
  have hss : ∀ (w : World) (b o : Nat) (v v2 : Value), (w.setCell ⟨b, o, none⟩ v).setCell ⟨b, o, none⟩ v2 = w.setCell ⟨b, o, none⟩ v2 := setCell_twice
  go_enter Tryz.func38, Tryz.ntmps38
  go_wp2_with fail
  refine vM (h0.out _) fun w1 b1 => ?_
  have gX2 : w.heap.size ≤ w.heap.size + 1 + 1 := by omega
  have X0 := (((HB.newAt (b := w.heap.size) (by simp) _ _).alloc _).alloc _).later b1
  have X1 := ((HB.newAt (b := w.heap.size + 1) (by simp) _ _).alloc _).later b1
  have X2 := (HB.newAt (b := w.heap.size + 1 + 1) (by simp) _ _).later b1
  go_wp2_with fail
  refine vM (h1.out _) fun w2 b2 => ?_
  go_wp2_with fail
  replace X1 := X1.later b2
  refine vR [] fun w3 b3 S3 => ?_
  refine vT 0 S3 ?_
  refine vT 1 S3 ?_ (hy := by intro wq hb; have q := (hb.hb X1 (by simp)).o; go_simp; try (with_reducible rfl))
  refine vT 4 S3 ?_
  refine vT 5 S3 ?_ (hy := by intro wq hb; have q := (hb.hb X1 (by simp)).o; go_simp; try (with_reducible rfl))
  replace nv := nv.later (bC (bC (bC (bA (bA (bA bR _) _) _) b1) b2) b3)
  refine vY1 (vC 2 S3 (LX.out _ _ nv) (fun _ _ => Off.later) fun w4 b4 S4 => ?_)
  refine vT 3 S4 ?_
  refine vT 6 S4 ?_
  refine vT 7 S4 ?_
  refine vD ?_
  replace X1 := X1.later (bC b3 b4)
  have oX1 := X1.o
  replace X0 := X0.later (bC (bC b2 b3) b4)
  have oX0 := X0.o
  replace nv := nv.later b4
  go_wp2_with fail
  refine vE (C1.out _ _ nv) fun y1 w5 ny1 b5 => ?_
  clear oX1 oX0
  go_wp2_with fail
  refine vM (LY.out _ _ ny1) fun w6 b6 => ?_
  clear ny1
  go_wp2_with fail
  refine vM (h1.out _) fun w7 b7 => ?_
  replace X1 := X1.later (bC (bC b5 b6) b7)
  have oX1 := X1.o
  replace X0 := X0.later (bC (bC b5 b6) b7)
  have oX0 := X0.o
  replace nv := nv.later (bC (bC b5 b6) b7)
  go_wp2_with fail
  refine vE (C2.out _ _ nv) fun y2 w8 ny2 b8 => ?_
  clear oX1 oX0
  clear nv
  go_wp2_with fail
  refine vM (LZ.out _ _ (ny2.later (bA bR _))) fun w9 b9 => ?_
  have gX3 : w.heap.size ≤ w8.heap.size := by have := (bC (bC (bC (bC (bC (bC (bC (bC (bA (bA (bA bR _) _) _) b1) b2) b3) b4) b5) b6) b7) b8).size; omega
  replace X0 := X0.later b8
  have nX0_X3 : w.heap.size < w8.heap.size := by have := X0.lt; omega
  replace X1 := X1.later b8
  have nX1_X3 : w.heap.size + 1 < w8.heap.size := by have := X1.lt; omega
  replace X2 := X2.later (bC (bC (bC (bC (bC (bC b2 b3) b4) b5) b6) b7) b8)
  have nX2_X3 : w.heap.size + 1 + 1 < w8.heap.size := by have := X2.lt; omega
  have X3 := (HB.newAt (b := w8.heap.size) (by simp) _ _).later b9
  replace X1 := X1.later (bC (bA bR _) b9)
  have oX1 := X1.o
  replace ny2 := ny2.later (bC (bA bR _) b9)
  go_wp2_with fail
  refine vM (MK.out _ _ ny2) fun w10 b10 => ?_
  clear oX1
  clear ny2
  replace X3 := X3.later b10
  have oX3 := X3.o
  replace X0 := X0.later (bC (bC (bA bR _) b9) b10)
  have oX0 := X0.o
  replace X2 := X2.later (bC (bC (bA bR _) b9) b10)
  have oX2 := X2.o
  have mX0_X3 : ¬ (w.heap.size = w8.heap.size) := by omega
  have mX3_X0 : ¬ (w8.heap.size = w.heap.size) := by omega
  have mX2_X3 : ¬ (w.heap.size + 1 + 1 = w8.heap.size) := by omega
  have mX3_X2 : ¬ (w8.heap.size = w.heap.size + 1 + 1) := by omega
  have mX0_X2 : ¬ (w.heap.size = w.heap.size + 1 + 1) := by omega
  have mX2_X0 : ¬ (w.heap.size + 1 + 1 = w.heap.size) := by omega
  go_wp2_with fail
  refine bodyPost_ret (v := .agg #[.int .u64 rh, .int .u64 rl, .int .u8 24]) ?_ rfl ⟨rfl, (((((((bC (bC (bC (bC (bC (bC (bC (bC (bC (bC (bA (bA (bA bR _) _) _) b1) b2) b3) b4) b5) b6) b7) b8) (bC (bA bR _) b9)) b10).setCell (p := ⟨w8.heap.size, 0, none⟩) gX3 _).setCell (p := ⟨w8.heap.size, 1, none⟩) gX3 _).setCell (p := ⟨w8.heap.size, 2, none⟩) gX3 _).setCell (p := ⟨w.heap.size + 1 + 1, 0, none⟩) gX2 _).setCell (p := ⟨w.heap.size + 1 + 1, 1, none⟩) gX2 _).setCell (p := ⟨w.heap.size + 1 + 1, 2, none⟩) gX2 _)⟩
  simp [results, Tryz.results38, go_sem, oX2, mX0_X3, mX3_X0, mX2_X3, mX3_X2, mX0_X2, mX2_X0]
theorem ref16_sub_10 (ao : Option Addr) (kl cap : Nat) (f m E X p em ls L1 a1 e1 p1 a2 n1 Y1 r1 L2 a3 a4 ow mx un n2 Y2 r2 L3 rh rl : Int) (lt ng more : Bool)
    (h0 : Hid (∀ w, Ca 72 #[.int .u8 f] w (.int .i64 p)))
    (h1 : Hid (∀ w, Ca 73 #[.int .u8 f] w (.int .i64 em))) (g1 : decide (3 < f) = false) (g2 : decide (4 < m) = false) (hz : ((kl : Int) == 0) = false) (w1 : IntKind.i64.wrap (1 - em) = ls) (w1x : wrap64 (1 - em) = ls) (w2 : IntKind.i64.wrap (L1 - 1) = a1) (w2x : wrap64 (L1 - 1) = a1) (w3 : IntKind.i64.wrap (a1 + E) = e1) (w3x : wrap64 (a1 + E) = e1) (w4 : IntKind.i64.wrap (p - 1) = p1) (w4x : wrap64 (p - 1) = p1) (w5 : IntKind.i64.wrap (e1 - p1) = a2) (w5x : wrap64 (e1 - p1) = a2) (w6 : IntKind.i64.wrap (a2 - E) = n1) (w6x : wrap64 (a2 - E) = n1) (w7 : IntKind.i64.wrap (L2 - 1) = a3) (w7x : wrap64 (L2 - 1) = a3) (w8 : IntKind.i64.wrap (a3 + e1) = a4) (w8x : wrap64 (a3 + e1) = a4) (w9 : IntKind.i64.wrap (a4 - p1) = ow) (w9x : wrap64 (a4 - p1) = ow) (q1 : (if ls > e1 then ls else e1) = mx) (q1' : (if e1 < ls then ls else e1) = mx) (v1 : IntKind.i64.wrap (mx - p1) = un) (v1x : wrap64 (mx - p1) = un) (v2 : IntKind.i64.wrap (un - E) = n2) (v2x : wrap64 (un - E) = n2) (LX : Hid (∀ w v, IsNum w v X → Ca 96 #[v] w (.int .i64 L1))) (C1 : Hid (∀ w v, IsNum w v X → Calls Tryz.prog 97 #[v, .int .i64 n1, .bool more, .int .u8 m, .bool ng] w fun e w' => ∃ u, e = .returned (.tuple #[u, .int .i64 r1]) ∧ IsNum w' u Y1 ∧ Below w.heap.size w w')) (LY : Hid (∀ w v, IsNum w v Y1 → Ca 96 #[v] w (.int .i64 L2))) (g3 : decide (em < ow) = false) (C2 : Hid (∀ w v, IsNum w v X → Calls Tryz.prog 97 #[v, .int .i64 n2, .bool more, .int .u8 m, .bool ng] w fun e w' => ∃ u, e = .returned (.tuple #[u, .int .i64 r2]) ∧ IsNum w' u Y2 ∧ Below w.heap.size w w')) (LZ : Hid (∀ w v, IsNum w v Y2 → Ca 96 #[v] w (.int .i64 L3))) (g4 : decide (L3 < p) = true) (MK : Hid (∀ w v, IsNum w v Y2 → Ca 95 #[.int .u8 f, .bool ng, .int .i64 0, v] w (U2 rh rl))) (g5 : (r2 == 0) = false) (g6 : decide (ow < ls) = false) (g7 : decide (e1 < ls) = lt) (w : World) (nv : IsNum w (.slice ao kl cap) (X)) :
    Ca 38 #[.int .u8 f, .agg #[.int .u8 m, .bool true], .agg #[.bool ng, .slice ao kl cap, .int .i64 E, .bool more]] w (.agg #[.int .u64 rh, .int .u64 rl, .int .u8 16]) := by
  simp only [Ca, U2] at *
  go_enter Tryz.func38, Tryz.ntmps38
  go_wp2_with fail
  refine vM (h0.out _) fun w1 b1 => ?_
  have gX2 : w.heap.size ≤ w.heap.size + 1 + 1 := by omega
  have X0 := (((HB.newAt (b := w.heap.size) (by simp) _ _).alloc _).alloc _).later b1
  have X1 := ((HB.newAt (b := w.heap.size + 1) (by simp) _ _).alloc _).later b1
  have X2 := (HB.newAt (b := w.heap.size + 1 + 1) (by simp) _ _).later b1
  go_wp2_with fail
  refine vM (h1.out _) fun w2 b2 => ?_
  go_wp2_with fail
  replace X1 := X1.later b2
  refine vR [] fun w3 b3 S3 => ?_
  refine vT 0 S3 ?_
  refine vT 1 S3 ?_ (hy := by intro wq hb; have q := (hb.hb X1 (by simp)).o; go_simp; try (with_reducible rfl))
  refine vT 4 S3 ?_
  refine vT 5 S3 ?_ (hy := by intro wq hb; have q := (hb.hb X1 (by simp)).o; go_simp; try (with_reducible rfl))
  replace nv := nv.later (bC (bC (bC (bA (bA (bA bR _) _) _) b1) b2) b3)
  refine vY1 (vC 2 S3 (LX.out _ _ nv) (fun _ _ => Off.later) fun w4 b4 S4 => ?_)
  refine vT 3 S4 ?_
  refine vT 6 S4 ?_
  refine vT 7 S4 ?_
  refine vD ?_
  replace X1 := X1.later (bC b3 b4)
  have oX1 := X1.o
  replace X0 := X0.later (bC (bC b2 b3) b4)
  have oX0 := X0.o
  replace nv := nv.later b4
  go_wp2_with fail
  refine vE (C1.out _ _ nv) fun y1 w5 ny1 b5 => ?_
  clear oX1 oX0
  go_wp2_with fail
  refine vM (LY.out _ _ ny1) fun w6 b6 => ?_
  clear ny1
  go_wp2_with fail
  refine vM (h1.out _) fun w7 b7 => ?_
  replace X1 := X1.later (bC (bC b5 b6) b7)
  have oX1 := X1.o
  replace X0 := X0.later (bC (bC b5 b6) b7)
  have oX0 := X0.o
  replace nv := nv.later (bC (bC b5 b6) b7)
  go_wp2_with fail
  refine vE (C2.out _ _ nv) fun y2 w8 ny2 b8 => ?_
  clear oX1 oX0
  clear nv
  go_wp2_with fail
  refine vM (LZ.out _ _ (ny2.later (bA bR _))) fun w9 b9 => ?_
  have gX3 : w.heap.size ≤ w8.heap.size := by have := (bC (bC (bC (bC (bC (bC (bC (bC (bA (bA (bA bR _) _) _) b1) b2) b3) b4) b5) b6) b7) b8).size; omega
  replace X0 := X0.later b8
  have nX0_X3 : w.heap.size < w8.heap.size := by have := X0.lt; omega
  replace X1 := X1.later b8
  have nX1_X3 : w.heap.size + 1 < w8.heap.size := by have := X1.lt; omega
  replace X2 := X2.later (bC (bC (bC (bC (bC (bC b2 b3) b4) b5) b6) b7) b8)
  have nX2_X3 : w.heap.size + 1 + 1 < w8.heap.size := by have := X2.lt; omega
  have X3 := (HB.newAt (b := w8.heap.size) (by simp) _ _).later b9
  replace X1 := X1.later (bC (bA bR _) b9)
  have oX1 := X1.o
  replace ny2 := ny2.later (bC (bA bR _) b9)
  go_wp2_with fail
  refine vM (MK.out _ _ ny2) fun w10 b10 => ?_
  clear oX1
  clear ny2
  replace X3 := X3.later b10
  have oX3 := X3.o
  replace X0 := X0.later (bC (bC (bA bR _) b9) b10)
  have oX0 := X0.o
  replace X2 := X2.later (bC (bC (bA bR _) b9) b10)
  have oX2 := X2.o
  have mX0_X3 : ¬ (w.heap.size = w8.heap.size) := by omega
  have mX3_X0 : ¬ (w8.heap.size = w.heap.size) := by omega
  have mX2_X3 : ¬ (w.heap.size + 1 + 1 = w8.heap.size) := by omega
  have mX3_X2 : ¬ (w8.heap.size = w.heap.size + 1 + 1) := by omega
  have mX0_X2 : ¬ (w.heap.size = w.heap.size + 1 + 1) := by omega
  have mX2_X0 : ¬ (w.heap.size + 1 + 1 = w.heap.size) := by omega
  go_wp2_with fail
  refine bodyPost_ret (v := .agg #[.int .u64 rh, .int .u64 rl, .int .u8 16]) ?_ rfl ⟨rfl, (((((((bC (bC (bC (bC (bC (bC (bC (bC (bC (bC (bA (bA (bA bR _) _) _) b1) b2) b3) b4) b5) b6) b7) b8) (bC (bA bR _) b9)) b10).setCell (p := ⟨w8.heap.size, 0, none⟩) gX3 _).setCell (p := ⟨w8.heap.size, 1, none⟩) gX3 _).setCell (p := ⟨w8.heap.size, 2, none⟩) gX3 _).setCell (p := ⟨w.heap.size + 1 + 1, 0, none⟩) gX2 _).setCell (p := ⟨w.heap.size + 1 + 1, 1, none⟩) gX2 _).setCell (p := ⟨w.heap.size + 1 + 1, 2, none⟩) gX2 _)⟩
  simp [results, Tryz.results38, go_sem, oX2, mX0_X3, mX3_X0, mX2_X3, mX3_X2, mX0_X2, mX2_X0]
theorem ref16_sub_11 (ao : Option Addr) (kl cap : Nat) (f m E X p em ls L1 a1 e1 p1 a2 n1 Y1 r1 L2 a3 a4 ow mx un n2 Y2 r2 L3 rh rl : Int) (lt ng more : Bool)
    (h0 : Hid (∀ w, Ca 72 #[.int .u8 f] w (.int .i64 p)))
    (h1 : Hid (∀ w, Ca 73 #[.int .u8 f] w (.int .i64 em))) (g1 : decide (3 < f) = false) (g2 : decide (4 < m) = false) (hz : ((kl : Int) == 0) = false) (w1 : IntKind.i64.wrap (1 - em) = ls) (w1x : wrap64 (1 - em) = ls) (w2 : IntKind.i64.wrap (L1 - 1) = a1) (w2x : wrap64 (L1 - 1) = a1) (w3 : IntKind.i64.wrap (a1 + E) = e1) (w3x : wrap64 (a1 + E) = e1) (w4 : IntKind.i64.wrap (p - 1) = p1) (w4x : wrap64 (p - 1) = p1) (w5 : IntKind.i64.wrap (e1 - p1) = a2) (w5x : wrap64 (e1 - p1) = a2) (w6 : IntKind.i64.wrap (a2 - E) = n1) (w6x : wrap64 (a2 - E) = n1) (w7 : IntKind.i64.wrap (L2 - 1) = a3) (w7x : wrap64 (L2 - 1) = a3) (w8 : IntKind.i64.wrap (a3 + e1) = a4) (w8x : wrap64 (a3 + e1) = a4) (w9 : IntKind.i64.wrap (a4 - p1) = ow) (w9x : wrap64 (a4 - p1) = ow) (q1 : (if ls > e1 then ls else e1) = mx) (q1' : (if e1 < ls then ls else e1) = mx) (v1 : IntKind.i64.wrap (mx - p1) = un) (v1x : wrap64 (mx - p1) = un) (v2 : IntKind.i64.wrap (un - E) = n2) (v2x : wrap64 (un - E) = n2) (LX : Hid (∀ w v, IsNum w v X → Ca 96 #[v] w (.int .i64 L1))) (C1 : Hid (∀ w v, IsNum w v X → Calls Tryz.prog 97 #[v, .int .i64 n1, .bool more, .int .u8 m, .bool ng] w fun e w' => ∃ u, e = .returned (.tuple #[u, .int .i64 r1]) ∧ IsNum w' u Y1 ∧ Below w.heap.size w w')) (LY : Hid (∀ w v, IsNum w v Y1 → Ca 96 #[v] w (.int .i64 L2))) (g3 : decide (em < ow) = false) (C2 : Hid (∀ w v, IsNum w v X → Calls Tryz.prog 97 #[v, .int .i64 n2, .bool more, .int .u8 m, .bool ng] w fun e w' => ∃ u, e = .returned (.tuple #[u, .int .i64 r2]) ∧ IsNum w' u Y2 ∧ Below w.heap.size w w')) (LZ : Hid (∀ w v, IsNum w v Y2 → Ca 96 #[v] w (.int .i64 L3))) (g4 : decide (L3 < p) = true) (MK : Hid (∀ w v, IsNum w v Y2 → Ca 95 #[.int .u8 f, .bool ng, .int .i64 0, v] w (U2 rh rl))) (g5 : (r2 == 0) = false) (g6 : decide (ow < ls) = true) (g7 : decide (e1 < ls) = lt) (w : World) (nv : IsNum w (.slice ao kl cap) (X)) :
    Ca 38 #[.int .u8 f, .agg #[.int .u8 m, .bool true], .agg #[.bool ng, .slice ao kl cap, .int .i64 E, .bool more]] w (.agg #[.int .u64 rh, .int .u64 rl, .int .u8 24]) := by
  simp only [Ca, U2] at *
  have hss : ∀ (w : World) (b o : Nat) (v v2 : Value), (w.setCell ⟨b, o, none⟩ v).setCell ⟨b, o, none⟩ v2 = w.setCell ⟨b, o, none⟩ v2 := setCell_twice
  go_enter Tryz.func38, Tryz.ntmps38
  go_wp2_with fail
  refine vM (h0.out _) fun w1 b1 => ?_
  have gX2 : w.heap.size ≤ w.heap.size + 1 + 1 := by omega
  have X0 := (((HB.newAt (b := w.heap.size) (by simp) _ _).alloc _).alloc _).later b1
  have X1 := ((HB.newAt (b := w.heap.size + 1) (by simp) _ _).alloc _).later b1
  have X2 := (HB.newAt (b := w.heap.size + 1 + 1) (by simp) _ _).later b1
  go_wp2_with fail
  refine vM (h1.out _) fun w2 b2 => ?_
  go_wp2_with fail
  replace X1 := X1.later b2
  refine vR [] fun w3 b3 S3 => ?_
  refine vT 0 S3 ?_
  refine vT 1 S3 ?_ (hy := by intro wq hb; have q := (hb.hb X1 (by simp)).o; go_simp; try (with_reducible rfl))
  refine vT 4 S3 ?_
  refine vT 5 S3 ?_ (hy := by intro wq hb; have q := (hb.hb X1 (by simp)).o; go_simp; try (with_reducible rfl))
  replace nv := nv.later (bC (bC (bC (bA (bA (bA bR _) _) _) b1) b2) b3)
  refine vY1 (vC 2 S3 (LX.out _ _ nv) (fun _ _ => Off.later) fun w4 b4 S4 => ?_)
  refine vT 3 S4 ?_
  refine vT 6 S4 ?_
  refine vT 7 S4 ?_
  refine vD ?_
  replace X1 := X1.later (bC b3 b4)
  have oX1 := X1.o
  replace X0 := X0.later (bC (bC b2 b3) b4)
  have oX0 := X0.o
  replace nv := nv.later b4
  go_wp2_with fail
  refine vE (C1.out _ _ nv) fun y1 w5 ny1 b5 => ?_
  clear oX1 oX0
  go_wp2_with fail
  refine vM (LY.out _ _ ny1) fun w6 b6 => ?_
  clear ny1
  go_wp2_with fail
  refine vM (h1.out _) fun w7 b7 => ?_
  replace X1 := X1.later (bC (bC b5 b6) b7)
  have oX1 := X1.o
  replace X0 := X0.later (bC (bC b5 b6) b7)
  have oX0 := X0.o
  replace nv := nv.later (bC (bC b5 b6) b7)
  go_wp2_with fail
  refine vE (C2.out _ _ nv) fun y2 w8 ny2 b8 => ?_
  clear oX1 oX0
  clear nv
  go_wp2_with fail
  refine vM (LZ.out _ _ (ny2.later (bA bR _))) fun w9 b9 => ?_
  have gX3 : w.heap.size ≤ w8.heap.size := by have := (bC (bC (bC (bC (bC (bC (bC (bC (bA (bA (bA bR _) _) _) b1) b2) b3) b4) b5) b6) b7) b8).size; omega
  replace X0 := X0.later b8
  have nX0_X3 : w.heap.size < w8.heap.size := by have := X0.lt; omega
  replace X1 := X1.later b8
  have nX1_X3 : w.heap.size + 1 < w8.heap.size := by have := X1.lt; omega
  replace X2 := X2.later (bC (bC (bC (bC (bC (bC b2 b3) b4) b5) b6) b7) b8)
  have nX2_X3 : w.heap.size + 1 + 1 < w8.heap.size := by have := X2.lt; omega
  have X3 := (HB.newAt (b := w8.heap.size) (by simp) _ _).later b9
  replace X1 := X1.later (bC (bA bR _) b9)
  have oX1 := X1.o
  replace ny2 := ny2.later (bC (bA bR _) b9)
  go_wp2_with fail
  refine vM (MK.out _ _ ny2) fun w10 b10 => ?_
  clear oX1
  clear ny2
  replace X3 := X3.later b10
  have oX3 := X3.o
  replace X0 := X0.later (bC (bC (bA bR _) b9) b10)
  have oX0 := X0.o
  replace X2 := X2.later (bC (bC (bA bR _) b9) b10)
  have oX2 := X2.o
  have mX0_X3 : ¬ (w.heap.size = w8.heap.size) := by omega
  have mX3_X0 : ¬ (w8.heap.size = w.heap.size) := by omega
  have mX2_X3 : ¬ (w.heap.size + 1 + 1 = w8.heap.size) := by omega
  have mX3_X2 : ¬ (w8.heap.size = w.heap.size + 1 + 1) := by omega
  have mX0_X2 : ¬ (w.heap.size = w.heap.size + 1 + 1) := by omega
  have mX2_X0 : ¬ (w.heap.size + 1 + 1 = w.heap.size) := by omega
  go_wp2_with fail
  refine bodyPost_ret (v := .agg #[.int .u64 rh, .int .u64 rl, .int .u8 24]) ?_ rfl ⟨rfl, (((((((bC (bC (bC (bC (bC (bC (bC (bC (bC (bC (bA (bA (bA bR _) _) _) b1) b2) b3) b4) b5) b6) b7) b8) (bC (bA bR _) b9)) b10).setCell (p := ⟨w8.heap.size, 0, none⟩) gX3 _).setCell (p := ⟨w8.heap.size, 1, none⟩) gX3 _).setCell (p := ⟨w8.heap.size, 2, none⟩) gX3 _).setCell (p := ⟨w.heap.size + 1 + 1, 0, none⟩) gX2 _).setCell (p := ⟨w.heap.size + 1 + 1, 1, none⟩) gX2 _).setCell (p := ⟨w.heap.size + 1 + 1, 2, none⟩) gX2 _)⟩
  simp [results, Tryz.results38, go_sem, oX2, mX0_X3, mX3_X0, mX2_X3, mX3_X2, mX0_X2, mX2_X0]
end Go.Proofs.YtjdjonekoodalaaGreatDoor
