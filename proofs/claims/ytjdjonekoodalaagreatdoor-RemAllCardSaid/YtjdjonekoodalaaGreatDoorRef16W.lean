import Derived.Test.YtjdjonekoodalaaGreatDoorGdA
import Derived.Test.YtjdjonekoodalaaGreatDoorGoA
set_option maxHeartbeats 4000000
set_option linter.unusedVariables false
set_option linter.unusedSimpArgs false
set_option maxRecDepth 100000
namespace Go.Proofs.YtjdjonekoodalaaGreatDoor
open Go.RowKit
attribute [local go_sem ↓] Go.wp_at_zero Go.wp_at_succ
theorem setCell_twice (w : World) (b o : Nat) (v v2 : Value) : (w.setCell ⟨b, o, none⟩ v).setCell ⟨b, o, none⟩ v2 = w.setCell ⟨b, o, none⟩ v2 := by
  simp only [World.setCell]
  congr 1
  apply Array.ext_getElem?
  intro i
  simp only [Array.getElem?_modify]
  by_cases h : b = i
  · subst h
    simp only [if_true]
    cases hh : w.heap[b]? with
    | none => rfl
    | some o => cases o <;> simp
  · simp [h]
theorem ref16_no1 (ao : Option Addr) (kl cap : Nat) (f m E X : Int) (t ng more : Bool)
     (g1 : decide (3 < f) = true) (w : World) (nv : IsNum w (.slice ao kl cap) (X)) :
    Ca 38 #[.int .u8 f, .agg #[.int .u8 m, .bool t], .agg #[.bool ng, .slice ao kl cap, .int .i64 E, .bool more]] w (.agg #[.int .u64 0, .int .u64 0, .int .u8 0]) := by
  simp only [Ca] at *
  go_enter Tryz.func38, Tryz.ntmps38
  go_wp2_with fail
  refine bodyPost_ret (v := .agg #[.int .u64 0, .int .u64 0, .int .u8 0]) ?_ rfl ⟨rfl, (bA (bA (bA bR _) _) _)⟩
  simp [results, Tryz.results38, go_sem]
theorem ref16_no2 (ao : Option Addr) (kl cap : Nat) (f m E X : Int) (t ng more : Bool)
     (g1 : decide (3 < f) = false) (g2 : decide (4 < m) = true) (w : World) (nv : IsNum w (.slice ao kl cap) (X)) :
    Ca 38 #[.int .u8 f, .agg #[.int .u8 m, .bool t], .agg #[.bool ng, .slice ao kl cap, .int .i64 E, .bool more]] w (.agg #[.int .u64 0, .int .u64 0, .int .u8 0]) := by
  simp only [Ca] at *
  go_enter Tryz.func38, Tryz.ntmps38
  go_wp2_with fail
  refine bodyPost_ret (v := .agg #[.int .u64 0, .int .u64 0, .int .u8 0]) ?_ rfl ⟨rfl, (bA (bA (bA bR _) _) _)⟩
  simp [results, Tryz.results38, go_sem]
theorem ref16_zero (ao : Option Addr) (kl cap : Nat) (f m E X rh rl : Int) (t ng : Bool)
    (h0 : Hid (∀ w, Calls Tryz.prog 95 #[.int .u8 f, .bool ng, .int .i64 0, .slice none 0 0] w fun e w' => e = .returned (.agg #[.int .u64 rh, .int .u64 rl]) ∧ Below w.heap.size w w')) (g1 : decide (3 < f) = false) (g2 : decide (4 < m) = false) (hz : ((kl : Int) == 0) = true) (w : World) (nv : IsNum w (.slice ao kl cap) (X)) :
    Calls Tryz.prog 38 #[.int .u8 f, .agg #[.int .u8 m, .bool t], .agg #[.bool ng, .slice ao kl cap, .int .i64 E, .bool false]] w fun e w' => e = .returned (.agg #[.int .u64 rh, .int .u64 rl, .int .u8 0]) ∧ Below w.heap.size w w' := by
  go_enter Tryz.func38, Tryz.ntmps38
  go_wp2_with fail
  (with_reducible refine (h0.out _).mono ?_); rintro e w1 ⟨rfl, hb⟩
  have hz := bC (bA (bA (bA bR _) _) _) hb
  replace nv := nv.later hz
  have gX2 : w.heap.size ≤ w.heap.size + 1 + 1 := by omega
  have cX2_0 := cL hb (a := ⟨w.heap.size + 1 + 1, 0, none⟩) (v := .int .u64 0) (by go_simp)
  have cX2_1 := cL hb (a := ⟨w.heap.size + 1 + 1, 1, none⟩) (v := .int .u64 0) (by go_simp)
  have cX2_2 := cL hb (a := ⟨w.heap.size + 1 + 1, 2, none⟩) (v := .int .u8 0) (by go_simp)
  have sX2 : w.heap.size + 1 + 1 < w1.heap.size ∧ w.heap.size + 1 < w1.heap.size := by have h : w.heap.size + 1 + 1 < w1.heap.size := bL cX2_0; exact ⟨h, by omega⟩
  have fX2_0 := fL hb (a := ⟨w.heap.size + 1 + 1, 0, none⟩) (v := .int .u64 0) (by go_simp) (by go_simp)
  have fX2_1 := fL hb (a := ⟨w.heap.size + 1 + 1, 1, none⟩) (v := .int .u64 0) (by go_simp) (by go_simp)
  have fX2_2 := fL hb (a := ⟨w.heap.size + 1 + 1, 2, none⟩) (v := .int .u8 0) (by go_simp) (by go_simp)
  have kk := hz
  clear hb hz
  have KEY : Hid ((fun W : World => W.cell? ⟨w.heap.size + 1 + 1, 0, none⟩ = some (.int .u64 rh) ∧ W.cell? ⟨w.heap.size + 1 + 1, 1, none⟩ = some (.int .u64 rl) ∧ W.cell? ⟨w.heap.size + 1 + 1, 2, none⟩ = some (.int .u8 0) ∧ Below w.heap.size w W) (((w1.setCell ⟨w.heap.size + 1 + 1, 0, none⟩ (.int .u64 rh)).setCell ⟨w.heap.size + 1 + 1, 1, none⟩ (.int .u64 rl)).setCell ⟨w.heap.size + 1 + 1, 2, none⟩ (.int .u8 0))) := lH ⟨by go_simp, by go_simp, by go_simp, (((kk.setCell (p := ⟨w.heap.size + 1 + 1, 0, none⟩) gX2 _).setCell (p := ⟨w.heap.size + 1 + 1, 1, none⟩) gX2 _).setCell (p := ⟨w.heap.size + 1 + 1, 2, none⟩) gX2 _)⟩
  go_wp2_with fail
  obtain ⟨e0, e1, e2, kb⟩ := KEY.out
  clear KEY cX2_0 cX2_1 cX2_2 fX2_0 fX2_1 fX2_2
  refine bodyPost_ret (v := .agg #[.int .u64 rh, .int .u64 rl, .int .u8 0]) ?_ rfl ⟨rfl, kb⟩
  simp [results, Tryz.results38, go_sem, e0, e1, e2]
theorem ref16_over (ao : Option Addr) (kl cap : Nat) (f m E X p em ls L1 a1 e1 p1 a2 n1 Y1 r1 L2 a3 a4 ow rh rl fl : Int) (t ng more : Bool)
    (h0 : Hid (∀ w, Ca 72 #[.int .u8 f] w (.int .i64 p)))
    (h1 : Hid (∀ w, Ca 73 #[.int .u8 f] w (.int .i64 em)))
    (h6 : Hid (∀ w, Ca 98 #[.int .u8 f, .int .u8 m, .bool ng] w (.agg #[.int .u64 rh, .int .u64 rl, .int .u8 fl]))) (g1 : decide (3 < f) = false) (g2 : decide (4 < m) = false) (hz : ((kl : Int) == 0) = false) (w1 : IntKind.i64.wrap (1 - em) = ls) (w1x : wrap64 (1 - em) = ls) (w2 : IntKind.i64.wrap (L1 - 1) = a1) (w2x : wrap64 (L1 - 1) = a1) (w3 : IntKind.i64.wrap (a1 + E) = e1) (w3x : wrap64 (a1 + E) = e1) (w4 : IntKind.i64.wrap (p - 1) = p1) (w4x : wrap64 (p - 1) = p1) (w5 : IntKind.i64.wrap (e1 - p1) = a2) (w5x : wrap64 (e1 - p1) = a2) (w6 : IntKind.i64.wrap (a2 - E) = n1) (w6x : wrap64 (a2 - E) = n1) (w7 : IntKind.i64.wrap (L2 - 1) = a3) (w7x : wrap64 (L2 - 1) = a3) (w8 : IntKind.i64.wrap (a3 + e1) = a4) (w8x : wrap64 (a3 + e1) = a4) (w9 : IntKind.i64.wrap (a4 - p1) = ow) (w9x : wrap64 (a4 - p1) = ow) (LX : Hid (∀ w v, IsNum w v X → Ca 96 #[v] w (.int .i64 L1))) (C1 : Hid (∀ w v, IsNum w v X → Calls Tryz.prog 97 #[v, .int .i64 n1, .bool more, .int .u8 m, .bool ng] w fun e w' => ∃ u, e = .returned (.tuple #[u, .int .i64 r1]) ∧ IsNum w' u Y1 ∧ Below w.heap.size w w')) (LY : Hid (∀ w v, IsNum w v Y1 → Ca 96 #[v] w (.int .i64 L2))) (g3 : decide (em < ow) = true) (w : World) (nv : IsNum w (.slice ao kl cap) (X)) :
    Ca 38 #[.int .u8 f, .agg #[.int .u8 m, .bool t], .agg #[.bool ng, .slice ao kl cap, .int .i64 E, .bool more]] w (.agg #[.int .u64 rh, .int .u64 rl, .int .u8 fl]) := by
  simp only [Ca] at *
  go_enter Tryz.func38, Tryz.ntmps38
  go_wp2_with fail
  refine vM (h0.out _) fun w1 b1 => ?_
  have gX2 : w.heap.size ≤ w.heap.size + 1 + 1 := by omega
  have X0 := (((HB.newAt (b := w.heap.size) (by simp) _ _).alloc _).alloc _).later b1
  have X1 := ((HB.newAt (b := w.heap.size + 1) (by simp) _ _).alloc _).later b1
  have X2 := (HB.newAt (b := w.heap.size + 1 + 1) (by simp) _ _).later b1
  go_wp2_with fail
  refine vM (h1.out _) fun w2 b2 => ?_
  go_wp2_with fail
  replace X1 := X1.later b2
  refine vR [] fun w3 b3 S3 => ?_
  refine vT 0 S3 ?_
  refine vT 1 S3 ?_ (hy := by intro wq hb; have q := (hb.hb X1 (by simp)).o; go_simp; try (with_reducible rfl))
  refine vT 4 S3 ?_
  refine vT 5 S3 ?_ (hy := by intro wq hb; have q := (hb.hb X1 (by simp)).o; go_simp; try (with_reducible rfl))
  replace nv := nv.later (bC (bC (bC (bA (bA (bA bR _) _) _) b1) b2) b3)
  refine vY1 (vC 2 S3 (LX.out _ _ nv) (fun _ _ => Off.later) fun w4 b4 S4 => ?_)
  refine vT 3 S4 ?_
  refine vT 6 S4 ?_
  refine vT 7 S4 ?_
  refine vD ?_
  replace X1 := X1.later (bC b3 b4)
  have oX1 := X1.o
  replace X0 := X0.later (bC (bC b2 b3) b4)
  have oX0 := X0.o
  replace nv := nv.later b4
  go_wp2_with fail
  refine vE (C1.out _ _ nv) fun y1 w5 ny1 b5 => ?_
  clear oX1 oX0
  clear nv
  go_wp2_with fail
  refine vM (LY.out _ _ ny1) fun w6 b6 => ?_
  clear ny1
  go_wp2_with fail
  refine vM (h1.out _) fun w7 b7 => ?_
  replace X0 := X0.later (bC (bC b5 b6) b7)
  have oX0 := X0.o
  replace X1 := X1.later (bC (bC b5 b6) b7)
  have oX1 := X1.o
  go_wp2_with fail
  refine vM (h6.out _) fun w8 b8 => ?_
  clear oX0 oX1
  replace X2 := X2.later (bC (bC (bC (bC (bC (bC b2 b3) b4) b5) b6) b7) b8)
  have oX2 := X2.o
  go_wp2_with fail
  refine bodyPost_ret (v := .agg #[.int .u64 rh, .int .u64 rl, .int .u8 fl]) ?_ rfl ⟨rfl, ((((bC (bC (bC (bC (bC (bC (bC (bC (bA (bA (bA bR _) _) _) b1) b2) b3) b4) b5) b6) b7) b8).setCell (p := ⟨w.heap.size + 1 + 1, 0, none⟩) gX2 _).setCell (p := ⟨w.heap.size + 1 + 1, 1, none⟩) gX2 _).setCell (p := ⟨w.heap.size + 1 + 1, 2, none⟩) gX2 _)⟩
  simp [results, Tryz.results38, go_sem, oX2]
end Go.Proofs.YtjdjonekoodalaaGreatDoor
