import Derived.Test.YtjdjonekoodalaaGreatDoorGdA
set_option maxHeartbeats 4000000
set_option linter.unusedVariables false
set_option linter.unusedSimpArgs false
set_option maxRecDepth 100000
namespace Go.Proofs.YtjdjonekoodalaaGreatDoor
open Go.RowKit
attribute [local go_sem ↓] Go.wp_at_zero Go.wp_at_succ
theorem fld_least (f p em l : Int)
     (v1 : IntKind.i64.wrap (1 - em) = l) (w : World) :
    Ca 83 #[.agg #[.int .u8 f, .int .i64 p, .int .i64 em]] w (.int .i64 l) := by
  simp only [Ca] at *
  go_enter Tryz.func83, Tryz.ntmps83
  go_wp2_with fail
  go_ret
  exact ⟨rfl, (bA bR _)⟩
theorem fld_unit (f p em ex l m q u : Int)
    (h0 : Hid (∀ w, FTab w → Ca 83 #[.agg #[.int .u8 f, .int .i64 p, .int .i64 em]] w (.int .i64 l))) (x1 : (if l > ex then l else ex) = m) (x1' : (if ex < l then l else ex) = m) (v1 : IntKind.i64.wrap (p - 1) = q) (v2 : IntKind.i64.wrap (m - q) = u) (w : World) (ft : FTab w) :
    Ca 127 #[.agg #[.int .u8 f, .int .i64 p, .int .i64 em], .int .i64 ex] w (.int .i64 u) := by
  simp only [Ca] at *
  go_enter Tryz.func127, Tryz.ntmps127
  go_wp2_with fail
  refine vF1 fun w1 b1 X0 => ?_
  refine vR [] fun w2 b2 S2 => ?_
  refine vT 0 S2 ?_
  refine vT 1 S2 ?_ (hy := by intro wq hb; have q := (hb.hb X0 (by simp)).o; go_simp; try (with_reducible rfl))
  refine vT 4 S2 ?_
  refine vT 5 S2 ?_ (hy := by intro wq hb; have q := (hb.hb X0 (by simp)).o; go_simp; try (with_reducible rfl))
  refine vT 6 S2 ?_
  refine vY1 (vC 2 S2 (h0.out _ (ft.later (bC b1 b2))) (fun _ _ => Off.later) fun w3 b3 S3 => ?_)
  refine vT 3 S3 ?_
  refine vT 7 S3 ?_
  refine vT 8 S3 ?_
  refine vD ?_
  go_wp2_with fail
  go_ret
  exact ⟨rfl, (bC (bC b1 b2) b3)⟩
theorem fld_lead (f p em bh bl q xh xl rh rl : Int) (cy : Bool)
    (h0 : Hid (∀ w, Ca 62 #[U2 0 1, .int .i64 q] w (U2 xh xl)))
    (h1 : Hid (∀ w, Ca 128 #[U2 xh xl, U2 bh bl] w (.tuple #[U2 rh rl, .bool cy]))) (v1 : IntKind.i64.wrap (p - 1) = q) (w : World) :
    Ca 84 #[.agg #[.int .u8 f, .int .i64 p, .int .i64 em], U2 bh bl] w (U2 rh rl) := by
  simp only [Ca, U2] at *
  go_enter Tryz.func84, Tryz.ntmps84
  go_wp2_with fail
  have gX2 : w.heap.size ≤ w.heap.size + 1 + 1 := by omega
  refine vF3 fun w1 b1 X0 X1 X2 => ?_
  refine vR [] fun w2 b2 S2 => ?_
  refine vT 0 S2 ?_
  refine vT 1 S2 ?_
  refine vT 2 S2 ?_ (hy := by intro wq hb; have q := (hb.hb X0 (by simp)).o; go_simp; try (with_reducible rfl))
  refine vT 3 S2 ?_
  refine vT 5 S2 ?_ (hy := by intro wq hb; have q := (hb.hb X1 (by simp)).o; go_simp; try (with_reducible rfl))
  replace X2 := X2.later b2
  refine vY2 (vC 4 S2 (h0.out _) (fun _ _ => Off.later) fun w3 b3 S3 => ?_) (vA 10 S2 (fun _ _ => Off.later) fun w4 pp1_0 hX3 X3 b4 S4 => ?_)
  replace X2 := X2.later b3
  refine vY2 (vC 6 S3 (h1.out _) (fun _ _ => Off.later) fun w5 b5 S5 => ?_) (vA 10 S3 (fun _ _ => Off.later) fun w6 pp1_0 hX3 X3 b6 S6 => ?_)
  refine vT 7 S5 ?_
  refine vT 8 S5 ?_
  refine vT 9 S5 ?_
  replace X2 := X2.later b5
  refine vY1 (vA 10 S5 (fun _ _ => Off.later) fun w7 pp1_0 hX3 X3 b7 S7 => ?_)
  have nX2_X3 : w.heap.size + 1 + 1 < pp1_0 := by have := X2.lt; omega
  have gX3 : w.heap.size ≤ pp1_0 := by have := (bC (bC (bC b1 b2) b3) b5).size; omega
  have jX3 : w1.heap.size ≤ pp1_0 := by have := (bC (bC b2 b3) b5).size; omega
  refine vY1 (vO 11 fun K hK => ?_)
  replace X2 := X2.later b7
  have q := X3.o
  have mX2 : ¬ (w.heap.size + 1 + 1 = pp1_0) := by omega
  go_simp
  refine vW (fun W => HB W (w.heap.size + 1 + 1) 25 #[.int .u64 0, .int .u64 0] ∧ HB W pp1_0 25 #[.int .u64 rh, .int .u64 rl] ∧ Below w.heap.size w W ∧ Off [] w1 W) ⟨((X2.other mX2 0 _).other mX2 1 _), ((X3.set 0 _).set 1 _), (((bC (bC (bC (bC b1 b2) b3) b5) b7).setCell (p := ⟨pp1_0, 0, none⟩) gX3 _).setCell (p := ⟨pp1_0, 1, none⟩) gX3 _), (Off.far jX3 (Off.far jX3 S7))⟩ (fun w8 hz => ?_)
  clear q mX2 X2 X3
  obtain ⟨X2, X3, kk, hS⟩ := hz
  refine hK.out _ _ hS fun S8 => ?_
  clear hK K hS
  refine vP ?_
  refine vT 12 S8 ?_
  refine vD ?_
  clear S8 jX3 S7 b7 hX3 w7 S5 b5 w5 S3 b3 w3
  revert kk; revert nX2_X3; revert gX3; revert X3; revert X2; revert pp1_0; revert w8
  refine ?rest2
  rotate_left
  have nX2_X3 : w.heap.size + 1 + 1 < pp1_0 := by have := X2.lt; omega
  have gX3 : w.heap.size ≤ pp1_0 := by have := (bC (bC b1 b2) b3).size; omega
  have jX3 : w1.heap.size ≤ pp1_0 := by have := (bC b2 b3).size; omega
  refine vY1 (vC 6 S6 (h1.out _) (fun _ _ => Off.later) fun w9 b9 S9 => ?_)
  refine vT 7 S9 ?_
  refine vT 8 S9 ?_
  refine vT 9 S9 ?_
  refine vY1 (vO 11 fun K hK => ?_)
  replace X2 := X2.later (bC b6 b9)
  replace X3 := X3.later b9
  have q := X3.o
  have mX2 : ¬ (w.heap.size + 1 + 1 = pp1_0) := by omega
  go_simp
  refine vW (fun W => HB W (w.heap.size + 1 + 1) 25 #[.int .u64 0, .int .u64 0] ∧ HB W pp1_0 25 #[.int .u64 rh, .int .u64 rl] ∧ Below w.heap.size w W ∧ Off [] w1 W) ⟨((X2.other mX2 0 _).other mX2 1 _), ((X3.set 0 _).set 1 _), (((bC (bC (bC (bC b1 b2) b3) b6) b9).setCell (p := ⟨pp1_0, 0, none⟩) gX3 _).setCell (p := ⟨pp1_0, 1, none⟩) gX3 _), (Off.far jX3 (Off.far jX3 S9))⟩ (fun w10 hz => ?_)
  clear q mX2 X2 X3
  obtain ⟨X2, X3, kk, hS⟩ := hz
  refine hK.out _ _ hS fun S10 => ?_
  clear hK K hS
  refine vP ?_
  refine vT 12 S10 ?_
  refine vD ?_
  clear S10 S9 b9 w9 jX3 S6 b6 hX3 w6 S3 b3 w3
  revert kk; revert nX2_X3; revert gX3; revert X3; revert X2; revert pp1_0; revert w10
  exact ?rest2
  have nX2_X3 : w.heap.size + 1 + 1 < pp1_0 := by have := X2.lt; omega
  have gX3 : w.heap.size ≤ pp1_0 := by have := (bC b1 b2).size; omega
  have jX3 : w1.heap.size ≤ pp1_0 := by have := b2.size; omega
  refine vY1 (vC 4 S4 (h0.out _) (fun _ _ => Off.later) fun w11 b11 S11 => ?_)
  refine vY1 (vC 6 S11 (h1.out _) (fun _ _ => Off.later) fun w12 b12 S12 => ?_)
  refine vT 7 S12 ?_
  refine vT 8 S12 ?_
  refine vT 9 S12 ?_
  refine vY1 (vO 11 fun K hK => ?_)
  replace X2 := X2.later (bC (bC b4 b11) b12)
  replace X3 := X3.later (bC b11 b12)
  have q := X3.o
  have mX2 : ¬ (w.heap.size + 1 + 1 = pp1_0) := by omega
  go_simp
  refine vW (fun W => HB W (w.heap.size + 1 + 1) 25 #[.int .u64 0, .int .u64 0] ∧ HB W pp1_0 25 #[.int .u64 rh, .int .u64 rl] ∧ Below w.heap.size w W ∧ Off [] w1 W) ⟨((X2.other mX2 0 _).other mX2 1 _), ((X3.set 0 _).set 1 _), (((bC (bC (bC (bC b1 b2) b4) b11) b12).setCell (p := ⟨pp1_0, 0, none⟩) gX3 _).setCell (p := ⟨pp1_0, 1, none⟩) gX3 _), (Off.far jX3 (Off.far jX3 S12))⟩ (fun w13 hz => ?_)
  clear q mX2 X2 X3
  obtain ⟨X2, X3, kk, hS⟩ := hz
  refine hK.out _ _ hS fun S13 => ?_
  clear hK K hS
  refine vP ?_
  refine vT 12 S13 ?_
  refine vD ?_
  clear S13 S12 b12 w12 S11 b11 w11 jX3 S4 b4 hX3 w4
  revert kk; revert nX2_X3; revert gX3; revert X3; revert X2; revert pp1_0; revert w13
  exact ?rest2
  intro w14 pp1_0 X2 X3 gX3 nX2_X3 kk
  have oX3 := X3.o
  have oX2 := X2.o
  have mX3_X2 : ¬ (pp1_0 = w.heap.size + 1 + 1) := by omega
  have mX2_X3 : ¬ (w.heap.size + 1 + 1 = pp1_0) := by omega
  go_wp2_with fail
  refine bodyPost_ret (v := .agg #[.int .u64 rh, .int .u64 rl]) ?_ rfl ⟨rfl, ((kk.setCell (p := ⟨w.heap.size + 1 + 1, 0, none⟩) gX2 _).setCell (p := ⟨w.heap.size + 1 + 1, 1, none⟩) gX2 _)⟩
  simp [results, Tryz.results84, go_sem, oX2, mX3_X2, mX2_X3]
theorem fld_in (f c ex sh sl p em : Int) (ng : Bool)
    (h0 : Hid (∀ w, FTab w → Ca 105 #[.int .u8 f] w (.int .i64 p)))
    (h1 : Hid (∀ w, FTab w → Ca 26 #[.int .u8 f] w (.int .i64 em))) (w : World) (ft : FTab w) :
    Ca 81 #[.int .u8 f, .agg #[.bool ng, .int .u8 c, .int .i64 ex, .int .u64 sh, .int .u64 sl]] w (.agg #[.int .u8 f, .int .i64 p, .int .i64 em, .bool ng, .int .u8 c, .int .i64 ex, .int .u64 sh, .int .u64 sl]) := by
  simp only [Ca] at *
  go_enter Tryz.func81, Tryz.ntmps81
  go_wp2_with fail
  have gX1 : w.heap.size ≤ w.heap.size + 1 := by omega
  refine vF2 fun w1 b1 X0 X1 => ?_
  refine vR [w.heap.size + 1] fun w2 b2 S2 => ?_
  refine vT 0 S2 ?_
  refine vT 1 S2 ?_
  refine vT 3 S2 ?_
  refine vT 6 S2 ?_ (hy := by intro wq hb; have q := (hb.hb X0 (by simp <;> omega)).o; go_simp; try (with_reducible rfl))
  refine vY1 (vC 2 S2 (h0.out _ (ft.later (bC b1 b2))) (fun _ _ => Off.later) fun w3 b3 S3 => ?_)
  refine vY1 (vC 4 S3 (h1.out _ (ft.later (bC (bC b1 b2) b3))) (fun _ _ => Off.later) fun w4 b4 S4 => ?_)
  refine vT 5 S4 ?_
  refine vT 7 S4 ?_
  refine vY1 (vO 8 fun K hK => ?_)
  replace X1 := X1.later (bC (bC b2 b3) b4)
  have oX1 := X1.o
  go_simp
  refine hK.out _ _ (Off.set (by simp) (Off.set (by simp) (Off.set (by simp) (Off.set (by simp) (Off.set (by simp) (Off.set (by simp) (Off.set (by simp) (Off.set (by simp) S4)))))))) fun S5 => ?_
  clear hK K
  refine vP ?_
  refine vD ?_
  go_wp2_with fail
  refine bodyPost_ret (v := .agg #[.int .u8 f, .int .i64 p, .int .i64 em, .bool ng, .int .u8 c, .int .i64 ex, .int .u64 sh, .int .u64 sl]) ?_ rfl ⟨rfl, (((((((((bC (bC (bC b1 b2) b3) b4).setCell (p := ⟨w.heap.size + 1, 0, none⟩) gX1 _).setCell (p := ⟨w.heap.size + 1, 1, none⟩) gX1 _).setCell (p := ⟨w.heap.size + 1, 2, none⟩) gX1 _).setCell (p := ⟨w.heap.size + 1, 3, none⟩) gX1 _).setCell (p := ⟨w.heap.size + 1, 4, none⟩) gX1 _).setCell (p := ⟨w.heap.size + 1, 5, none⟩) gX1 _).setCell (p := ⟨w.heap.size + 1, 6, none⟩) gX1 _).setCell (p := ⟨w.heap.size + 1, 7, none⟩) gX1 _)⟩
  simp [results, Tryz.results81, go_sem, oX1]
theorem fld_un (f p em c x0 s0h s0l ex mh ml sh sl by0 u v x : Int) (ng : Bool)
    (h0 : Hid (∀ w, Calls Tryz.prog 126 #[.agg #[.int .u64 mh, .int .u64 ml]] w fun e w' => e = .returned (.tuple #[.agg #[.int .u64 sh, .int .u64 sl], .int .i64 by0]) ∧ Below w.heap.size w w'))
    (h1 : Hid (∀ w, FTab w → Calls Tryz.prog 127 #[.agg #[.int .u8 f, .int .i64 p, .int .i64 em], .int .i64 ex] w fun e w' => e = .returned (.int .i64 u) ∧ Below w.heap.size w w')) (v1 : IntKind.i64.wrap (u + 127) = v) (v1x : wrap64 (u + 127) = v) (v2 : IntKind.i64.wrap (v - by0) = x) (w : World) (ft : FTab w) :
    Calls Tryz.prog 82 #[.agg #[.int .u8 f, .int .i64 p, .int .i64 em, .bool ng, .int .u8 c, .int .i64 x0, .int .u64 s0h, .int .u64 s0l], .int .i64 ex, .agg #[.int .u64 mh, .int .u64 ml]] w fun e w' => e = .returned (.agg #[.bool ng, .int .u8 c, .int .i64 x, .int .u64 sh, .int .u64 sl]) ∧ Below w.heap.size w w' := by
  go_enter Tryz.func82, Tryz.ntmps82
  go_wp2_with fail
  (with_reducible refine (h0.out _).mono ?_); rintro e w1 ⟨rfl, hb⟩
  have hz := bC (bA (bA (bA bR _) _) _) hb
  have gX0 : w.heap.size ≤ w.heap.size := by omega
  have gX2 : w.heap.size ≤ w.heap.size + 1 + 1 := by omega
  have cX0_0 := cL hb (a := ⟨w.heap.size, 0, none⟩) (v := .int .u8 f) (by go_simp)
  have cX0_1 := cL hb (a := ⟨w.heap.size, 1, none⟩) (v := .int .i64 p) (by go_simp)
  have cX0_2 := cL hb (a := ⟨w.heap.size, 2, none⟩) (v := .int .i64 em) (by go_simp)
  have cX0_3 := cL hb (a := ⟨w.heap.size, 3, none⟩) (v := .bool ng) (by go_simp)
  have cX0_4 := cL hb (a := ⟨w.heap.size, 4, none⟩) (v := .int .u8 c) (by go_simp)
  have cX0_5 := cL hb (a := ⟨w.heap.size, 5, none⟩) (v := .int .i64 x0) (by go_simp)
  have cX0_6 := cL hb (a := ⟨w.heap.size, 6, none⟩) (v := .int .u64 s0h) (by go_simp)
  have cX0_7 := cL hb (a := ⟨w.heap.size, 7, none⟩) (v := .int .u64 s0l) (by go_simp)
  have sX0 : w.heap.size < w1.heap.size := bL cX0_0
  have fX0_0 := fL hb (a := ⟨w.heap.size, 0, none⟩) (v := .int .u8 f) (by go_simp) (by go_simp)
  have fX0_1 := fL hb (a := ⟨w.heap.size, 1, none⟩) (v := .int .i64 p) (by go_simp) (by go_simp)
  have fX0_2 := fL hb (a := ⟨w.heap.size, 2, none⟩) (v := .int .i64 em) (by go_simp) (by go_simp)
  have fX0_3 := fL hb (a := ⟨w.heap.size, 3, none⟩) (v := .bool ng) (by go_simp) (by go_simp)
  have fX0_4 := fL hb (a := ⟨w.heap.size, 4, none⟩) (v := .int .u8 c) (by go_simp) (by go_simp)
  have fX0_5 := fL hb (a := ⟨w.heap.size, 5, none⟩) (v := .int .i64 x0) (by go_simp) (by go_simp)
  have fX0_6 := fL hb (a := ⟨w.heap.size, 6, none⟩) (v := .int .u64 s0h) (by go_simp) (by go_simp)
  have fX0_7 := fL hb (a := ⟨w.heap.size, 7, none⟩) (v := .int .u64 s0l) (by go_simp) (by go_simp)
  have cX2_0 := cL hb (a := ⟨w.heap.size + 1 + 1, 0, none⟩) (v := .bool false) (by go_simp)
  have cX2_1 := cL hb (a := ⟨w.heap.size + 1 + 1, 1, none⟩) (v := .int .u8 0) (by go_simp)
  have cX2_2 := cL hb (a := ⟨w.heap.size + 1 + 1, 2, none⟩) (v := .int .i64 0) (by go_simp)
  have cX2_3 := cL hb (a := ⟨w.heap.size + 1 + 1, 3, none⟩) (v := .int .u64 0) (by go_simp)
  have cX2_4 := cL hb (a := ⟨w.heap.size + 1 + 1, 4, none⟩) (v := .int .u64 0) (by go_simp)
  have sX2 : w.heap.size + 1 + 1 < w1.heap.size ∧ w.heap.size + 1 < w1.heap.size := by have h : w.heap.size + 1 + 1 < w1.heap.size := bL cX2_0; exact ⟨h, by omega⟩
  have fX2_0 := fL hb (a := ⟨w.heap.size + 1 + 1, 0, none⟩) (v := .bool false) (by go_simp) (by go_simp)
  have fX2_1 := fL hb (a := ⟨w.heap.size + 1 + 1, 1, none⟩) (v := .int .u8 0) (by go_simp) (by go_simp)
  have fX2_2 := fL hb (a := ⟨w.heap.size + 1 + 1, 2, none⟩) (v := .int .i64 0) (by go_simp) (by go_simp)
  have fX2_3 := fL hb (a := ⟨w.heap.size + 1 + 1, 3, none⟩) (v := .int .u64 0) (by go_simp) (by go_simp)
  have fX2_4 := fL hb (a := ⟨w.heap.size + 1 + 1, 4, none⟩) (v := .int .u64 0) (by go_simp) (by go_simp)
  have kk := hz
  clear hb hz
  go_wp2_with fail
  have nX0_X3 : w.heap.size < w1.heap.size := by omega
  have nX2_X3 : w.heap.size + 1 + 1 < w1.heap.size := by omega
  refine wp_forget (fun W => W.cell? ⟨w.heap.size, 0, none⟩ = some (.int .u8 f) ∧ W.cell? ⟨w.heap.size, 1, none⟩ = some (.int .i64 p) ∧ W.cell? ⟨w.heap.size, 2, none⟩ = some (.int .i64 em) ∧ W.cell? ⟨w.heap.size, 3, none⟩ = some (.bool ng) ∧ W.cell? ⟨w.heap.size, 4, none⟩ = some (.int .u8 c) ∧ W.cell? ⟨w.heap.size, 5, none⟩ = some (.int .i64 x0) ∧ W.cell? ⟨w.heap.size, 6, none⟩ = some (.int .u64 s0h) ∧ W.cell? ⟨w.heap.size, 7, none⟩ = some (.int .u64 s0l) ∧ W.cell? ⟨w.heap.size + 1 + 1, 0, none⟩ = some (.bool false) ∧ W.cell? ⟨w.heap.size + 1 + 1, 1, none⟩ = some (.int .u8 0) ∧ W.cell? ⟨w.heap.size + 1 + 1, 2, none⟩ = some (.int .i64 0) ∧ W.cell? ⟨w.heap.size + 1 + 1, 3, none⟩ = some (.int .u64 0) ∧ W.cell? ⟨w.heap.size + 1 + 1, 4, none⟩ = some (.int .u64 0) ∧ W.cell? ⟨w1.heap.size, 0, none⟩ = some (.int .u64 sh) ∧ W.cell? ⟨w1.heap.size, 1, none⟩ = some (.int .u64 sl) ∧ W.frozen? ⟨w.heap.size, 0, none⟩ = false ∧ W.frozen? ⟨w.heap.size, 1, none⟩ = false ∧ W.frozen? ⟨w.heap.size, 2, none⟩ = false ∧ W.frozen? ⟨w.heap.size, 3, none⟩ = false ∧ W.frozen? ⟨w.heap.size, 4, none⟩ = false ∧ W.frozen? ⟨w.heap.size, 5, none⟩ = false ∧ W.frozen? ⟨w.heap.size, 6, none⟩ = false ∧ W.frozen? ⟨w.heap.size, 7, none⟩ = false ∧ W.frozen? ⟨w.heap.size + 1 + 1, 0, none⟩ = false ∧ W.frozen? ⟨w.heap.size + 1 + 1, 1, none⟩ = false ∧ W.frozen? ⟨w.heap.size + 1 + 1, 2, none⟩ = false ∧ W.frozen? ⟨w.heap.size + 1 + 1, 3, none⟩ = false ∧ W.frozen? ⟨w.heap.size + 1 + 1, 4, none⟩ = false ∧ Below w.heap.size w W) ⟨cL (bA bR _) cX0_0, cL (bA bR _) cX0_1, cL (bA bR _) cX0_2, cL (bA bR _) cX0_3, cL (bA bR _) cX0_4, cL (bA bR _) cX0_5, cL (bA bR _) cX0_6, cL (bA bR _) cX0_7, cL (bA bR _) cX2_0, cL (bA bR _) cX2_1, cL (bA bR _) cX2_2, cL (bA bR _) cX2_3, cL (bA bR _) cX2_4, by go_simp, by go_simp, fL (bA bR _) cX0_0 fX0_0, fL (bA bR _) cX0_1 fX0_1, fL (bA bR _) cX0_2 fX0_2, fL (bA bR _) cX0_3 fX0_3, fL (bA bR _) cX0_4 fX0_4, fL (bA bR _) cX0_5 fX0_5, fL (bA bR _) cX0_6 fX0_6, fL (bA bR _) cX0_7 fX0_7, fL (bA bR _) cX2_0 fX2_0, fL (bA bR _) cX2_1 fX2_1, fL (bA bR _) cX2_2 fX2_2, fL (bA bR _) cX2_3 fX2_3, fL (bA bR _) cX2_4 fX2_4, bC kk (bA bR _)⟩ (fun w2 hst => ?_)
  clear cX0_0 cX0_1 cX0_2 cX0_3 cX0_4 cX0_5 cX0_6 cX0_7 sX0 fX0_0 fX0_1 fX0_2 fX0_3 fX0_4 fX0_5 fX0_6 fX0_7 cX2_0 cX2_1 cX2_2 cX2_3 cX2_4 sX2 fX2_0 fX2_1 fX2_2 fX2_3 fX2_4 kk
  obtain ⟨cX0_0, cX0_1, cX0_2, cX0_3, cX0_4, cX0_5, cX0_6, cX0_7, cX2_0, cX2_1, cX2_2, cX2_3, cX2_4, cX3_0, cX3_1, fX0_0, fX0_1, fX0_2, fX0_3, fX0_4, fX0_5, fX0_6, fX0_7, fX2_0, fX2_1, fX2_2, fX2_3, fX2_4, kk⟩ := hst
  have sX0 : w.heap.size < w2.heap.size := bL cX0_0
  have sX2 : w.heap.size + 1 + 1 < w2.heap.size ∧ w.heap.size + 1 < w2.heap.size := by have h : w.heap.size + 1 + 1 < w2.heap.size := bL cX2_0; exact ⟨h, by omega⟩
  have sX3 : w1.heap.size < w2.heap.size := bL cX3_0
  refine wp_region_noPanic ?_
  refine wp_region_held_drew (S := fun w' => w'.cell? ⟨w1.heap.size, 0, none⟩ = some (.int .u64 sh) ∧ w'.cell? ⟨w1.heap.size, 1, none⟩ = some (.int .u64 sl) ∧ w'.cell? ⟨w.heap.size, 0, none⟩ = some (.int .u8 f) ∧ w'.cell? ⟨w.heap.size, 1, none⟩ = some (.int .i64 p) ∧ w'.cell? ⟨w.heap.size, 2, none⟩ = some (.int .i64 em) ∧ True) (by kernel_rfl) ⟨cL bR.drew cX3_0, cL bR.drew cX3_1, cL bR.drew cX0_0, cL bR.drew cX0_1, cL bR.drew cX0_2, trivial⟩ (fun hHeld => ?_)
  replace fX0_0 := fL bR.drew cX0_0 fX0_0; replace fX0_1 := fL bR.drew cX0_1 fX0_1; replace fX0_2 := fL bR.drew cX0_2 fX0_2; replace fX0_3 := fL bR.drew cX0_3 fX0_3; replace fX0_4 := fL bR.drew cX0_4 fX0_4; replace fX0_5 := fL bR.drew cX0_5 fX0_5; replace fX0_6 := fL bR.drew cX0_6 fX0_6; replace fX0_7 := fL bR.drew cX0_7 fX0_7
  replace cX0_0 := cL bR.drew cX0_0; replace cX0_1 := cL bR.drew cX0_1; replace cX0_2 := cL bR.drew cX0_2; replace cX0_3 := cL bR.drew cX0_3; replace cX0_4 := cL bR.drew cX0_4; replace cX0_5 := cL bR.drew cX0_5; replace cX0_6 := cL bR.drew cX0_6; replace cX0_7 := cL bR.drew cX0_7
  replace fX2_0 := fL bR.drew cX2_0 fX2_0; replace fX2_1 := fL bR.drew cX2_1 fX2_1; replace fX2_2 := fL bR.drew cX2_2 fX2_2; replace fX2_3 := fL bR.drew cX2_3 fX2_3; replace fX2_4 := fL bR.drew cX2_4 fX2_4
  replace cX2_0 := cL bR.drew cX2_0; replace cX2_1 := cL bR.drew cX2_1; replace cX2_2 := cL bR.drew cX2_2; replace cX2_3 := cL bR.drew cX2_3; replace cX2_4 := cL bR.drew cX2_4
  replace cX3_0 := cL bR.drew cX3_0; replace cX3_1 := cL bR.drew cX3_1
  replace kk := bC kk bR.drew
  refine wpAnyH_take (i := 0) (v := ?vq27) rfl (by kernel_rfl) (by kernel_rfl) (by kernel_rfl) (fun _ _ _ h => h) (Or.inl ⟨by rfl, ?yq27⟩) hHeld ?rq27
  case yq27 => (intro wq hb; obtain ⟨lq0, lq1, lq2, lq3, lq4, _⟩ := hb; go_simp; try (with_reducible rfl))
  try simp only [zA, zB, zC, Act.put, zD, zE, zF]
  refine wpAnyH_take (i := 1) (v := ?vq28) rfl (by kernel_rfl) (by kernel_rfl) (by kernel_rfl) (fun _ _ _ h => h) (Or.inl ⟨by rfl, ?yq28⟩) hHeld ?rq28
  case yq28 => (intro wq hb; obtain ⟨lq0, lq1, lq2, lq3, lq4, _⟩ := hb; go_simp; try (with_reducible rfl))
  try simp only [zA, zB, zC, Act.put, zD, zE, zF]
  refine wpAnyH_take (i := 2) (v := ?vq29) rfl (by kernel_rfl) (by kernel_rfl) (by kernel_rfl) (fun _ _ _ h => h) (Or.inl ⟨by rfl, ?yq29⟩) hHeld ?rq29
  case yq29 => (intro wq hb; obtain ⟨lq0, lq1, lq2, lq3, lq4, _⟩ := hb; go_simp; try (with_reducible rfl))
  try simp only [zA, zB, zC, Act.put, zD, zE, zF]
  refine wpAnyH_take (i := 3) (v := ?vq30) rfl (by kernel_rfl) (by kernel_rfl) (by kernel_rfl) (fun _ _ _ h => h) (Or.inl ⟨by rfl, ?yq30⟩) hHeld ?rq30
  case yq30 => (intro wq hb; obtain ⟨lq0, lq1, lq2, lq3, lq4, _⟩ := hb; go_simp; try (with_reducible rfl))
  try simp only [zA, zB, zC, Act.put, zD, zE, zF]
  refine wpAnyH_take (i := 6) (v := ?vq31) rfl (by kernel_rfl) (by kernel_rfl) (by kernel_rfl) (fun _ _ _ h => h) (Or.inl ⟨by rfl, ?yq31⟩) hHeld ?rq31
  case yq31 => (intro wq hb; obtain ⟨lq0, lq1, lq2, lq3, lq4, _⟩ := hb; go_simp; try (with_reducible rfl))
  try simp only [zA, zB, zC, Act.put, zD, zE, zF]
  refine wpAnyH_take (i := 8) (v := ?vq32) rfl (by kernel_rfl) (by kernel_rfl) (by kernel_rfl) (fun _ _ _ h => h) (Or.inl ⟨by rfl, ?yq32⟩) hHeld ?rq32
  case yq32 => (intro wq hb; obtain ⟨lq0, lq1, lq2, lq3, lq4, _⟩ := hb; go_simp; try (with_reducible rfl))
  try simp only [zA, zB, zC, Act.put, zD, zE, zF]
  refine wpAnyH_take (i := 9) (v := ?vq33) rfl (by kernel_rfl) (by kernel_rfl) (by kernel_rfl) (fun _ _ _ h => h) (Or.inl ⟨by rfl, ?yq33⟩) hHeld ?rq33
  case yq33 => (intro wq hb; obtain ⟨lq0, lq1, lq2, lq3, lq4, _⟩ := hb; go_simp; try (with_reducible rfl))
  try simp only [zA, zB, zC, Act.put, zD, zE, zF]
  clear hHeld
  refine wpAnyH_ready (rs := [4]) (by kernel_rfl) (by simp) ?_
  refine AllReadyH.cons rfl (fun K hK => ?_) AllReadyH.nil
  go_simp
  (with_reducible refine (h1.out _ (ft.later kk)).mono ?_); rintro e w3 ⟨rfl, hb⟩
  replace fX0_0 := fL hb cX0_0 fX0_0; replace fX0_1 := fL hb cX0_1 fX0_1; replace fX0_2 := fL hb cX0_2 fX0_2; replace fX0_3 := fL hb cX0_3 fX0_3; replace fX0_4 := fL hb cX0_4 fX0_4; replace fX0_5 := fL hb cX0_5 fX0_5; replace fX0_6 := fL hb cX0_6 fX0_6; replace fX0_7 := fL hb cX0_7 fX0_7
  replace cX0_0 := cL hb cX0_0; replace cX0_1 := cL hb cX0_1; replace cX0_2 := cL hb cX0_2; replace cX0_3 := cL hb cX0_3; replace cX0_4 := cL hb cX0_4; replace cX0_5 := cL hb cX0_5; replace cX0_6 := cL hb cX0_6; replace cX0_7 := cL hb cX0_7
  replace fX2_0 := fL hb cX2_0 fX2_0; replace fX2_1 := fL hb cX2_1 fX2_1; replace fX2_2 := fL hb cX2_2 fX2_2; replace fX2_3 := fL hb cX2_3 fX2_3; replace fX2_4 := fL hb cX2_4 fX2_4
  replace cX2_0 := cL hb cX2_0; replace cX2_1 := cL hb cX2_1; replace cX2_2 := cL hb cX2_2; replace cX2_3 := cL hb cX2_3; replace cX2_4 := cL hb cX2_4
  replace cX3_0 := cL hb cX3_0; replace cX3_1 := cL hb cX3_1
  replace kk := bC kk hb
  clear hb
  refine hK.out _ _ ⟨cX3_0, cX3_1, cX0_0, cX0_1, cX0_2, trivial⟩ (fun hHeld => ?_)
  clear hK K
  try simp only [zA, zB, zC, Act.put, zD, zE, zF]
  refine wpAnyH_take (i := 5) (v := ?vq34) rfl (by kernel_rfl) (by kernel_rfl) (by kernel_rfl) (fun _ _ _ h => h) (Or.inl ⟨by rfl, ?yq34⟩) hHeld ?rq34
  case yq34 => (intro wq hb; obtain ⟨lq0, lq1, lq2, lq3, lq4, _⟩ := hb; go_simp; try (with_reducible rfl))
  try simp only [zA, zB, zC, Act.put, zD, zE, zF]
  refine wpAnyH_take (i := 7) (v := ?vq35) rfl (by kernel_rfl) (by kernel_rfl) (by kernel_rfl) (fun _ _ _ h => h) (Or.inl ⟨by rfl, ?yq35⟩) hHeld ?rq35
  case yq35 => (intro wq hb; obtain ⟨lq0, lq1, lq2, lq3, lq4, _⟩ := hb; go_simp; try (with_reducible rfl))
  try simp only [zA, zB, zC, Act.put, zD, zE, zF]
  clear hHeld
  refine wpAnyH_ready (rs := [10]) (by kernel_rfl) (by simp) ?_
  refine AllReadyH.cons rfl (fun K hK => ?_) AllReadyH.nil
  go_simp
  have neX2 : ¬ (w.heap.size = w.heap.size + 1 + 1) := by omega
  have nfX2 : ¬ (w.heap.size + 1 + 1 = w.heap.size) := by omega
  have neX3 : ¬ (w.heap.size = w1.heap.size) := by omega
  have nfX3 : ¬ (w1.heap.size = w.heap.size) := by omega
  have KEY := lH (show ((w3.setCell ⟨w.heap.size, 6, none⟩ (.int .u64 sh)).setCell ⟨w.heap.size, 7, none⟩ (.int .u64 sl)).cell? ⟨w.heap.size, 0, none⟩ = some (.int .u8 f) ∧ ((w3.setCell ⟨w.heap.size, 6, none⟩ (.int .u64 sh)).setCell ⟨w.heap.size, 7, none⟩ (.int .u64 sl)).cell? ⟨w.heap.size, 1, none⟩ = some (.int .i64 p) ∧ ((w3.setCell ⟨w.heap.size, 6, none⟩ (.int .u64 sh)).setCell ⟨w.heap.size, 7, none⟩ (.int .u64 sl)).cell? ⟨w.heap.size, 2, none⟩ = some (.int .i64 em) ∧ ((w3.setCell ⟨w.heap.size, 6, none⟩ (.int .u64 sh)).setCell ⟨w.heap.size, 7, none⟩ (.int .u64 sl)).cell? ⟨w.heap.size, 3, none⟩ = some (.bool ng) ∧ ((w3.setCell ⟨w.heap.size, 6, none⟩ (.int .u64 sh)).setCell ⟨w.heap.size, 7, none⟩ (.int .u64 sl)).cell? ⟨w.heap.size, 4, none⟩ = some (.int .u8 c) ∧ ((w3.setCell ⟨w.heap.size, 6, none⟩ (.int .u64 sh)).setCell ⟨w.heap.size, 7, none⟩ (.int .u64 sl)).cell? ⟨w.heap.size, 5, none⟩ = some (.int .i64 x0) ∧ ((w3.setCell ⟨w.heap.size, 6, none⟩ (.int .u64 sh)).setCell ⟨w.heap.size, 7, none⟩ (.int .u64 sl)).cell? ⟨w.heap.size, 6, none⟩ = some (.int .u64 sh) ∧ ((w3.setCell ⟨w.heap.size, 6, none⟩ (.int .u64 sh)).setCell ⟨w.heap.size, 7, none⟩ (.int .u64 sl)).cell? ⟨w.heap.size, 7, none⟩ = some (.int .u64 sl) ∧ ((w3.setCell ⟨w.heap.size, 6, none⟩ (.int .u64 sh)).setCell ⟨w.heap.size, 7, none⟩ (.int .u64 sl)).frozen? ⟨w.heap.size, 0, none⟩ = false ∧ ((w3.setCell ⟨w.heap.size, 6, none⟩ (.int .u64 sh)).setCell ⟨w.heap.size, 7, none⟩ (.int .u64 sl)).frozen? ⟨w.heap.size, 1, none⟩ = false ∧ ((w3.setCell ⟨w.heap.size, 6, none⟩ (.int .u64 sh)).setCell ⟨w.heap.size, 7, none⟩ (.int .u64 sl)).frozen? ⟨w.heap.size, 2, none⟩ = false ∧ ((w3.setCell ⟨w.heap.size, 6, none⟩ (.int .u64 sh)).setCell ⟨w.heap.size, 7, none⟩ (.int .u64 sl)).frozen? ⟨w.heap.size, 3, none⟩ = false ∧ ((w3.setCell ⟨w.heap.size, 6, none⟩ (.int .u64 sh)).setCell ⟨w.heap.size, 7, none⟩ (.int .u64 sl)).frozen? ⟨w.heap.size, 4, none⟩ = false ∧ ((w3.setCell ⟨w.heap.size, 6, none⟩ (.int .u64 sh)).setCell ⟨w.heap.size, 7, none⟩ (.int .u64 sl)).frozen? ⟨w.heap.size, 5, none⟩ = false ∧ ((w3.setCell ⟨w.heap.size, 6, none⟩ (.int .u64 sh)).setCell ⟨w.heap.size, 7, none⟩ (.int .u64 sl)).frozen? ⟨w.heap.size, 6, none⟩ = false ∧ ((w3.setCell ⟨w.heap.size, 6, none⟩ (.int .u64 sh)).setCell ⟨w.heap.size, 7, none⟩ (.int .u64 sl)).frozen? ⟨w.heap.size, 7, none⟩ = false ∧ ((w3.setCell ⟨w.heap.size, 6, none⟩ (.int .u64 sh)).setCell ⟨w.heap.size, 7, none⟩ (.int .u64 sl)).cell? ⟨w.heap.size + 1 + 1, 0, none⟩ = some (.bool false) ∧ ((w3.setCell ⟨w.heap.size, 6, none⟩ (.int .u64 sh)).setCell ⟨w.heap.size, 7, none⟩ (.int .u64 sl)).cell? ⟨w.heap.size + 1 + 1, 1, none⟩ = some (.int .u8 0) ∧ ((w3.setCell ⟨w.heap.size, 6, none⟩ (.int .u64 sh)).setCell ⟨w.heap.size, 7, none⟩ (.int .u64 sl)).cell? ⟨w.heap.size + 1 + 1, 2, none⟩ = some (.int .i64 0) ∧ ((w3.setCell ⟨w.heap.size, 6, none⟩ (.int .u64 sh)).setCell ⟨w.heap.size, 7, none⟩ (.int .u64 sl)).cell? ⟨w.heap.size + 1 + 1, 3, none⟩ = some (.int .u64 0) ∧ ((w3.setCell ⟨w.heap.size, 6, none⟩ (.int .u64 sh)).setCell ⟨w.heap.size, 7, none⟩ (.int .u64 sl)).cell? ⟨w.heap.size + 1 + 1, 4, none⟩ = some (.int .u64 0) ∧ ((w3.setCell ⟨w.heap.size, 6, none⟩ (.int .u64 sh)).setCell ⟨w.heap.size, 7, none⟩ (.int .u64 sl)).frozen? ⟨w.heap.size + 1 + 1, 0, none⟩ = false ∧ ((w3.setCell ⟨w.heap.size, 6, none⟩ (.int .u64 sh)).setCell ⟨w.heap.size, 7, none⟩ (.int .u64 sl)).frozen? ⟨w.heap.size + 1 + 1, 1, none⟩ = false ∧ ((w3.setCell ⟨w.heap.size, 6, none⟩ (.int .u64 sh)).setCell ⟨w.heap.size, 7, none⟩ (.int .u64 sl)).frozen? ⟨w.heap.size + 1 + 1, 2, none⟩ = false ∧ ((w3.setCell ⟨w.heap.size, 6, none⟩ (.int .u64 sh)).setCell ⟨w.heap.size, 7, none⟩ (.int .u64 sl)).frozen? ⟨w.heap.size + 1 + 1, 3, none⟩ = false ∧ ((w3.setCell ⟨w.heap.size, 6, none⟩ (.int .u64 sh)).setCell ⟨w.heap.size, 7, none⟩ (.int .u64 sl)).frozen? ⟨w.heap.size + 1 + 1, 4, none⟩ = false ∧ ((w3.setCell ⟨w.heap.size, 6, none⟩ (.int .u64 sh)).setCell ⟨w.heap.size, 7, none⟩ (.int .u64 sl)).cell? ⟨w1.heap.size, 0, none⟩ = some (.int .u64 sh) ∧ ((w3.setCell ⟨w.heap.size, 6, none⟩ (.int .u64 sh)).setCell ⟨w.heap.size, 7, none⟩ (.int .u64 sl)).cell? ⟨w1.heap.size, 1, none⟩ = some (.int .u64 sl) ∧ Below w.heap.size w ((w3.setCell ⟨w.heap.size, 6, none⟩ (.int .u64 sh)).setCell ⟨w.heap.size, 7, none⟩ (.int .u64 sl)) from ⟨by go_simp, by go_simp, by go_simp, by go_simp, by go_simp, by go_simp, by go_simp, by go_simp, by go_simp, by go_simp, by go_simp, by go_simp, by go_simp, by go_simp, by go_simp, by go_simp, by go_simp, by go_simp, by go_simp, by go_simp, by go_simp, by go_simp, by go_simp, by go_simp, by go_simp, by go_simp, by go_simp, by go_simp, ((kk.setCell (p := ⟨w.heap.size, 6, none⟩) gX0 _).setCell (p := ⟨w.heap.size, 7, none⟩) gX0 _)⟩)
  clear cX0_0 cX0_1 cX0_2 cX0_3 cX0_4 cX0_5 cX0_6 cX0_7 fX0_0 fX0_1 fX0_2 fX0_3 fX0_4 fX0_5 fX0_6 fX0_7 cX2_0 cX2_1 cX2_2 cX2_3 cX2_4 fX2_0 fX2_1 fX2_2 fX2_3 fX2_4 cX3_0 cX3_1 neX2 nfX2 neX3 nfX3 kk
  refine forget_at (fun W => W.cell? ⟨w.heap.size, 0, none⟩ = some (.int .u8 f) ∧ W.cell? ⟨w.heap.size, 1, none⟩ = some (.int .i64 p) ∧ W.cell? ⟨w.heap.size, 2, none⟩ = some (.int .i64 em) ∧ W.cell? ⟨w.heap.size, 3, none⟩ = some (.bool ng) ∧ W.cell? ⟨w.heap.size, 4, none⟩ = some (.int .u8 c) ∧ W.cell? ⟨w.heap.size, 5, none⟩ = some (.int .i64 x0) ∧ W.cell? ⟨w.heap.size, 6, none⟩ = some (.int .u64 sh) ∧ W.cell? ⟨w.heap.size, 7, none⟩ = some (.int .u64 sl) ∧ W.frozen? ⟨w.heap.size, 0, none⟩ = false ∧ W.frozen? ⟨w.heap.size, 1, none⟩ = false ∧ W.frozen? ⟨w.heap.size, 2, none⟩ = false ∧ W.frozen? ⟨w.heap.size, 3, none⟩ = false ∧ W.frozen? ⟨w.heap.size, 4, none⟩ = false ∧ W.frozen? ⟨w.heap.size, 5, none⟩ = false ∧ W.frozen? ⟨w.heap.size, 6, none⟩ = false ∧ W.frozen? ⟨w.heap.size, 7, none⟩ = false ∧ W.cell? ⟨w.heap.size + 1 + 1, 0, none⟩ = some (.bool false) ∧ W.cell? ⟨w.heap.size + 1 + 1, 1, none⟩ = some (.int .u8 0) ∧ W.cell? ⟨w.heap.size + 1 + 1, 2, none⟩ = some (.int .i64 0) ∧ W.cell? ⟨w.heap.size + 1 + 1, 3, none⟩ = some (.int .u64 0) ∧ W.cell? ⟨w.heap.size + 1 + 1, 4, none⟩ = some (.int .u64 0) ∧ W.frozen? ⟨w.heap.size + 1 + 1, 0, none⟩ = false ∧ W.frozen? ⟨w.heap.size + 1 + 1, 1, none⟩ = false ∧ W.frozen? ⟨w.heap.size + 1 + 1, 2, none⟩ = false ∧ W.frozen? ⟨w.heap.size + 1 + 1, 3, none⟩ = false ∧ W.frozen? ⟨w.heap.size + 1 + 1, 4, none⟩ = false ∧ W.cell? ⟨w1.heap.size, 0, none⟩ = some (.int .u64 sh) ∧ W.cell? ⟨w1.heap.size, 1, none⟩ = some (.int .u64 sl) ∧ Below w.heap.size w W) KEY.out (fun w4 hz => ?_)
  obtain ⟨cX0_0, cX0_1, cX0_2, cX0_3, cX0_4, cX0_5, cX0_6, cX0_7, fX0_0, fX0_1, fX0_2, fX0_3, fX0_4, fX0_5, fX0_6, fX0_7, cX2_0, cX2_1, cX2_2, cX2_3, cX2_4, fX2_0, fX2_1, fX2_2, fX2_3, fX2_4, cX3_0, cX3_1, kk⟩ := hz
  clear KEY
  refine hK.out _ _ ⟨cX3_0, cX3_1, cX0_0, cX0_1, cX0_2, trivial⟩ (fun hHeld => ?_)
  clear hK K
  try simp only [zA, zB, zC, Act.put, zD, zE, zF]
  refine wpAnyH_take (i := 11) (v := ?vq36) rfl (by kernel_rfl) (by kernel_rfl) (by kernel_rfl) (fun _ _ _ h => h) (Or.inl ⟨by rfl, ?yq36⟩) hHeld ?rq36
  case yq36 => (intro wq hb; obtain ⟨lq0, lq1, lq2, lq3, lq4, _⟩ := hb; go_simp; try (with_reducible rfl))
  try simp only [zA, zB, zC, Act.put, zD, zE, zF]
  refine wpAnyH_take (i := 12) (v := ?vq37) rfl (by kernel_rfl) (by kernel_rfl) (by kernel_rfl) (fun _ _ _ h => h) (Or.inl ⟨by rfl, ?yq37⟩) hHeld ?rq37
  case yq37 => (intro wq hb; obtain ⟨lq0, lq1, lq2, lq3, lq4, _⟩ := hb; go_simp; try (with_reducible rfl))
  try simp only [zA, zB, zC, Act.put, zD, zE, zF]
  clear hHeld
  refine wpAnyH_ready (rs := [13]) (by kernel_rfl) (by simp) ?_
  refine AllReadyH.cons rfl (fun K hK => ?_) AllReadyH.nil
  go_simp
  have neX2 : ¬ (w.heap.size = w.heap.size + 1 + 1) := by omega
  have nfX2 : ¬ (w.heap.size + 1 + 1 = w.heap.size) := by omega
  have neX3 : ¬ (w.heap.size = w1.heap.size) := by omega
  have nfX3 : ¬ (w1.heap.size = w.heap.size) := by omega
  have KEY := lH (show (w4.setCell ⟨w.heap.size, 5, none⟩ (.int .i64 x)).cell? ⟨w.heap.size, 0, none⟩ = some (.int .u8 f) ∧ (w4.setCell ⟨w.heap.size, 5, none⟩ (.int .i64 x)).cell? ⟨w.heap.size, 1, none⟩ = some (.int .i64 p) ∧ (w4.setCell ⟨w.heap.size, 5, none⟩ (.int .i64 x)).cell? ⟨w.heap.size, 2, none⟩ = some (.int .i64 em) ∧ (w4.setCell ⟨w.heap.size, 5, none⟩ (.int .i64 x)).cell? ⟨w.heap.size, 3, none⟩ = some (.bool ng) ∧ (w4.setCell ⟨w.heap.size, 5, none⟩ (.int .i64 x)).cell? ⟨w.heap.size, 4, none⟩ = some (.int .u8 c) ∧ (w4.setCell ⟨w.heap.size, 5, none⟩ (.int .i64 x)).cell? ⟨w.heap.size, 5, none⟩ = some (.int .i64 x) ∧ (w4.setCell ⟨w.heap.size, 5, none⟩ (.int .i64 x)).cell? ⟨w.heap.size, 6, none⟩ = some (.int .u64 sh) ∧ (w4.setCell ⟨w.heap.size, 5, none⟩ (.int .i64 x)).cell? ⟨w.heap.size, 7, none⟩ = some (.int .u64 sl) ∧ (w4.setCell ⟨w.heap.size, 5, none⟩ (.int .i64 x)).frozen? ⟨w.heap.size, 0, none⟩ = false ∧ (w4.setCell ⟨w.heap.size, 5, none⟩ (.int .i64 x)).frozen? ⟨w.heap.size, 1, none⟩ = false ∧ (w4.setCell ⟨w.heap.size, 5, none⟩ (.int .i64 x)).frozen? ⟨w.heap.size, 2, none⟩ = false ∧ (w4.setCell ⟨w.heap.size, 5, none⟩ (.int .i64 x)).frozen? ⟨w.heap.size, 3, none⟩ = false ∧ (w4.setCell ⟨w.heap.size, 5, none⟩ (.int .i64 x)).frozen? ⟨w.heap.size, 4, none⟩ = false ∧ (w4.setCell ⟨w.heap.size, 5, none⟩ (.int .i64 x)).frozen? ⟨w.heap.size, 5, none⟩ = false ∧ (w4.setCell ⟨w.heap.size, 5, none⟩ (.int .i64 x)).frozen? ⟨w.heap.size, 6, none⟩ = false ∧ (w4.setCell ⟨w.heap.size, 5, none⟩ (.int .i64 x)).frozen? ⟨w.heap.size, 7, none⟩ = false ∧ (w4.setCell ⟨w.heap.size, 5, none⟩ (.int .i64 x)).cell? ⟨w.heap.size + 1 + 1, 0, none⟩ = some (.bool false) ∧ (w4.setCell ⟨w.heap.size, 5, none⟩ (.int .i64 x)).cell? ⟨w.heap.size + 1 + 1, 1, none⟩ = some (.int .u8 0) ∧ (w4.setCell ⟨w.heap.size, 5, none⟩ (.int .i64 x)).cell? ⟨w.heap.size + 1 + 1, 2, none⟩ = some (.int .i64 0) ∧ (w4.setCell ⟨w.heap.size, 5, none⟩ (.int .i64 x)).cell? ⟨w.heap.size + 1 + 1, 3, none⟩ = some (.int .u64 0) ∧ (w4.setCell ⟨w.heap.size, 5, none⟩ (.int .i64 x)).cell? ⟨w.heap.size + 1 + 1, 4, none⟩ = some (.int .u64 0) ∧ (w4.setCell ⟨w.heap.size, 5, none⟩ (.int .i64 x)).frozen? ⟨w.heap.size + 1 + 1, 0, none⟩ = false ∧ (w4.setCell ⟨w.heap.size, 5, none⟩ (.int .i64 x)).frozen? ⟨w.heap.size + 1 + 1, 1, none⟩ = false ∧ (w4.setCell ⟨w.heap.size, 5, none⟩ (.int .i64 x)).frozen? ⟨w.heap.size + 1 + 1, 2, none⟩ = false ∧ (w4.setCell ⟨w.heap.size, 5, none⟩ (.int .i64 x)).frozen? ⟨w.heap.size + 1 + 1, 3, none⟩ = false ∧ (w4.setCell ⟨w.heap.size, 5, none⟩ (.int .i64 x)).frozen? ⟨w.heap.size + 1 + 1, 4, none⟩ = false ∧ (w4.setCell ⟨w.heap.size, 5, none⟩ (.int .i64 x)).cell? ⟨w1.heap.size, 0, none⟩ = some (.int .u64 sh) ∧ (w4.setCell ⟨w.heap.size, 5, none⟩ (.int .i64 x)).cell? ⟨w1.heap.size, 1, none⟩ = some (.int .u64 sl) ∧ Below w.heap.size w (w4.setCell ⟨w.heap.size, 5, none⟩ (.int .i64 x)) from ⟨by go_simp, by go_simp, by go_simp, by go_simp, by go_simp, by go_simp, by go_simp, by go_simp, by go_simp, by go_simp, by go_simp, by go_simp, by go_simp, by go_simp, by go_simp, by go_simp, by go_simp, by go_simp, by go_simp, by go_simp, by go_simp, by go_simp, by go_simp, by go_simp, by go_simp, by go_simp, by go_simp, by go_simp, (kk.setCell (p := ⟨w.heap.size, 5, none⟩) gX0 _)⟩)
  clear cX0_0 cX0_1 cX0_2 cX0_3 cX0_4 cX0_5 cX0_6 cX0_7 fX0_0 fX0_1 fX0_2 fX0_3 fX0_4 fX0_5 fX0_6 fX0_7 cX2_0 cX2_1 cX2_2 cX2_3 cX2_4 fX2_0 fX2_1 fX2_2 fX2_3 fX2_4 cX3_0 cX3_1 neX2 nfX2 neX3 nfX3 kk
  refine forget_at (fun W => W.cell? ⟨w.heap.size, 0, none⟩ = some (.int .u8 f) ∧ W.cell? ⟨w.heap.size, 1, none⟩ = some (.int .i64 p) ∧ W.cell? ⟨w.heap.size, 2, none⟩ = some (.int .i64 em) ∧ W.cell? ⟨w.heap.size, 3, none⟩ = some (.bool ng) ∧ W.cell? ⟨w.heap.size, 4, none⟩ = some (.int .u8 c) ∧ W.cell? ⟨w.heap.size, 5, none⟩ = some (.int .i64 x) ∧ W.cell? ⟨w.heap.size, 6, none⟩ = some (.int .u64 sh) ∧ W.cell? ⟨w.heap.size, 7, none⟩ = some (.int .u64 sl) ∧ W.frozen? ⟨w.heap.size, 0, none⟩ = false ∧ W.frozen? ⟨w.heap.size, 1, none⟩ = false ∧ W.frozen? ⟨w.heap.size, 2, none⟩ = false ∧ W.frozen? ⟨w.heap.size, 3, none⟩ = false ∧ W.frozen? ⟨w.heap.size, 4, none⟩ = false ∧ W.frozen? ⟨w.heap.size, 5, none⟩ = false ∧ W.frozen? ⟨w.heap.size, 6, none⟩ = false ∧ W.frozen? ⟨w.heap.size, 7, none⟩ = false ∧ W.cell? ⟨w.heap.size + 1 + 1, 0, none⟩ = some (.bool false) ∧ W.cell? ⟨w.heap.size + 1 + 1, 1, none⟩ = some (.int .u8 0) ∧ W.cell? ⟨w.heap.size + 1 + 1, 2, none⟩ = some (.int .i64 0) ∧ W.cell? ⟨w.heap.size + 1 + 1, 3, none⟩ = some (.int .u64 0) ∧ W.cell? ⟨w.heap.size + 1 + 1, 4, none⟩ = some (.int .u64 0) ∧ W.frozen? ⟨w.heap.size + 1 + 1, 0, none⟩ = false ∧ W.frozen? ⟨w.heap.size + 1 + 1, 1, none⟩ = false ∧ W.frozen? ⟨w.heap.size + 1 + 1, 2, none⟩ = false ∧ W.frozen? ⟨w.heap.size + 1 + 1, 3, none⟩ = false ∧ W.frozen? ⟨w.heap.size + 1 + 1, 4, none⟩ = false ∧ W.cell? ⟨w1.heap.size, 0, none⟩ = some (.int .u64 sh) ∧ W.cell? ⟨w1.heap.size, 1, none⟩ = some (.int .u64 sl) ∧ Below w.heap.size w W) KEY.out (fun w5 hz => ?_)
  obtain ⟨cX0_0, cX0_1, cX0_2, cX0_3, cX0_4, cX0_5, cX0_6, cX0_7, fX0_0, fX0_1, fX0_2, fX0_3, fX0_4, fX0_5, fX0_6, fX0_7, cX2_0, cX2_1, cX2_2, cX2_3, cX2_4, fX2_0, fX2_1, fX2_2, fX2_3, fX2_4, cX3_0, cX3_1, kk⟩ := hz
  clear KEY
  refine hK.out _ _ ⟨cX3_0, cX3_1, cX0_0, cX0_1, cX0_2, trivial⟩ (fun hHeld => ?_)
  clear hK K
  try simp only [zA, zB, zC, Act.put, zD, zE, zF]
  clear hHeld
  refine wpAnyH_done (by kernel_rfl) ?_ _
  refine NoPanic.normal ?_
  replace sX0 : w.heap.size < w5.heap.size := bL cX0_0
  replace sX2 : w.heap.size + 1 + 1 < w5.heap.size ∧ w.heap.size + 1 < w5.heap.size := by have h : w.heap.size + 1 + 1 < w5.heap.size := bL cX2_0; exact ⟨h, by omega⟩
  clear cX3_0 cX3_1 sX3
  have KEY : Hid ((((((w5.setCell ⟨w.heap.size + 1 + 1, 0, none⟩ (.bool ng)).setCell ⟨w.heap.size + 1 + 1, 1, none⟩ (.int .u8 c)).setCell ⟨w.heap.size + 1 + 1, 2, none⟩ (.int .i64 x)).setCell ⟨w.heap.size + 1 + 1, 3, none⟩ (.int .u64 sh)).setCell ⟨w.heap.size + 1 + 1, 4, none⟩ (.int .u64 sl)).cell? ⟨w.heap.size + 1 + 1, 0, none⟩ = some (.bool ng) ∧ (((((w5.setCell ⟨w.heap.size + 1 + 1, 0, none⟩ (.bool ng)).setCell ⟨w.heap.size + 1 + 1, 1, none⟩ (.int .u8 c)).setCell ⟨w.heap.size + 1 + 1, 2, none⟩ (.int .i64 x)).setCell ⟨w.heap.size + 1 + 1, 3, none⟩ (.int .u64 sh)).setCell ⟨w.heap.size + 1 + 1, 4, none⟩ (.int .u64 sl)).cell? ⟨w.heap.size + 1 + 1, 1, none⟩ = some (.int .u8 c) ∧ (((((w5.setCell ⟨w.heap.size + 1 + 1, 0, none⟩ (.bool ng)).setCell ⟨w.heap.size + 1 + 1, 1, none⟩ (.int .u8 c)).setCell ⟨w.heap.size + 1 + 1, 2, none⟩ (.int .i64 x)).setCell ⟨w.heap.size + 1 + 1, 3, none⟩ (.int .u64 sh)).setCell ⟨w.heap.size + 1 + 1, 4, none⟩ (.int .u64 sl)).cell? ⟨w.heap.size + 1 + 1, 2, none⟩ = some (.int .i64 x) ∧ (((((w5.setCell ⟨w.heap.size + 1 + 1, 0, none⟩ (.bool ng)).setCell ⟨w.heap.size + 1 + 1, 1, none⟩ (.int .u8 c)).setCell ⟨w.heap.size + 1 + 1, 2, none⟩ (.int .i64 x)).setCell ⟨w.heap.size + 1 + 1, 3, none⟩ (.int .u64 sh)).setCell ⟨w.heap.size + 1 + 1, 4, none⟩ (.int .u64 sl)).cell? ⟨w.heap.size + 1 + 1, 3, none⟩ = some (.int .u64 sh) ∧ (((((w5.setCell ⟨w.heap.size + 1 + 1, 0, none⟩ (.bool ng)).setCell ⟨w.heap.size + 1 + 1, 1, none⟩ (.int .u8 c)).setCell ⟨w.heap.size + 1 + 1, 2, none⟩ (.int .i64 x)).setCell ⟨w.heap.size + 1 + 1, 3, none⟩ (.int .u64 sh)).setCell ⟨w.heap.size + 1 + 1, 4, none⟩ (.int .u64 sl)).cell? ⟨w.heap.size + 1 + 1, 4, none⟩ = some (.int .u64 sl) ∧ Below w.heap.size w (((((w5.setCell ⟨w.heap.size + 1 + 1, 0, none⟩ (.bool ng)).setCell ⟨w.heap.size + 1 + 1, 1, none⟩ (.int .u8 c)).setCell ⟨w.heap.size + 1 + 1, 2, none⟩ (.int .i64 x)).setCell ⟨w.heap.size + 1 + 1, 3, none⟩ (.int .u64 sh)).setCell ⟨w.heap.size + 1 + 1, 4, none⟩ (.int .u64 sl))) := lH ⟨by go_simp, by go_simp, by go_simp, by go_simp, by go_simp, (((((kk.setCell (p := ⟨w.heap.size + 1 + 1, 0, none⟩) gX2 _).setCell (p := ⟨w.heap.size + 1 + 1, 1, none⟩) gX2 _).setCell (p := ⟨w.heap.size + 1 + 1, 2, none⟩) gX2 _).setCell (p := ⟨w.heap.size + 1 + 1, 3, none⟩) gX2 _).setCell (p := ⟨w.heap.size + 1 + 1, 4, none⟩) gX2 _)⟩
  go_wp2_with fail
  obtain ⟨e0, e1, e2, e3, e4, kb⟩ := KEY.out
  clear KEY cX2_0 cX2_1 cX2_2 cX2_3 cX2_4 fX2_0 fX2_1 fX2_2 fX2_3 fX2_4
  refine bodyPost_ret (v := .agg #[.bool ng, .int .u8 c, .int .i64 x, .int .u64 sh, .int .u64 sl]) ?_ rfl ⟨rfl, kb⟩
  simp [results, Tryz.results82, go_sem, e0, e1, e2, e3, e4]
theorem fld_unpack_no (f bh bl : Int)
    (h0 : Hid (∀ w, FTab w → Ca 15 #[.int .u8 f] w (.bool false))) (w : World) (ft : FTab w) :
    Ca 32 #[.int .u8 f, U2 bh bl] w (.agg #[.bool false, .int .u8 0, .int .i64 0, .int .u64 0, .int .u64 0]) := by
  simp only [Ca, U2] at *
  go_enter Tryz.func32, Tryz.ntmps32
  go_wp2_with fail
  refine vM (h0.out _ (ft.later (bA (bA bR _) _))) fun w1 b1 => ?_
  have gX1 : w.heap.size ≤ w.heap.size + 1 := by omega
  have X1 := (HB.newAt (b := w.heap.size + 1) (by simp) _ _).later b1
  have oX1 := X1.o
  go_wp2_with fail
  refine bodyPost_ret (v := .agg #[.bool false, .int .u8 0, .int .i64 0, .int .u64 0, .int .u64 0]) ?_ rfl ⟨rfl, ((((((bC (bA (bA bR _) _) b1).setCell (p := ⟨w.heap.size + 1, 0, none⟩) gX1 _).setCell (p := ⟨w.heap.size + 1, 1, none⟩) gX1 _).setCell (p := ⟨w.heap.size + 1, 2, none⟩) gX1 _).setCell (p := ⟨w.heap.size + 1, 3, none⟩) gX1 _).setCell (p := ⟨w.heap.size + 1, 4, none⟩) gX1 _)⟩
  simp [results, Tryz.results32, go_sem, oX1]
theorem fld_unpack_sub (f bh bl ex th tl p em l x sh sl : Int) (ng ng2 : Bool)
    (h0 : Hid (∀ w, FTab w → Ca 15 #[.int .u8 f] w (.bool true)))
    (h1 : Hid (∀ w, FTab w → Ca 14 #[.int .u8 f, U2 bh bl] w (.tuple #[.int .u8 1, .bool ng])))
    (h2 : Hid (∀ w, FTab w → Ca 45 #[.int .u8 f, U2 bh bl] w (.tuple #[.bool ng2, .int .i64 ex, U2 th tl])))
    (h3 : Hid (∀ w, FTab w → Ca 81 #[.int .u8 f, .agg #[.bool ng, .int .u8 1, .int .i64 0, .int .u64 0, .int .u64 0]] w (.agg #[.int .u8 f, .int .i64 p, .int .i64 em, .bool ng, .int .u8 1, .int .i64 0, .int .u64 0, .int .u64 0])))
    (h4 : Hid (∀ w, FTab w → Ca 83 #[.agg #[.int .u8 f, .int .i64 p, .int .i64 em]] w (.int .i64 l)))
    (h5 : Hid (∀ w, FTab w → Ca 82 #[.agg #[.int .u8 f, .int .i64 p, .int .i64 em, .bool ng, .int .u8 1, .int .i64 0, .int .u64 0, .int .u64 0], .int .i64 l, U2 th tl] w (.agg #[.bool ng, .int .u8 1, .int .i64 x, .int .u64 sh, .int .u64 sl]))) (w : World) (ft : FTab w) :
    Ca 32 #[.int .u8 f, U2 bh bl] w (.agg #[.bool ng, .int .u8 1, .int .i64 x, .int .u64 sh, .int .u64 sl]) := by
  simp only [Ca, U2] at *
  go_enter Tryz.func32, Tryz.ntmps32
  go_wp2_with fail
  refine vM (h0.out _ (ft.later (bA (bA bR _) _))) fun w1 b1 => ?_
  have gX1 : w.heap.size ≤ w.heap.size + 1 := by omega
  have X0 := ((HB.newAt (b := w.heap.size) (by simp) _ _).alloc _).later b1
  have X1 := (HB.newAt (b := w.heap.size + 1) (by simp) _ _).later b1
  have oX0 := X0.o
  go_wp2_with fail
  refine vM (h1.out _ (ft.later (bC (bA (bA bR _) _) b1))) fun w2 b2 => ?_
  clear oX0
  replace X0 := X0.later b2
  have oX0 := X0.o
  go_wp2_with fail
  refine vM (h2.out _ (ft.later (bC (bC (bA (bA bR _) _) b1) b2))) fun w3 b3 => ?_
  clear oX0
  go_wp2_with fail
  refine vM (h3.out _ (ft.later (bA (bC (bC (bC (bA (bA bR _) _) b1) b2) b3) _))) fun w4 b4 => ?_
  replace X1 := X1.later (bC b2 b3)
  have nX1_X2 : w.heap.size + 1 < w3.heap.size := by have := X1.lt; omega
  have X2 := (HB.newAt (b := w3.heap.size) (by simp) _ _).later b4
  go_wp2_with fail
  replace X1 := X1.later (bC (bA bR _) b4)
  have nX1_X3 : w.heap.size + 1 < w4.heap.size := by have := X1.lt; omega
  refine vF1 fun w5 b5 X3 => ?_
  replace X1 := X1.later b5
  replace X2 := X2.later b5
  refine vR [w.heap.size + 1] fun w6 b6 S6 => ?_
  refine vT 0 S6 ?_ (hy := by intro wq hb; have q := (hb.hb X3 (by simp <;> omega)).o; go_simp; try (with_reducible rfl))
  refine vT 1 S6 ?_
  refine vT 2 S6 ?_ (hy := by intro wq hb; have q := (hb.hb X3 (by simp <;> omega)).o; go_simp; try (with_reducible rfl))
  refine vT 4 S6 ?_ (hy := by intro wq hb; have q := (hb.hb X2 (by simp <;> omega)).o; go_simp; try (with_reducible rfl))
  refine vY1 (vC 3 S6 (h4.out _ (ft.later (bC (bC (bC (bC (bC (bC (bA (bA bR _) _) b1) b2) b3) (bC (bA bR _) b4)) b5) b6))) (fun _ _ => Off.later) fun w7 b7 S7 => ?_)
  refine vY1 (vC 5 S7 (h5.out _ (ft.later (bC (bC (bC (bC (bC (bC (bC (bA (bA bR _) _) b1) b2) b3) (bC (bA bR _) b4)) b5) b6) b7))) (fun _ _ => Off.later) fun w8 b8 S8 => ?_)
  refine vY1 (vO 6 fun K hK => ?_)
  replace X1 := X1.later (bC (bC b6 b7) b8)
  have oX1 := X1.o
  go_simp
  refine hK.out _ _ (Off.set (by simp) (Off.set (by simp) (Off.set (by simp) (Off.set (by simp) (Off.set (by simp) S8))))) fun S9 => ?_
  clear hK K
  refine vP ?_
  refine vD ?_
  go_wp2_with fail
  refine bodyPost_ret (v := .agg #[.bool ng, .int .u8 1, .int .i64 x, .int .u64 sh, .int .u64 sl]) ?_ rfl ⟨rfl, ((((((bC (bC (bC (bC (bC (bC (bC (bC (bA (bA bR _) _) b1) b2) b3) (bC (bA bR _) b4)) b5) b6) b7) b8).setCell (p := ⟨w.heap.size + 1, 0, none⟩) gX1 _).setCell (p := ⟨w.heap.size + 1, 1, none⟩) gX1 _).setCell (p := ⟨w.heap.size + 1, 2, none⟩) gX1 _).setCell (p := ⟨w.heap.size + 1, 3, none⟩) gX1 _).setCell (p := ⟨w.heap.size + 1, 4, none⟩) gX1 _)⟩
  simp [results, Tryz.results32, go_sem, oX1]
theorem fld_unpack_nor (f bh bl ex th tl p em mh ml d x sh sl : Int) (ng ng2 : Bool)
    (h0 : Hid (∀ w, FTab w → Ca 15 #[.int .u8 f] w (.bool true)))
    (h1 : Hid (∀ w, FTab w → Ca 14 #[.int .u8 f, U2 bh bl] w (.tuple #[.int .u8 2, .bool ng])))
    (h2 : Hid (∀ w, FTab w → Ca 45 #[.int .u8 f, U2 bh bl] w (.tuple #[.bool ng2, .int .i64 ex, U2 th tl])))
    (h3 : Hid (∀ w, FTab w → Ca 81 #[.int .u8 f, .agg #[.bool ng, .int .u8 2, .int .i64 0, .int .u64 0, .int .u64 0]] w (.agg #[.int .u8 f, .int .i64 p, .int .i64 em, .bool ng, .int .u8 2, .int .i64 0, .int .u64 0, .int .u64 0])))
    (h4 : Hid (∀ w, FTab w → Ca 84 #[.agg #[.int .u8 f, .int .i64 p, .int .i64 em], U2 th tl] w (U2 mh ml)))
    (h5 : Hid (∀ w, FTab w → Ca 82 #[.agg #[.int .u8 f, .int .i64 p, .int .i64 em, .bool ng, .int .u8 2, .int .i64 0, .int .u64 0, .int .u64 0], .int .i64 d, U2 mh ml] w (.agg #[.bool ng, .int .u8 2, .int .i64 x, .int .u64 sh, .int .u64 sl]))) (v1 : IntKind.i64.wrap (ex - em) = d) (w : World) (ft : FTab w) :
    Ca 32 #[.int .u8 f, U2 bh bl] w (.agg #[.bool ng, .int .u8 2, .int .i64 x, .int .u64 sh, .int .u64 sl]) := by
  simp only [Ca, U2] at *
  go_enter Tryz.func32, Tryz.ntmps32
  go_wp2_with fail
  refine vM (h0.out _ (ft.later (bA (bA bR _) _))) fun w1 b1 => ?_
  have gX1 : w.heap.size ≤ w.heap.size + 1 := by omega
  have X0 := ((HB.newAt (b := w.heap.size) (by simp) _ _).alloc _).later b1
  have X1 := (HB.newAt (b := w.heap.size + 1) (by simp) _ _).later b1
  have oX0 := X0.o
  go_wp2_with fail
  refine vM (h1.out _ (ft.later (bC (bA (bA bR _) _) b1))) fun w2 b2 => ?_
  clear oX0
  replace X0 := X0.later b2
  have oX0 := X0.o
  go_wp2_with fail
  refine vM (h2.out _ (ft.later (bC (bC (bA (bA bR _) _) b1) b2))) fun w3 b3 => ?_
  clear oX0
  go_wp2_with fail
  refine vM (h3.out _ (ft.later (bA (bC (bC (bC (bA (bA bR _) _) b1) b2) b3) _))) fun w4 b4 => ?_
  replace X1 := X1.later (bC b2 b3)
  have nX1_X2 : w.heap.size + 1 < w3.heap.size := by have := X1.lt; omega
  have X2 := (HB.newAt (b := w3.heap.size) (by simp) _ _).later b4
  go_wp2_with fail
  replace X1 := X1.later (bC (bA bR _) b4)
  have nX1_X3 : w.heap.size + 1 < w4.heap.size := by have := X1.lt; omega
  refine vF1 fun w5 b5 X3 => ?_
  replace X1 := X1.later b5
  replace X2 := X2.later b5
  refine vR [w.heap.size + 1] fun w6 b6 S6 => ?_
  refine vT 0 S6 ?_ (hy := by intro wq hb; have q := (hb.hb X3 (by simp <;> omega)).o; go_simp; try (with_reducible rfl))
  refine vT 1 S6 ?_
  refine vT 2 S6 ?_
  refine vT 3 S6 ?_
  refine vT 4 S6 ?_ (hy := by intro wq hb; have q := (hb.hb X3 (by simp <;> omega)).o; go_simp; try (with_reducible rfl))
  refine vT 5 S6 ?_
  refine vT 6 S6 ?_
  refine vT 7 S6 ?_ (hy := by intro wq hb; have q := (hb.hb X3 (by simp <;> omega)).o; go_simp; try (with_reducible rfl))
  refine vT 8 S6 ?_ (hy := by intro wq hb; have q := (hb.hb X2 (by simp <;> omega)).o; go_simp; try (with_reducible rfl))
  refine vY1 (vC 9 S6 (h4.out _ (ft.later (bC (bC (bC (bC (bC (bC (bA (bA bR _) _) b1) b2) b3) (bC (bA bR _) b4)) b5) b6))) (fun _ _ => Off.later) fun w7 b7 S7 => ?_)
  refine vY1 (vC 10 S7 (h5.out _ (ft.later (bC (bC (bC (bC (bC (bC (bC (bA (bA bR _) _) b1) b2) b3) (bC (bA bR _) b4)) b5) b6) b7))) (fun _ _ => Off.later) fun w8 b8 S8 => ?_)
  refine vY1 (vO 11 fun K hK => ?_)
  replace X1 := X1.later (bC (bC b6 b7) b8)
  have oX1 := X1.o
  go_simp
  refine hK.out _ _ (Off.set (by simp) (Off.set (by simp) (Off.set (by simp) (Off.set (by simp) (Off.set (by simp) S8))))) fun S9 => ?_
  clear hK K
  refine vP ?_
  refine vD ?_
  go_wp2_with fail
  refine bodyPost_ret (v := .agg #[.bool ng, .int .u8 2, .int .i64 x, .int .u64 sh, .int .u64 sl]) ?_ rfl ⟨rfl, ((((((bC (bC (bC (bC (bC (bC (bC (bC (bA (bA bR _) _) b1) b2) b3) (bC (bA bR _) b4)) b5) b6) b7) b8).setCell (p := ⟨w.heap.size + 1, 0, none⟩) gX1 _).setCell (p := ⟨w.heap.size + 1, 1, none⟩) gX1 _).setCell (p := ⟨w.heap.size + 1, 2, none⟩) gX1 _).setCell (p := ⟨w.heap.size + 1, 3, none⟩) gX1 _).setCell (p := ⟨w.heap.size + 1, 4, none⟩) gX1 _)⟩
  simp [results, Tryz.results32, go_sem, oX1]
theorem fld_unpack_def (f bh bl ex th tl p em c : Int) (ng ng2 : Bool)
    (h0 : Hid (∀ w, FTab w → Ca 15 #[.int .u8 f] w (.bool true)))
    (h1 : Hid (∀ w, FTab w → Ca 14 #[.int .u8 f, U2 bh bl] w (.tuple #[.int .u8 c, .bool ng])))
    (h2 : Hid (∀ w, FTab w → Ca 45 #[.int .u8 f, U2 bh bl] w (.tuple #[.bool ng2, .int .i64 ex, U2 th tl])))
    (h3 : Hid (∀ w, FTab w → Ca 81 #[.int .u8 f, .agg #[.bool ng, .int .u8 c, .int .i64 0, .int .u64 0, .int .u64 0]] w (.agg #[.int .u8 f, .int .i64 p, .int .i64 em, .bool ng, .int .u8 c, .int .i64 0, .int .u64 0, .int .u64 0]))) (c1 : (c == 1) = false) (c2 : (c == 2) = false) (w : World) (ft : FTab w) :
    Ca 32 #[.int .u8 f, U2 bh bl] w (.agg #[.bool ng, .int .u8 c, .int .i64 0, .int .u64 0, .int .u64 0]) := by
  simp only [Ca, U2] at *
  go_enter Tryz.func32, Tryz.ntmps32
  go_wp2_with fail
  refine vM (h0.out _ (ft.later (bA (bA bR _) _))) fun w1 b1 => ?_
  have gX1 : w.heap.size ≤ w.heap.size + 1 := by omega
  have X0 := ((HB.newAt (b := w.heap.size) (by simp) _ _).alloc _).later b1
  have X1 := (HB.newAt (b := w.heap.size + 1) (by simp) _ _).later b1
  have oX0 := X0.o
  go_wp2_with fail
  refine vM (h1.out _ (ft.later (bC (bA (bA bR _) _) b1))) fun w2 b2 => ?_
  clear oX0
  replace X0 := X0.later b2
  have oX0 := X0.o
  go_wp2_with fail
  refine vM (h2.out _ (ft.later (bC (bC (bA (bA bR _) _) b1) b2))) fun w3 b3 => ?_
  clear oX0
  go_wp2_with fail
  refine vM (h3.out _ (ft.later (bA (bC (bC (bC (bA (bA bR _) _) b1) b2) b3) _))) fun w4 b4 => ?_
  replace X1 := X1.later (bC (bC b2 b3) (bC (bA bR _) b4))
  have oX1 := X1.o
  go_wp2_with fail
  refine bodyPost_ret (v := .agg #[.bool ng, .int .u8 c, .int .i64 0, .int .u64 0, .int .u64 0]) ?_ rfl ⟨rfl, (bA ((((((bC (bC (bC (bC (bA (bA bR _) _) b1) b2) b3) (bC (bA bR _) b4)).setCell (p := ⟨w.heap.size + 1, 0, none⟩) gX1 _).setCell (p := ⟨w.heap.size + 1, 1, none⟩) gX1 _).setCell (p := ⟨w.heap.size + 1, 2, none⟩) gX1 _).setCell (p := ⟨w.heap.size + 1, 3, none⟩) gX1 _).setCell (p := ⟨w.heap.size + 1, 4, none⟩) gX1 _) _)⟩
  simp [results, Tryz.results32, go_sem, oX1]
end Go.Proofs.YtjdjonekoodalaaGreatDoor
namespace Go.Proofs.YtjdjonekoodalaaGreatDoor
open Go.RowKit
attribute [local go_sem ↓] Go.wp_at_zero Go.wp_at_succ
def unitF (f e : Int) : Int := (if e < 1 - fE f then 1 - (fE f : Int) else e) - (fP f - 1 : Nat)
theorem leastF {f : Int} (h0 : 0 ≤ f) (h : f < 4) (w : World) (ft : FTab w) : Calls Tryz.prog 83 #[.agg #[.int .u8 f, .int .i64 (fP f), .int .i64 (fE f)]] w fun x w' => x = .returned (.int .i64 (1 - fE f)) ∧ Below w.heap.size w w' := by
  obtain ⟨p0, p1, p2, p3, p4, p5, p6, p7, p8⟩ := f_nums h0 h
  exact fld_least f _ _ _ (IntWalk.i64_in _ (by omega)) w
theorem unitN {f : Int} (h0 : 0 ≤ f) (h : f < 4) (e : Int) (e0 : -1000000 ≤ e) (e1 : e ≤ 1000000) (w : World) (ft : FTab w) : Calls Tryz.prog 127 #[.agg #[.int .u8 f, .int .i64 (fP f), .int .i64 (fE f)], .int .i64 e] w fun x w' => x = .returned (.int .i64 (unitF f e)) ∧ Below w.heap.size w w' := by
  obtain ⟨p0, p1, p2, p3, p4, p5, p6, p7, p8⟩ := f_nums h0 h
  obtain ⟨m, hm⟩ : ∃ m, (if e < 1 - fE f then 1 - (fE f : Int) else e) = m := ⟨_, rfl⟩
  have r : -1000000 ≤ m ∧ m ≤ 1000000 := by rw [← hm]; split <;> omega
  unfold unitF
  rw [hm]
  refine fld_unit f _ _ e (1 - fE f) m ((fP f - 1 : Nat) : Int) _ (lH (leastF h0 h)) (by rw [← hm]) hm (by rw [IntWalk.i64_in _ (by omega)]; omega) (by rw [IntWalk.i64_in _ (by omega)]) w ft
theorem leadF {f : Int} (h0 : 0 ≤ f) (h : f < 4) (b : Int) (w : World) (ft : FTab w) : Calls Tryz.prog 84 #[.agg #[.int .u8 f, .int .i64 (fP f), .int .i64 (fE f)], .agg #[.int .u64 (hiOf (b)), .int .u64 (loOf (b))]] w fun x w' => x = .returned (.agg #[.int .u64 (hiOf (b + 2 ^ (fP f - 1))), .int .u64 (loOf (b + 2 ^ (fP f - 1)))]) ∧ Below w.heap.size w w' := by
  obtain ⟨p0, p1, p2, p3, p4, p5, p6, p7, p8⟩ := f_nums h0 h
  have L := leftB 1 ((fP f - 1 : Nat) : Int) (by omega) (by omega)
  rw [Int.toNat_natCast, Int.one_mul] at L
  have A := addB (2 ^ (fP f - 1)) b
  rw [Int.add_comm (2 ^ (fP f - 1)) b] at A
  exact fld_lead f _ _ _ _ ((fP f - 1 : Nat) : Int) _ _ _ _ _ (lH L) (lH A) (by rw [IntWalk.i64_in _ (by omega)]; omega) w
theorem inF {f : Int} (h0 : 0 ≤ f) (h : f < 4) (g : Bool) (c e sh sl : Int) (w : World) (ft : FTab w) : Calls Tryz.prog 81 #[.int .u8 f, .agg #[.bool g, .int .u8 c, .int .i64 e, .int .u64 sh, .int .u64 sl]] w fun x w' => x = .returned (.agg #[.int .u8 f, .int .i64 (fP f), .int .i64 (fE f), .bool g, .int .u8 c, .int .i64 e, .int .u64 sh, .int .u64 sl]) ∧ Below w.heap.size w w' :=
  fld_in f c e sh sl _ _ g (lH (formOK.prec f h0 (by omega))) (lH (formOK.emax f h0 (by omega))) w ft
theorem unF {f : Int} (h0 : 0 ≤ f) (h : f < 4) (g : Bool) (c x0 a b e m : Int) (e0 : -1000000 ≤ e) (e1 : e ≤ 1000000) (m0 : 0 < m) (m1 : m < full) (w : World) (ft : FTab w) : Calls Tryz.prog 82 #[.agg #[.int .u8 f, .int .i64 (fP f), .int .i64 (fE f), .bool g, .int .u8 c, .int .i64 x0, .int .u64 a, .int .u64 b], .int .i64 e, .agg #[.int .u64 (hiOf (m)), .int .u64 (loOf (m))]] w fun x w' => x = .returned (.agg #[.bool g, .int .u8 c, .int .i64 (unitF f e + blen m - 1), .int .u64 (hiOf (m * 2 ^ (128 - blen m))), .int .u64 (loOf (m * 2 ^ (128 - blen m)))]) ∧ Below w.heap.size w w' := by
  obtain ⟨p0, p1, p2, p3, p4, p5, p6, p7, p8⟩ := f_nums h0 h
  have R := raiseB m
  rw [Int.emod_eq_of_lt (by omega) m1, show upN 128 m = 128 - blen m by unfold upN; rw [if_neg (by omega)]] at R
  have lb : blen m ≤ 128 := blen_le (by omega) (by rw [full_pow]; exact m1)
  have ub : -2000000 ≤ unitF f e ∧ unitF f e ≤ 2000000 := by unfold unitF; split <;> omega
  exact fld_un f _ _ c x0 a b e _ _ _ _ _ _ (unitF f e + 127) _ g (lH R) (lH (unitN h0 h e e0 e1)) (IntWalk.i64_in _ (by omega)) (by have := IntWalk.i64_in (unitF f e + 127) (by omega); simpa [RowKit.wrap64, IntKind.wrap_i64] using this) (by rw [IntWalk.i64_in _ (by omega)]; omega) w ft
theorem unpackN (f b : Int) (f0 : 0 ≤ f) (f1 : f ≤ 255) (w : World) (ft : FTab w) : Calls Tryz.prog 32 #[.int .u8 f, .agg #[.int .u64 (hiOf (b)), .int .u64 (loOf (b))]] w fun x w' => x = .returned (.agg #[.bool (negF f (b % full)), .int .u8 (clsF f (b % full)), .int .i64 (uE f (b % full)), .int .u64 (hiOf (uS f (b % full))), .int .u64 (loOf (uS f (b % full)))]) ∧ Below w.heap.size w w' := by
  have K := formOK.known f f0 f1
  by_cases h : f < 4
  · rw [show decide (f < 4) = true by simp [h]] at K
    obtain ⟨p0, p1, p2, p3, p4, p5, p6, p7, p8⟩ := f_nums f0 h
    have O := of_cls f b f0 f1
    have X := formOK.split f b f0 f1
    obtain ⟨b0, b1⟩ := mod_f b
    generalize b % full = B at *
    obtain ⟨x0, x1, x2, x3⟩ := exp_range f0 h b0
    obtain ⟨r0, r1⟩ := frac_range (b := B) f0 h
    have fl := fW_full f
    have pl : (2 : Int) ^ fP f ≤ 2 ^ fW f := two_pow_le (by omega)
    have pt := pow_top (n := fP f) (by omega)
    have hp := two_pow_pos (fP f - 1)
    by_cases c1 : clsF f B = 1
    · obtain ⟨e0, fr, l1, l2, ue, us⟩ := un_sub f0 h c1
      rw [c1] at O ⊢
      have U := unF f0 h (negF f B) 1 0 0 0 (1 - fE f) (fracF f B) (by omega) (by omega) fr (by omega)
      have eu : unitF f (1 - fE f) + blen (fracF f B) - 1 = uE f B := by rw [ue]; unfold unitF; split <;> omega
      rw [eu, ← us] at U
      exact fld_unpack_sub f _ _ _ _ _ _ _ _ _ _ _ (negF f B) _ (lH K) (lH O) (lH X) (lH (inF f0 h (negF f B) 1 0 0 0)) (lH (leastF f0 h)) (lH U) w ft
    · by_cases c2 : clsF f B = 2
      · obtain ⟨e1, e2, ue, us⟩ := un_nor f0 h b0 c2
        rw [c2] at O ⊢
        have l : blen (fracF f B + 2 ^ (fP f - 1)) = fP f := by
          rw [show fP f = (fP f - 1) + 1 by omega]
          refine blen_of ?_ ?_
          · rw [show fP f - 1 + 1 - 1 = fP f - 1 by omega]; omega
          · rw [show fP f - 1 + 1 - 1 = fP f - 1 by omega, Int.pow_succ]; omega
        have U := unF f0 h (negF f B) 2 0 0 0 (expF f B - fE f) (fracF f B + 2 ^ (fP f - 1)) (by omega) (by omega) (by omega) (by omega)
        have eu : unitF f (expF f B - fE f) + blen (fracF f B + 2 ^ (fP f - 1)) - 1 = uE f B := by rw [ue, l]; unfold unitF; split <;> omega
        rw [eu, l, ← us] at U
        exact fld_unpack_nor f _ _ _ _ _ _ _ _ _ (expF f B - fE f) _ _ _ (negF f B) _ (lH K) (lH O) (lH X) (lH (inF f0 h (negF f B) 2 0 0 0)) (lH (leadF f0 h (fracF f B))) (lH U) (IntWalk.i64_in _ (by omega)) w ft
      · obtain ⟨u1, u2⟩ := u_none (f := f) (b := B) (by omega)
        rw [u1, u2, hl_zero.1, hl_zero.2]
        exact fld_unpack_def f _ _ _ _ _ _ _ (clsF f B) (negF f B) _ (lH K) (lH O) (lH X) (lH (inF f0 h (negF f B) _ 0 0 0)) (by simp [c1]) (by simp [c2]) w ft
  · rw [show decide (f < 4) = false by simp [h]] at K
    have z := cls_no h (b % full)
    obtain ⟨u1, u2⟩ := u_none (f := f) (b := b % full) (by omega)
    rw [z, u1, u2, show negF f (b % full) = false by unfold negF; simp [h], hl_zero.1, hl_zero.2]
    exact fld_unpack_no f _ _ (lH K) w ft
theorem unpackA (f b : Int) (f0 : 0 ≤ f) (f1 : f ≤ 255) (b0 : 0 ≤ b) (b1 : b < full) (w : World) (ft : FTab w) : Calls Tryz.prog 32 #[.int .u8 f, .agg #[.int .u64 (hiOf (b)), .int .u64 (loOf (b))]] w fun e w' => e = .returned (.agg #[.bool (negF f (b)), .int .u8 (clsF f (b)), .int .i64 (uE f (b)), .int .u64 (hiOf (uS f (b))), .int .u64 (loOf (uS f (b)))]) ∧ Below w.heap.size w w' := by
  have h := unpackN f b f0 f1 w ft
  rw [Int.emod_eq_of_lt b0 b1] at h
  exact h
end Go.Proofs.YtjdjonekoodalaaGreatDoor
