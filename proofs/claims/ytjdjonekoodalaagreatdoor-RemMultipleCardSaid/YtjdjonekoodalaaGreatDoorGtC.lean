import Derived.Test.YtjdjonekoodalaaGreatDoorGpA
set_option maxHeartbeats 4000000
set_option linter.unusedVariables false
set_option linter.unusedSimpArgs false
set_option maxRecDepth 100000
namespace Go.Proofs.YtjdjonekoodalaaGreatDoor
open Go.RowKit
attribute [local go_sem ↓] Go.wp_at_zero Go.wp_at_succ
theorem pk_level (f p em ex l mm : Int)
     (w1 : IntKind.i64.wrap (1 - em) = l) (x1 : (if l > ex then l else ex) = mm) (x1' : (if ex < l then l else ex) = mm) (w : World) :
    Ca 153 #[.agg #[.int .u8 f, .int .i64 p, .int .i64 em], .int .i64 ex] w (.int .i64 mm) := by
  simp only [Ca] at *
  go_enter Tryz.func153, Tryz.ntmps153
  go_wp2_with fail
  go_ret
  exact ⟨rfl, (bA bR _)⟩
theorem pk_carried_yes (f p em ex ey uh ul : Int)
    (h0 : Hid (∀ w, Ca 103 #[U2 uh ul, .int .i64 p] w (.bool true))) (w1 : IntKind.i64.wrap (ex + 1) = ey) (w1x : wrap64 (ex + 1) = ey) (w : World) :
    Ca 149 #[.agg #[.int .u8 f, .int .i64 p, .int .i64 em], .int .i64 ex, U2 uh ul] w (.int .i64 ey) := by
  simp only [Ca, U2] at *
  go_enter Tryz.func149, Tryz.ntmps149
  go_wp2_with fail
  refine vM (h0.out _) fun w1 b1 => ?_
  go_wp2_with fail
  go_ret
  exact ⟨rfl, (bC (bA (bA bR _) _) b1)⟩
theorem pk_carried_no (f p em ex uh ul : Int)
    (h0 : Hid (∀ w, Ca 103 #[U2 uh ul, .int .i64 p] w (.bool false))) (w : World) :
    Ca 149 #[.agg #[.int .u8 f, .int .i64 p, .int .i64 em], .int .i64 ex, U2 uh ul] w (.int .i64 ex) := by
  simp only [Ca, U2] at *
  go_enter Tryz.func149, Tryz.ntmps149
  go_wp2_with fail
  refine vM (h0.out _) fun w1 b1 => ?_
  go_wp2_with fail
  go_ret
  exact ⟨rfl, (bC (bA (bA bR _) _) b1)⟩
theorem pk_beyond (f p em ex : Int) (b : Bool)
    (h0 : Hid (∀ w, FTab w → Ca 183 #[.int .u8 f, .int .i64 ex] w (.bool b))) (w : World) (ft : FTab w) :
    Ca 150 #[.agg #[.int .u8 f, .int .i64 p, .int .i64 em], .int .i64 ex] w (.bool b) := by
  simp only [Ca] at *
  go_enter Tryz.func150, Tryz.ntmps150
  go_wp2_with fail
  refine vM (h0.out _ (ft.later (bA bR _))) fun w1 b1 => ?_
  go_wp2_with fail
  go_ret
  exact ⟨rfl, (bC (bA bR _) b1)⟩
theorem pk_tiny (f p em ex : Int) (b : Bool)
    (h0 : Hid (∀ w, FTab w → Ca 207 #[.int .u8 f, .int .i64 ex] w (.bool b))) (w : World) (ft : FTab w) :
    Ca 187 #[.agg #[.int .u8 f, .int .i64 p, .int .i64 em], .int .i64 ex] w (.bool b) := by
  simp only [Ca] at *
  go_enter Tryz.func187, Tryz.ntmps187
  go_wp2_with fail
  refine vM (h0.out _ (ft.later (bA bR _))) fun w1 b1 => ?_
  go_wp2_with fail
  go_ret
  exact ⟨rfl, (bC (bA bR _) b1)⟩
def RoundIn (w : World) (k m : Int) (ng : Bool) (vp : Nat × Nat × Nat) : Prop := w.cell? ⟨vp.1, 0, none⟩ = some (.int .i64 k) ∧ w.cell? ⟨vp.2.1, 0, none⟩ = some (.int .u8 m) ∧ w.cell? ⟨vp.2.2, 0, none⟩ = some (.bool ng)
theorem RoundIn.later {w w' : World} {k m : Int} {ng : Bool} {vp : Nat × Nat × Nat} (h : RoundIn w k m ng vp) (hb : Below w.heap.size w w') : RoundIn w' k m ng vp := ⟨cL hb h.1, cL hb h.2.1, cL hb h.2.2⟩
theorem pk_rounder (k m : Int) (ng : Bool) (w : World) : Calls Tryz.prog 148 #[.int .i64 k, .int .u8 m, .bool ng] w fun e w' => ∃ vp, e = .returned (.func (.func 181) #[] #[.pointer (some ⟨vp.1, 0, none⟩), .pointer (some ⟨vp.2.1, 0, none⟩), .pointer (some ⟨vp.2.2, 0, none⟩)]) ∧ RoundIn w' k m ng vp ∧ Below w.heap.size w w' := by
  have hmf : ∀ (fn : Fn) (first cap : Array Value) (w : World), (Instr.makeFunc fn first cap).run Tryz.prog w = .ok (.func fn first cap) w := fun _ _ _ _ => rfl
  have KEY : Hid ((((w.alloc (.cells #[.int .i64 k] 3)).alloc (.cells #[.int .u8 m] 37)).alloc (.cells #[.bool ng] 4)).cell? ⟨w.heap.size, 0, none⟩ = some (.int .i64 k) ∧ (((w.alloc (.cells #[.int .i64 k] 3)).alloc (.cells #[.int .u8 m] 37)).alloc (.cells #[.bool ng] 4)).cell? ⟨w.heap.size + 1, 0, none⟩ = some (.int .u8 m) ∧ (((w.alloc (.cells #[.int .i64 k] 3)).alloc (.cells #[.int .u8 m] 37)).alloc (.cells #[.bool ng] 4)).cell? ⟨w.heap.size + 1 + 1, 0, none⟩ = some (.bool ng) ∧ Below w.heap.size w (((w.alloc (.cells #[.int .i64 k] 3)).alloc (.cells #[.int .u8 m] 37)).alloc (.cells #[.bool ng] 4))) :=
    lH ⟨by go_simp, by go_simp, by go_simp, bA (bA (bA bR _) _) _⟩
  go_enter Tryz.func148, Tryz.ntmps148
  go_wp2_with fail
  obtain ⟨e0, e1, e2, kb⟩ := KEY.out
  clear KEY
  go_ret
  exact ⟨(w.heap.size, w.heap.size + 1, w.heap.size + 1 + 1), rfl, ⟨e0, e1, e2⟩, kb⟩
theorem pk_cut_core (bk bm bn : Nat) (k m uh ul x0 x1 x2 x3 : Int) (ng i : Bool)
    (h0 : Hid (∀ w, Ca 182 #[U4 x0 x1 x2 x3, .int .i64 k, .int .u8 m, .bool ng] w (.tuple #[U2 uh ul, .bool i]))) (w : World) (cX0_0 : w.cell? ⟨bk, 0, none⟩ = some (.int .i64 k)) (cX1_0 : w.cell? ⟨bm, 0, none⟩ = some (.int .u8 m)) (cX2_0 : w.cell? ⟨bn, 0, none⟩ = some (.bool ng)) :
    Ca 181 #[U4 x0 x1 x2 x3, .pointer (some ⟨bk, 0, none⟩), .pointer (some ⟨bm, 0, none⟩), .pointer (some ⟨bn, 0, none⟩)] w (.tuple #[U2 uh ul, .bool i]) := by
  simp only [Ca, U2, U4] at *
  go_enter Tryz.func181, Tryz.ntmps181
  have oX0 : bk < w.heap.size := bL cX0_0
  have oX1 : bm < w.heap.size := bL cX1_0
  have oX2 : bn < w.heap.size := bL cX2_0
  go_wp2_with fail
  refine vM (h0.out _) fun w1 b1 => ?_
  have gX4 : w.heap.size ≤ w.heap.size + 1 := by omega
  have X4 := (HB.newAt (b := w.heap.size + 1) (by simp) _ _).later b1
  clear oX0 oX1 oX2
  have oX4 := X4.o
  go_wp2_with fail
  refine bodyPost_ret (v := .tuple #[.agg #[.int .u64 uh, .int .u64 ul], .bool i]) ?_ rfl ⟨rfl, (((bC (bA (bA bR _) _) b1).setCell (p := ⟨w.heap.size + 1, 0, none⟩) gX4 _).setCell (p := ⟨w.heap.size + 1, 1, none⟩) gX4 _)⟩
  simp [results, Tryz.results181, go_sem, oX4]
theorem pk_numberIn (f p em ex a b by0 c x0 x1 x2 x3 y0 y1 y2 y3 : Int) (ng : Bool)
    (h0 : Hid (∀ w, Ca 147 #[U4 x0 x1 x2 x3] w (.tuple #[U4 y0 y1 y2 y3, .int .i64 by0])))
    (h1 : Hid (∀ w, FTab w → Ca 105 #[.int .u8 f] w (.int .i64 p)))
    (h2 : Hid (∀ w, FTab w → Ca 26 #[.int .u8 f] w (.int .i64 em))) (q1 : (if (-1099511627776) > ex then (-1099511627776) else ex) = a) (q1' : (if ex < (-1099511627776) then (-1099511627776) else ex) = a) (q2 : (if 1099511627776 < a then 1099511627776 else a) = b) (q2' : (if a > 1099511627776 then 1099511627776 else a) = b) (w1 : IntKind.i64.wrap (b - by0) = c) (w : World) (ft : FTab w) :
    Ca 112 #[.int .u8 f, .bool ng, .int .i64 ex, U4 x0 x1 x2 x3] w (.agg #[.int .u8 f, .int .i64 p, .int .i64 em, .bool ng, .int .i64 c, .int .u64 y0, .int .u64 y1, .int .u64 y2, .int .u64 y3]) := by
  simp only [Ca, U4] at *
  go_enter Tryz.func112, Tryz.ntmps112
  go_wp2_with fail
  refine vM (h0.out _) fun w1 b1 => ?_
  have gX1 : w.heap.size ≤ w.heap.size + 1 := by omega
  have X1 := (HB.newAt (b := w.heap.size + 1) (by simp) _ _).later b1
  go_wp2_with fail
  have nX1_X2 : w.heap.size + 1 < w1.heap.size := by have := X1.lt; omega
  refine vF1 fun w2 b2 X2 => ?_
  replace X1 := X1.later b2
  refine vR [w.heap.size + 1] fun w3 b3 S3 => ?_
  refine vT 0 S3 ?_
  refine vT 1 S3 ?_
  refine vT 3 S3 ?_
  refine vT 6 S3 ?_
  refine vT 7 S3 ?_
  refine vT 8 S3 ?_ (hy := by intro wq hb; have q := (hb.hb X2 (by simp <;> omega)).o; go_simp; try (with_reducible rfl))
  refine vY1 (vC 2 S3 (h1.out _ (ft.later (bC (bC (bC (bA (bA bR _) _) b1) b2) b3))) (fun _ _ => Off.later) fun w4 b4 S4 => ?_)
  refine vY1 (vC 4 S4 (h2.out _ (ft.later (bC (bC (bC (bC (bA (bA bR _) _) b1) b2) b3) b4))) (fun _ _ => Off.later) fun w5 b5 S5 => ?_)
  refine vT 5 S5 ?_
  refine vT 9 S5 ?_
  refine vY1 (vO 10 fun K hK => ?_)
  replace X1 := X1.later (bC (bC b3 b4) b5)
  have oX1 := X1.o
  go_simp
  refine hK.out _ _ (Off.set (by simp) (Off.set (by simp) (Off.set (by simp) (Off.set (by simp) (Off.set (by simp) (Off.set (by simp) (Off.set (by simp) (Off.set (by simp) (Off.set (by simp) S5))))))))) fun S6 => ?_
  clear hK K
  refine vP ?_
  refine vD ?_
  go_wp2_with fail
  refine bodyPost_ret (v := .agg #[.int .u8 f, .int .i64 p, .int .i64 em, .bool ng, .int .i64 c, .int .u64 y0, .int .u64 y1, .int .u64 y2, .int .u64 y3]) ?_ rfl ⟨rfl, ((((((((((bC (bC (bC (bC (bC (bA (bA bR _) _) b1) b2) b3) b4) b5).setCell (p := ⟨w.heap.size + 1, 0, none⟩) gX1 _).setCell (p := ⟨w.heap.size + 1, 1, none⟩) gX1 _).setCell (p := ⟨w.heap.size + 1, 2, none⟩) gX1 _).setCell (p := ⟨w.heap.size + 1, 3, none⟩) gX1 _).setCell (p := ⟨w.heap.size + 1, 4, none⟩) gX1 _).setCell (p := ⟨w.heap.size + 1, 5, none⟩) gX1 _).setCell (p := ⟨w.heap.size + 1, 6, none⟩) gX1 _).setCell (p := ⟨w.heap.size + 1, 7, none⟩) gX1 _).setCell (p := ⟨w.heap.size + 1, 8, none⟩) gX1 _)⟩
  simp [results, Tryz.results112, go_sem, oX1]
theorem pk_round_over (f p em ex m uh ul af rh rl fl x0 x1 x2 x3 : Int) (ng t i0 : Bool)
    (h2 : Hid (∀ w, FTab w → Ca 149 #[.agg #[.int .u8 f, .int .i64 p, .int .i64 em], .int .i64 ex, U2 uh ul] w (.int .i64 af)))
    (h3 : Hid (∀ w, FTab w → Ca 150 #[.agg #[.int .u8 f, .int .i64 p, .int .i64 em], .int .i64 af] w (.bool true)))
    (h4 : Hid (∀ w, FTab w → Ca 151 #[.int .u8 f, .int .u8 m, .bool ng] w (.agg #[.int .u64 rh, .int .u64 rl, .int .u8 fl]))) (RN : Hid (∀ w, Calls Tryz.prog 148 #[.int .i64 p, .int .u8 m, .bool ng] w fun e w' => ∃ vp, e = .returned (.func (.func 181) #[] #[.pointer (some ⟨vp.1, 0, none⟩), .pointer (some ⟨vp.2.1, 0, none⟩), .pointer (some ⟨vp.2.2, 0, none⟩)]) ∧ RoundIn w' p m ng vp ∧ Below w.heap.size w w')) (CU : Hid (∀ vp w, RoundIn w p m ng vp → Ca 181 #[U4 x0 x1 x2 x3, .pointer (some ⟨vp.1, 0, none⟩), .pointer (some ⟨vp.2.1, 0, none⟩), .pointer (some ⟨vp.2.2, 0, none⟩)] w (.tuple #[U2 uh ul, .bool i0]))) (w : World) (ft : FTab w) :
    Ca 113 #[.agg #[.int .u8 f, .int .i64 p, .int .i64 em, .bool ng, .int .i64 ex, .int .u64 x0, .int .u64 x1, .int .u64 x2, .int .u64 x3], .agg #[.int .u8 m, .bool t]] w (.agg #[.int .u64 rh, .int .u64 rl, .int .u8 fl]) := by
  simp only [Ca, U2, U4] at *
  go_enter Tryz.func113, Tryz.ntmps113
  go_wp2_with fail
  refine vE (RN.out _) fun vp w1 nvp b1 => ?_
  have gX2 : w.heap.size ≤ w.heap.size + 1 + 1 := by omega
  have X0 := (((HB.newAt (b := w.heap.size) (by simp) _ _).alloc _).alloc _).later b1
  have X1 := ((HB.newAt (b := w.heap.size + 1) (by simp) _ _).alloc _).later b1
  have X2 := (HB.newAt (b := w.heap.size + 1 + 1) (by simp) _ _).later b1
  have oX0 := X0.o
  go_wp2_with fail
  refine vM (CU.out _ _ nvp) fun w2 b2 => ?_
  clear oX0
  clear nvp
  replace X0 := X0.later b2
  have oX0 := X0.o
  go_wp2_with fail
  refine vM (h2.out _ (ft.later (bA (bC (bC (bA (bA (bA bR _) _) _) b1) b2) _))) fun w3 b3 => ?_
  clear oX0
  replace X0 := X0.later (bC (bA bR _) b3)
  have oX0 := X0.o
  go_wp2_with fail
  refine vM (h3.out _ (ft.later (bC (bC (bC (bA (bA (bA bR _) _) _) b1) b2) (bC (bA bR _) b3)))) fun w4 b4 => ?_
  clear oX0
  replace X0 := X0.later b4
  have oX0 := X0.o
  replace X1 := X1.later (bC (bC b2 (bC (bA bR _) b3)) b4)
  have oX1 := X1.o
  go_wp2_with fail
  refine vM (h4.out _ (ft.later (bC (bC (bC (bC (bA (bA (bA bR _) _) _) b1) b2) (bC (bA bR _) b3)) b4))) fun w5 b5 => ?_
  clear oX0 oX1
  replace X2 := X2.later (bC (bC (bC b2 (bC (bA bR _) b3)) b4) b5)
  have oX2 := X2.o
  go_wp2_with fail
  refine bodyPost_ret (v := .agg #[.int .u64 rh, .int .u64 rl, .int .u8 fl]) ?_ rfl ⟨rfl, ((((bC (bC (bC (bC (bC (bA (bA (bA bR _) _) _) b1) b2) (bC (bA bR _) b3)) b4) b5).setCell (p := ⟨w.heap.size + 1 + 1, 0, none⟩) gX2 _).setCell (p := ⟨w.heap.size + 1 + 1, 1, none⟩) gX2 _).setCell (p := ⟨w.heap.size + 1 + 1, 2, none⟩) gX2 _)⟩
  simp [results, Tryz.results113, go_sem, oX2]
theorem pk_round_exact (f p em ex m uh ul af l d nh nl rh rl x0 x1 x2 x3 j0 j1 j2 j3 : Int) (ng t i0 : Bool)
    (h2 : Hid (∀ w, FTab w → Ca 149 #[.agg #[.int .u8 f, .int .i64 p, .int .i64 em], .int .i64 ex, U2 uh ul] w (.int .i64 af)))
    (h3 : Hid (∀ w, FTab w → Ca 150 #[.agg #[.int .u8 f, .int .i64 p, .int .i64 em], .int .i64 af] w (.bool false)))
    (h4 : Hid (∀ w, FTab w → Ca 153 #[.agg #[.int .u8 f, .int .i64 p, .int .i64 em], .int .i64 ex] w (.int .i64 l)))
    (h5 : Hid (∀ w, Ca 152 #[U4 x0 x1 x2 x3, .int .i64 d] w (U4 j0 j1 j2 j3)))
    (h7 : Hid (∀ w, FTab w → Ca 154 #[.agg #[.int .u8 f, .int .i64 p, .int .i64 em, .bool ng, .int .i64 ex, .int .u64 x0, .int .u64 x1, .int .u64 x2, .int .u64 x3], U2 nh nl] w (U2 rh rl))) (RN : Hid (∀ w, Calls Tryz.prog 148 #[.int .i64 p, .int .u8 m, .bool ng] w fun e w' => ∃ vp, e = .returned (.func (.func 181) #[] #[.pointer (some ⟨vp.1, 0, none⟩), .pointer (some ⟨vp.2.1, 0, none⟩), .pointer (some ⟨vp.2.2, 0, none⟩)]) ∧ RoundIn w' p m ng vp ∧ Below w.heap.size w w')) (CU : Hid (∀ vp w, RoundIn w p m ng vp → Ca 181 #[U4 x0 x1 x2 x3, .pointer (some ⟨vp.1, 0, none⟩), .pointer (some ⟨vp.2.1, 0, none⟩), .pointer (some ⟨vp.2.2, 0, none⟩)] w (.tuple #[U2 uh ul, .bool i0]))) (CN : Hid (∀ vp w, RoundIn w p m ng vp → Ca 181 #[U4 j0 j1 j2 j3, .pointer (some ⟨vp.1, 0, none⟩), .pointer (some ⟨vp.2.1, 0, none⟩), .pointer (some ⟨vp.2.2, 0, none⟩)] w (.tuple #[U2 nh nl, .bool false]))) (w1 : IntKind.i64.wrap (l - ex) = d) (w : World) (ft : FTab w) :
    Ca 113 #[.agg #[.int .u8 f, .int .i64 p, .int .i64 em, .bool ng, .int .i64 ex, .int .u64 x0, .int .u64 x1, .int .u64 x2, .int .u64 x3], .agg #[.int .u8 m, .bool t]] w (.agg #[.int .u64 rh, .int .u64 rl, .int .u8 0]) := by
  simp only [Ca, U2, U4] at *
  go_enter Tryz.func113, Tryz.ntmps113
  go_wp2_with fail
  refine vE (RN.out _) fun vp w1 nvp b1 => ?_
  have gX2 : w.heap.size ≤ w.heap.size + 1 + 1 := by omega
  have X0 := (((HB.newAt (b := w.heap.size) (by simp) _ _).alloc _).alloc _).later b1
  have X2 := (HB.newAt (b := w.heap.size + 1 + 1) (by simp) _ _).later b1
  have oX0 := X0.o
  go_wp2_with fail
  refine vM (CU.out _ _ nvp) fun w2 b2 => ?_
  clear oX0
  replace X0 := X0.later b2
  have oX0 := X0.o
  go_wp2_with fail
  refine vM (h2.out _ (ft.later (bA (bC (bC (bA (bA (bA bR _) _) _) b1) b2) _))) fun w3 b3 => ?_
  clear oX0
  replace X0 := X0.later (bC (bA bR _) b3)
  have oX0 := X0.o
  go_wp2_with fail
  refine vM (h3.out _ (ft.later (bC (bC (bC (bA (bA (bA bR _) _) _) b1) b2) (bC (bA bR _) b3)))) fun w4 b4 => ?_
  clear oX0
  go_wp2_with fail
  replace X0 := X0.later b4
  refine vR [] fun w5 b5 S5 => ?_
  refine vT 0 S5 ?_
  refine vT 1 S5 ?_
  refine vT 2 S5 ?_ (hy := by intro wq hb; have q := (hb.hb X0 (by simp)).o; go_simp; try (with_reducible rfl))
  refine vT 3 S5 ?_
  refine vT 4 S5 ?_ (hy := by intro wq hb; have q := (hb.hb X0 (by simp)).o; go_simp; try (with_reducible rfl))
  refine vT 5 S5 ?_
  refine vT 6 S5 ?_ (hy := by intro wq hb; have q := (hb.hb X0 (by simp)).o; go_simp; try (with_reducible rfl))
  refine vT 8 S5 ?_
  refine vT 9 S5 ?_ (hy := by intro wq hb; have q := (hb.hb X0 (by simp)).o; go_simp; try (with_reducible rfl))
  replace X0 := X0.later b5
  replace X2 := X2.later (bC (bC (bC b2 (bC (bA bR _) b3)) b4) b5)
  refine vY2 (vC 7 S5 (h4.out _ (ft.later (bC (bC (bC (bC (bC (bA (bA (bA bR _) _) _) b1) b2) (bC (bA bR _) b3)) b4) b5))) (fun _ _ => Off.later) fun w6 b6 S6 => ?_) (vA 16 S5 (fun _ _ => Off.later) fun w7 pp4_0 hX4 X4 b7 S7 => ?_)
  refine vT 10 S6 ?_
  replace X0 := X0.later b6
  replace X2 := X2.later b6
  refine vY2 (vC 11 S6 (h5.out _) (fun _ _ => Off.later) fun w8 b8 S8 => ?_) (vA 16 S6 (fun _ _ => Off.later) fun w9 pp4_0 hX4 X4 b9 S9 => ?_)
  replace nvp := nvp.later (bC (bC (bC (bC (bC b2 (bC (bA bR _) b3)) b4) b5) b6) b8)
  replace X0 := X0.later b8
  replace X2 := X2.later b8
  refine vY2 (vC 12 S8 (CN.out _ _ nvp) (fun _ _ => Off.later) fun w10 b10 S10 => ?_) (vA 16 S8 (fun _ _ => Off.later) fun w11 pp4_0 hX4 X4 b11 S11 => ?_)
  clear nvp
  refine vT 13 S10 ?_
  refine vT 14 S10 ?_
  refine vT 15 S10 ?_
  replace X0 := X0.later b10
  replace X2 := X2.later b10
  refine vY1 (vA 16 S10 (fun _ _ => Off.later) fun w12 pp4_0 hX4 X4 b12 S12 => ?_)
  have nX0_X4 : w.heap.size < pp4_0 := by have := X0.lt; omega
  have nX2_X4 : w.heap.size + 1 + 1 < pp4_0 := by have := X2.lt; omega
  have gX4 : w.heap.size ≤ pp4_0 := by have := (bC (bC (bC (bC (bC (bC (bC (bC (bA (bA (bA bR _) _) _) b1) b2) (bC (bA bR _) b3)) b4) b5) b6) b8) b10).size; omega
  have jX4 : w4.heap.size ≤ pp4_0 := by have := (bC (bC (bC b5 b6) b8) b10).size; omega
  refine vY1 (vO 17 fun K hK => ?_)
  replace X0 := X0.later b12
  replace X2 := X2.later b12
  have q := X4.o
  have mX0 : ¬ (w.heap.size = pp4_0) := by omega
  have mX2 : ¬ (w.heap.size + 1 + 1 = pp4_0) := by omega
  go_simp
  refine vW (fun W => HB W w.heap.size 149 #[.int .u8 f, .int .i64 p, .int .i64 em, .bool ng, .int .i64 ex, .int .u64 x0, .int .u64 x1, .int .u64 x2, .int .u64 x3] ∧ HB W (w.heap.size + 1 + 1) 30 #[.int .u64 0, .int .u64 0, .int .u8 0] ∧ HB W pp4_0 25 #[.int .u64 nh, .int .u64 nl] ∧ Below w.heap.size w W ∧ Off [] w4 W) ⟨((X0.other mX0 0 _).other mX0 1 _), ((X2.other mX2 0 _).other mX2 1 _), ((X4.set 0 _).set 1 _), (((bC (bC (bC (bC (bC (bC (bC (bC (bC (bA (bA (bA bR _) _) _) b1) b2) (bC (bA bR _) b3)) b4) b5) b6) b8) b10) b12).setCell (p := ⟨pp4_0, 0, none⟩) gX4 _).setCell (p := ⟨pp4_0, 1, none⟩) gX4 _), (Off.far jX4 (Off.far jX4 S12))⟩ (fun w13 hz => ?_)
  clear q mX0 mX2 X0 X2 X4
  obtain ⟨X0, X2, X4, kk, hS⟩ := hz
  refine hK.out _ _ hS fun S13 => ?_
  clear hK K hS
  refine vP ?_
  refine vT 18 S13 ?_
  refine vD ?_
  clear S13 jX4 S12 b12 hX4 w12 S10 b10 w10 S8 b8 w8 S6 b6 w6
  revert kk; revert nX2_X4; revert nX0_X4; revert gX4; revert X4; revert X2; revert X0; revert pp4_0; revert w13
  refine ?rest5
  rotate_left
  have nX0_X4 : w.heap.size < pp4_0 := by have := X0.lt; omega
  have nX2_X4 : w.heap.size + 1 + 1 < pp4_0 := by have := X2.lt; omega
  have gX4 : w.heap.size ≤ pp4_0 := by have := (bC (bC (bC (bC (bC (bC (bC (bA (bA (bA bR _) _) _) b1) b2) (bC (bA bR _) b3)) b4) b5) b6) b8).size; omega
  have jX4 : w4.heap.size ≤ pp4_0 := by have := (bC (bC b5 b6) b8).size; omega
  replace nvp := nvp.later b11
  refine vY1 (vC 12 S11 (CN.out _ _ nvp) (fun _ _ => Off.later) fun w14 b14 S14 => ?_)
  clear nvp
  refine vT 13 S14 ?_
  refine vT 14 S14 ?_
  refine vT 15 S14 ?_
  refine vY1 (vO 17 fun K hK => ?_)
  replace X0 := X0.later (bC b11 b14)
  replace X2 := X2.later (bC b11 b14)
  replace X4 := X4.later b14
  have q := X4.o
  have mX0 : ¬ (w.heap.size = pp4_0) := by omega
  have mX2 : ¬ (w.heap.size + 1 + 1 = pp4_0) := by omega
  go_simp
  refine vW (fun W => HB W w.heap.size 149 #[.int .u8 f, .int .i64 p, .int .i64 em, .bool ng, .int .i64 ex, .int .u64 x0, .int .u64 x1, .int .u64 x2, .int .u64 x3] ∧ HB W (w.heap.size + 1 + 1) 30 #[.int .u64 0, .int .u64 0, .int .u8 0] ∧ HB W pp4_0 25 #[.int .u64 nh, .int .u64 nl] ∧ Below w.heap.size w W ∧ Off [] w4 W) ⟨((X0.other mX0 0 _).other mX0 1 _), ((X2.other mX2 0 _).other mX2 1 _), ((X4.set 0 _).set 1 _), (((bC (bC (bC (bC (bC (bC (bC (bC (bC (bA (bA (bA bR _) _) _) b1) b2) (bC (bA bR _) b3)) b4) b5) b6) b8) b11) b14).setCell (p := ⟨pp4_0, 0, none⟩) gX4 _).setCell (p := ⟨pp4_0, 1, none⟩) gX4 _), (Off.far jX4 (Off.far jX4 S14))⟩ (fun w15 hz => ?_)
  clear q mX0 mX2 X0 X2 X4
  obtain ⟨X0, X2, X4, kk, hS⟩ := hz
  refine hK.out _ _ hS fun S15 => ?_
  clear hK K hS
  refine vP ?_
  refine vT 18 S15 ?_
  refine vD ?_
  clear S15 S14 b14 w14 jX4 S11 b11 hX4 w11 S8 b8 w8 S6 b6 w6
  revert kk; revert nX2_X4; revert nX0_X4; revert gX4; revert X4; revert X2; revert X0; revert pp4_0; revert w15
  exact ?rest5
  have nX0_X4 : w.heap.size < pp4_0 := by have := X0.lt; omega
  have nX2_X4 : w.heap.size + 1 + 1 < pp4_0 := by have := X2.lt; omega
  have gX4 : w.heap.size ≤ pp4_0 := by have := (bC (bC (bC (bC (bC (bC (bA (bA (bA bR _) _) _) b1) b2) (bC (bA bR _) b3)) b4) b5) b6).size; omega
  have jX4 : w4.heap.size ≤ pp4_0 := by have := (bC b5 b6).size; omega
  refine vY1 (vC 11 S9 (h5.out _) (fun _ _ => Off.later) fun w16 b16 S16 => ?_)
  replace nvp := nvp.later (bC (bC (bC (bC (bC (bC b2 (bC (bA bR _) b3)) b4) b5) b6) b9) b16)
  refine vY1 (vC 12 S16 (CN.out _ _ nvp) (fun _ _ => Off.later) fun w17 b17 S17 => ?_)
  clear nvp
  refine vT 13 S17 ?_
  refine vT 14 S17 ?_
  refine vT 15 S17 ?_
  refine vY1 (vO 17 fun K hK => ?_)
  replace X0 := X0.later (bC (bC b9 b16) b17)
  replace X2 := X2.later (bC (bC b9 b16) b17)
  replace X4 := X4.later (bC b16 b17)
  have q := X4.o
  have mX0 : ¬ (w.heap.size = pp4_0) := by omega
  have mX2 : ¬ (w.heap.size + 1 + 1 = pp4_0) := by omega
  go_simp
  refine vW (fun W => HB W w.heap.size 149 #[.int .u8 f, .int .i64 p, .int .i64 em, .bool ng, .int .i64 ex, .int .u64 x0, .int .u64 x1, .int .u64 x2, .int .u64 x3] ∧ HB W (w.heap.size + 1 + 1) 30 #[.int .u64 0, .int .u64 0, .int .u8 0] ∧ HB W pp4_0 25 #[.int .u64 nh, .int .u64 nl] ∧ Below w.heap.size w W ∧ Off [] w4 W) ⟨((X0.other mX0 0 _).other mX0 1 _), ((X2.other mX2 0 _).other mX2 1 _), ((X4.set 0 _).set 1 _), (((bC (bC (bC (bC (bC (bC (bC (bC (bC (bA (bA (bA bR _) _) _) b1) b2) (bC (bA bR _) b3)) b4) b5) b6) b9) b16) b17).setCell (p := ⟨pp4_0, 0, none⟩) gX4 _).setCell (p := ⟨pp4_0, 1, none⟩) gX4 _), (Off.far jX4 (Off.far jX4 S17))⟩ (fun w18 hz => ?_)
  clear q mX0 mX2 X0 X2 X4
  obtain ⟨X0, X2, X4, kk, hS⟩ := hz
  refine hK.out _ _ hS fun S18 => ?_
  clear hK K hS
  refine vP ?_
  refine vT 18 S18 ?_
  refine vD ?_
  clear S18 S17 b17 w17 S16 b16 w16 jX4 S9 b9 hX4 w9 S6 b6 w6
  revert kk; revert nX2_X4; revert nX0_X4; revert gX4; revert X4; revert X2; revert X0; revert pp4_0; revert w18
  exact ?rest5
  have nX0_X4 : w.heap.size < pp4_0 := by have := X0.lt; omega
  have nX2_X4 : w.heap.size + 1 + 1 < pp4_0 := by have := X2.lt; omega
  have gX4 : w.heap.size ≤ pp4_0 := by have := (bC (bC (bC (bC (bC (bA (bA (bA bR _) _) _) b1) b2) (bC (bA bR _) b3)) b4) b5).size; omega
  have jX4 : w4.heap.size ≤ pp4_0 := by have := b5.size; omega
  refine vY1 (vC 7 S7 (h4.out _ (ft.later (bC (bC (bC (bC (bC (bC (bA (bA (bA bR _) _) _) b1) b2) (bC (bA bR _) b3)) b4) b5) b7))) (fun _ _ => Off.later) fun w19 b19 S19 => ?_)
  refine vT 10 S19 ?_
  refine vY1 (vC 11 S19 (h5.out _) (fun _ _ => Off.later) fun w20 b20 S20 => ?_)
  replace nvp := nvp.later (bC (bC (bC (bC (bC (bC b2 (bC (bA bR _) b3)) b4) b5) b7) b19) b20)
  refine vY1 (vC 12 S20 (CN.out _ _ nvp) (fun _ _ => Off.later) fun w21 b21 S21 => ?_)
  clear nvp
  refine vT 13 S21 ?_
  refine vT 14 S21 ?_
  refine vT 15 S21 ?_
  refine vY1 (vO 17 fun K hK => ?_)
  replace X0 := X0.later (bC (bC (bC b7 b19) b20) b21)
  replace X2 := X2.later (bC (bC (bC b7 b19) b20) b21)
  replace X4 := X4.later (bC (bC b19 b20) b21)
  have q := X4.o
  have mX0 : ¬ (w.heap.size = pp4_0) := by omega
  have mX2 : ¬ (w.heap.size + 1 + 1 = pp4_0) := by omega
  go_simp
  refine vW (fun W => HB W w.heap.size 149 #[.int .u8 f, .int .i64 p, .int .i64 em, .bool ng, .int .i64 ex, .int .u64 x0, .int .u64 x1, .int .u64 x2, .int .u64 x3] ∧ HB W (w.heap.size + 1 + 1) 30 #[.int .u64 0, .int .u64 0, .int .u8 0] ∧ HB W pp4_0 25 #[.int .u64 nh, .int .u64 nl] ∧ Below w.heap.size w W ∧ Off [] w4 W) ⟨((X0.other mX0 0 _).other mX0 1 _), ((X2.other mX2 0 _).other mX2 1 _), ((X4.set 0 _).set 1 _), (((bC (bC (bC (bC (bC (bC (bC (bC (bC (bA (bA (bA bR _) _) _) b1) b2) (bC (bA bR _) b3)) b4) b5) b7) b19) b20) b21).setCell (p := ⟨pp4_0, 0, none⟩) gX4 _).setCell (p := ⟨pp4_0, 1, none⟩) gX4 _), (Off.far jX4 (Off.far jX4 S21))⟩ (fun w22 hz => ?_)
  clear q mX0 mX2 X0 X2 X4
  obtain ⟨X0, X2, X4, kk, hS⟩ := hz
  refine hK.out _ _ hS fun S22 => ?_
  clear hK K hS
  refine vP ?_
  refine vT 18 S22 ?_
  refine vD ?_
  clear S22 S21 b21 w21 S20 b20 w20 S19 b19 w19 jX4 S7 b7 hX4 w7
  revert kk; revert nX2_X4; revert nX0_X4; revert gX4; revert X4; revert X2; revert X0; revert pp4_0; revert w22
  exact ?rest5
  intro w23 pp4_0 X0 X2 X4 gX4 nX0_X4 nX2_X4 kk
  have oX0 := X0.o
  have oX4 := X4.o
  go_wp2_with fail
  refine vM (h7.out _ (ft.later kk)) fun w24 b24 => ?_
  clear oX0 oX4
  replace X2 := X2.later b24
  have oX2 := X2.o
  go_wp2_with fail
  refine bodyPost_ret (v := .agg #[.int .u64 rh, .int .u64 rl, .int .u8 0]) ?_ rfl ⟨rfl, (bA ((((bC kk b24).setCell (p := ⟨w.heap.size + 1 + 1, 0, none⟩) gX2 _).setCell (p := ⟨w.heap.size + 1 + 1, 1, none⟩) gX2 _).setCell (p := ⟨w.heap.size + 1 + 1, 2, none⟩) gX2 _) _)⟩
  simp [results, Tryz.results113, go_sem, oX2]
theorem pk_round_inexact (f p em ex m uh ul af l d nh nl rh rl fl x0 x1 x2 x3 j0 j1 j2 j3 : Int) (ng t i0 : Bool)
    (h2 : Hid (∀ w, FTab w → Ca 149 #[.agg #[.int .u8 f, .int .i64 p, .int .i64 em], .int .i64 ex, U2 uh ul] w (.int .i64 af)))
    (h3 : Hid (∀ w, FTab w → Ca 150 #[.agg #[.int .u8 f, .int .i64 p, .int .i64 em], .int .i64 af] w (.bool false)))
    (h4 : Hid (∀ w, FTab w → Ca 153 #[.agg #[.int .u8 f, .int .i64 p, .int .i64 em], .int .i64 ex] w (.int .i64 l)))
    (h5 : Hid (∀ w, Ca 152 #[U4 x0 x1 x2 x3, .int .i64 d] w (U4 j0 j1 j2 j3)))
    (h7 : Hid (∀ w, FTab w → Ca 154 #[.agg #[.int .u8 f, .int .i64 p, .int .i64 em, .bool ng, .int .i64 ex, .int .u64 x0, .int .u64 x1, .int .u64 x2, .int .u64 x3], U2 nh nl] w (U2 rh rl)))
    (h8 : Hid (∀ w, FTab w → Ca 155 #[.agg #[.int .u8 f, .int .i64 p, .int .i64 em, .bool ng, .int .i64 ex, .int .u64 x0, .int .u64 x1, .int .u64 x2, .int .u64 x3], .agg #[.int .u8 m, .bool t], .int .i64 af] w (.int .u8 fl))) (RN : Hid (∀ w, Calls Tryz.prog 148 #[.int .i64 p, .int .u8 m, .bool ng] w fun e w' => ∃ vp, e = .returned (.func (.func 181) #[] #[.pointer (some ⟨vp.1, 0, none⟩), .pointer (some ⟨vp.2.1, 0, none⟩), .pointer (some ⟨vp.2.2, 0, none⟩)]) ∧ RoundIn w' p m ng vp ∧ Below w.heap.size w w')) (CU : Hid (∀ vp w, RoundIn w p m ng vp → Ca 181 #[U4 x0 x1 x2 x3, .pointer (some ⟨vp.1, 0, none⟩), .pointer (some ⟨vp.2.1, 0, none⟩), .pointer (some ⟨vp.2.2, 0, none⟩)] w (.tuple #[U2 uh ul, .bool i0]))) (CN : Hid (∀ vp w, RoundIn w p m ng vp → Ca 181 #[U4 j0 j1 j2 j3, .pointer (some ⟨vp.1, 0, none⟩), .pointer (some ⟨vp.2.1, 0, none⟩), .pointer (some ⟨vp.2.2, 0, none⟩)] w (.tuple #[U2 nh nl, .bool true]))) (w1 : IntKind.i64.wrap (l - ex) = d) (w : World) (ft : FTab w) :
    Ca 113 #[.agg #[.int .u8 f, .int .i64 p, .int .i64 em, .bool ng, .int .i64 ex, .int .u64 x0, .int .u64 x1, .int .u64 x2, .int .u64 x3], .agg #[.int .u8 m, .bool t]] w (.agg #[.int .u64 rh, .int .u64 rl, .int .u8 fl]) := by
  simp only [Ca, U2, U4] at *
  go_enter Tryz.func113, Tryz.ntmps113
  go_wp2_with fail
  refine vE (RN.out _) fun vp w1 nvp b1 => ?_
  have gX2 : w.heap.size ≤ w.heap.size + 1 + 1 := by omega
  have X0 := (((HB.newAt (b := w.heap.size) (by simp) _ _).alloc _).alloc _).later b1
  have X1 := ((HB.newAt (b := w.heap.size + 1) (by simp) _ _).alloc _).later b1
  have X2 := (HB.newAt (b := w.heap.size + 1 + 1) (by simp) _ _).later b1
  have oX0 := X0.o
  go_wp2_with fail
  refine vM (CU.out _ _ nvp) fun w2 b2 => ?_
  clear oX0
  replace X0 := X0.later b2
  have oX0 := X0.o
  go_wp2_with fail
  refine vM (h2.out _ (ft.later (bA (bC (bC (bA (bA (bA bR _) _) _) b1) b2) _))) fun w3 b3 => ?_
  clear oX0
  replace X0 := X0.later (bC (bA bR _) b3)
  have oX0 := X0.o
  go_wp2_with fail
  refine vM (h3.out _ (ft.later (bC (bC (bC (bA (bA (bA bR _) _) _) b1) b2) (bC (bA bR _) b3)))) fun w4 b4 => ?_
  clear oX0
  go_wp2_with fail
  replace X0 := X0.later b4
  refine vR [] fun w5 b5 S5 => ?_
  refine vT 0 S5 ?_
  refine vT 1 S5 ?_
  refine vT 2 S5 ?_ (hy := by intro wq hb; have q := (hb.hb X0 (by simp)).o; go_simp; try (with_reducible rfl))
  refine vT 3 S5 ?_
  refine vT 4 S5 ?_ (hy := by intro wq hb; have q := (hb.hb X0 (by simp)).o; go_simp; try (with_reducible rfl))
  refine vT 5 S5 ?_
  refine vT 6 S5 ?_ (hy := by intro wq hb; have q := (hb.hb X0 (by simp)).o; go_simp; try (with_reducible rfl))
  refine vT 8 S5 ?_
  refine vT 9 S5 ?_ (hy := by intro wq hb; have q := (hb.hb X0 (by simp)).o; go_simp; try (with_reducible rfl))
  replace X0 := X0.later b5
  replace X1 := X1.later (bC (bC (bC b2 (bC (bA bR _) b3)) b4) b5)
  replace X2 := X2.later (bC (bC (bC b2 (bC (bA bR _) b3)) b4) b5)
  refine vY2 (vC 7 S5 (h4.out _ (ft.later (bC (bC (bC (bC (bC (bA (bA (bA bR _) _) _) b1) b2) (bC (bA bR _) b3)) b4) b5))) (fun _ _ => Off.later) fun w6 b6 S6 => ?_) (vA 16 S5 (fun _ _ => Off.later) fun w7 pp4_0 hX4 X4 b7 S7 => ?_)
  refine vT 10 S6 ?_
  replace X0 := X0.later b6
  replace X1 := X1.later b6
  replace X2 := X2.later b6
  refine vY2 (vC 11 S6 (h5.out _) (fun _ _ => Off.later) fun w8 b8 S8 => ?_) (vA 16 S6 (fun _ _ => Off.later) fun w9 pp4_0 hX4 X4 b9 S9 => ?_)
  replace nvp := nvp.later (bC (bC (bC (bC (bC b2 (bC (bA bR _) b3)) b4) b5) b6) b8)
  replace X0 := X0.later b8
  replace X1 := X1.later b8
  replace X2 := X2.later b8
  refine vY2 (vC 12 S8 (CN.out _ _ nvp) (fun _ _ => Off.later) fun w10 b10 S10 => ?_) (vA 16 S8 (fun _ _ => Off.later) fun w11 pp4_0 hX4 X4 b11 S11 => ?_)
  clear nvp
  refine vT 13 S10 ?_
  refine vT 14 S10 ?_
  refine vT 15 S10 ?_
  replace X0 := X0.later b10
  replace X1 := X1.later b10
  replace X2 := X2.later b10
  refine vY1 (vA 16 S10 (fun _ _ => Off.later) fun w12 pp4_0 hX4 X4 b12 S12 => ?_)
  have nX0_X4 : w.heap.size < pp4_0 := by have := X0.lt; omega
  have nX1_X4 : w.heap.size + 1 < pp4_0 := by have := X1.lt; omega
  have nX2_X4 : w.heap.size + 1 + 1 < pp4_0 := by have := X2.lt; omega
  have gX4 : w.heap.size ≤ pp4_0 := by have := (bC (bC (bC (bC (bC (bC (bC (bC (bA (bA (bA bR _) _) _) b1) b2) (bC (bA bR _) b3)) b4) b5) b6) b8) b10).size; omega
  have jX4 : w4.heap.size ≤ pp4_0 := by have := (bC (bC (bC b5 b6) b8) b10).size; omega
  refine vY1 (vO 17 fun K hK => ?_)
  replace X0 := X0.later b12
  replace X1 := X1.later b12
  replace X2 := X2.later b12
  have q := X4.o
  have mX0 : ¬ (w.heap.size = pp4_0) := by omega
  have mX1 : ¬ (w.heap.size + 1 = pp4_0) := by omega
  have mX2 : ¬ (w.heap.size + 1 + 1 = pp4_0) := by omega
  go_simp
  refine vW (fun W => HB W w.heap.size 149 #[.int .u8 f, .int .i64 p, .int .i64 em, .bool ng, .int .i64 ex, .int .u64 x0, .int .u64 x1, .int .u64 x2, .int .u64 x3] ∧ HB W (w.heap.size + 1) 39 #[.int .u8 m, .bool t] ∧ HB W (w.heap.size + 1 + 1) 30 #[.int .u64 0, .int .u64 0, .int .u8 0] ∧ HB W pp4_0 25 #[.int .u64 nh, .int .u64 nl] ∧ Below w.heap.size w W ∧ Off [] w4 W) ⟨((X0.other mX0 0 _).other mX0 1 _), ((X1.other mX1 0 _).other mX1 1 _), ((X2.other mX2 0 _).other mX2 1 _), ((X4.set 0 _).set 1 _), (((bC (bC (bC (bC (bC (bC (bC (bC (bC (bA (bA (bA bR _) _) _) b1) b2) (bC (bA bR _) b3)) b4) b5) b6) b8) b10) b12).setCell (p := ⟨pp4_0, 0, none⟩) gX4 _).setCell (p := ⟨pp4_0, 1, none⟩) gX4 _), (Off.far jX4 (Off.far jX4 S12))⟩ (fun w13 hz => ?_)
  clear q mX0 mX1 mX2 X0 X1 X2 X4
  obtain ⟨X0, X1, X2, X4, kk, hS⟩ := hz
  refine hK.out _ _ hS fun S13 => ?_
  clear hK K hS
  refine vP ?_
  refine vT 18 S13 ?_
  refine vD ?_
  clear S13 jX4 S12 b12 hX4 w12 S10 b10 w10 S8 b8 w8 S6 b6 w6
  revert kk; revert nX2_X4; revert nX1_X4; revert nX0_X4; revert gX4; revert X4; revert X2; revert X1; revert X0; revert pp4_0; revert w13
  refine ?rest5
  rotate_left
  have nX0_X4 : w.heap.size < pp4_0 := by have := X0.lt; omega
  have nX1_X4 : w.heap.size + 1 < pp4_0 := by have := X1.lt; omega
  have nX2_X4 : w.heap.size + 1 + 1 < pp4_0 := by have := X2.lt; omega
  have gX4 : w.heap.size ≤ pp4_0 := by have := (bC (bC (bC (bC (bC (bC (bC (bA (bA (bA bR _) _) _) b1) b2) (bC (bA bR _) b3)) b4) b5) b6) b8).size; omega
  have jX4 : w4.heap.size ≤ pp4_0 := by have := (bC (bC b5 b6) b8).size; omega
  replace nvp := nvp.later b11
  refine vY1 (vC 12 S11 (CN.out _ _ nvp) (fun _ _ => Off.later) fun w14 b14 S14 => ?_)
  clear nvp
  refine vT 13 S14 ?_
  refine vT 14 S14 ?_
  refine vT 15 S14 ?_
  refine vY1 (vO 17 fun K hK => ?_)
  replace X0 := X0.later (bC b11 b14)
  replace X1 := X1.later (bC b11 b14)
  replace X2 := X2.later (bC b11 b14)
  replace X4 := X4.later b14
  have q := X4.o
  have mX0 : ¬ (w.heap.size = pp4_0) := by omega
  have mX1 : ¬ (w.heap.size + 1 = pp4_0) := by omega
  have mX2 : ¬ (w.heap.size + 1 + 1 = pp4_0) := by omega
  go_simp
  refine vW (fun W => HB W w.heap.size 149 #[.int .u8 f, .int .i64 p, .int .i64 em, .bool ng, .int .i64 ex, .int .u64 x0, .int .u64 x1, .int .u64 x2, .int .u64 x3] ∧ HB W (w.heap.size + 1) 39 #[.int .u8 m, .bool t] ∧ HB W (w.heap.size + 1 + 1) 30 #[.int .u64 0, .int .u64 0, .int .u8 0] ∧ HB W pp4_0 25 #[.int .u64 nh, .int .u64 nl] ∧ Below w.heap.size w W ∧ Off [] w4 W) ⟨((X0.other mX0 0 _).other mX0 1 _), ((X1.other mX1 0 _).other mX1 1 _), ((X2.other mX2 0 _).other mX2 1 _), ((X4.set 0 _).set 1 _), (((bC (bC (bC (bC (bC (bC (bC (bC (bC (bA (bA (bA bR _) _) _) b1) b2) (bC (bA bR _) b3)) b4) b5) b6) b8) b11) b14).setCell (p := ⟨pp4_0, 0, none⟩) gX4 _).setCell (p := ⟨pp4_0, 1, none⟩) gX4 _), (Off.far jX4 (Off.far jX4 S14))⟩ (fun w15 hz => ?_)
  clear q mX0 mX1 mX2 X0 X1 X2 X4
  obtain ⟨X0, X1, X2, X4, kk, hS⟩ := hz
  refine hK.out _ _ hS fun S15 => ?_
  clear hK K hS
  refine vP ?_
  refine vT 18 S15 ?_
  refine vD ?_
  clear S15 S14 b14 w14 jX4 S11 b11 hX4 w11 S8 b8 w8 S6 b6 w6
  revert kk; revert nX2_X4; revert nX1_X4; revert nX0_X4; revert gX4; revert X4; revert X2; revert X1; revert X0; revert pp4_0; revert w15
  exact ?rest5
  have nX0_X4 : w.heap.size < pp4_0 := by have := X0.lt; omega
  have nX1_X4 : w.heap.size + 1 < pp4_0 := by have := X1.lt; omega
  have nX2_X4 : w.heap.size + 1 + 1 < pp4_0 := by have := X2.lt; omega
  have gX4 : w.heap.size ≤ pp4_0 := by have := (bC (bC (bC (bC (bC (bC (bA (bA (bA bR _) _) _) b1) b2) (bC (bA bR _) b3)) b4) b5) b6).size; omega
  have jX4 : w4.heap.size ≤ pp4_0 := by have := (bC b5 b6).size; omega
  refine vY1 (vC 11 S9 (h5.out _) (fun _ _ => Off.later) fun w16 b16 S16 => ?_)
  replace nvp := nvp.later (bC (bC (bC (bC (bC (bC b2 (bC (bA bR _) b3)) b4) b5) b6) b9) b16)
  refine vY1 (vC 12 S16 (CN.out _ _ nvp) (fun _ _ => Off.later) fun w17 b17 S17 => ?_)
  clear nvp
  refine vT 13 S17 ?_
  refine vT 14 S17 ?_
  refine vT 15 S17 ?_
  refine vY1 (vO 17 fun K hK => ?_)
  replace X0 := X0.later (bC (bC b9 b16) b17)
  replace X1 := X1.later (bC (bC b9 b16) b17)
  replace X2 := X2.later (bC (bC b9 b16) b17)
  replace X4 := X4.later (bC b16 b17)
  have q := X4.o
  have mX0 : ¬ (w.heap.size = pp4_0) := by omega
  have mX1 : ¬ (w.heap.size + 1 = pp4_0) := by omega
  have mX2 : ¬ (w.heap.size + 1 + 1 = pp4_0) := by omega
  go_simp
  refine vW (fun W => HB W w.heap.size 149 #[.int .u8 f, .int .i64 p, .int .i64 em, .bool ng, .int .i64 ex, .int .u64 x0, .int .u64 x1, .int .u64 x2, .int .u64 x3] ∧ HB W (w.heap.size + 1) 39 #[.int .u8 m, .bool t] ∧ HB W (w.heap.size + 1 + 1) 30 #[.int .u64 0, .int .u64 0, .int .u8 0] ∧ HB W pp4_0 25 #[.int .u64 nh, .int .u64 nl] ∧ Below w.heap.size w W ∧ Off [] w4 W) ⟨((X0.other mX0 0 _).other mX0 1 _), ((X1.other mX1 0 _).other mX1 1 _), ((X2.other mX2 0 _).other mX2 1 _), ((X4.set 0 _).set 1 _), (((bC (bC (bC (bC (bC (bC (bC (bC (bC (bA (bA (bA bR _) _) _) b1) b2) (bC (bA bR _) b3)) b4) b5) b6) b9) b16) b17).setCell (p := ⟨pp4_0, 0, none⟩) gX4 _).setCell (p := ⟨pp4_0, 1, none⟩) gX4 _), (Off.far jX4 (Off.far jX4 S17))⟩ (fun w18 hz => ?_)
  clear q mX0 mX1 mX2 X0 X1 X2 X4
  obtain ⟨X0, X1, X2, X4, kk, hS⟩ := hz
  refine hK.out _ _ hS fun S18 => ?_
  clear hK K hS
  refine vP ?_
  refine vT 18 S18 ?_
  refine vD ?_
  clear S18 S17 b17 w17 S16 b16 w16 jX4 S9 b9 hX4 w9 S6 b6 w6
  revert kk; revert nX2_X4; revert nX1_X4; revert nX0_X4; revert gX4; revert X4; revert X2; revert X1; revert X0; revert pp4_0; revert w18
  exact ?rest5
  have nX0_X4 : w.heap.size < pp4_0 := by have := X0.lt; omega
  have nX1_X4 : w.heap.size + 1 < pp4_0 := by have := X1.lt; omega
  have nX2_X4 : w.heap.size + 1 + 1 < pp4_0 := by have := X2.lt; omega
  have gX4 : w.heap.size ≤ pp4_0 := by have := (bC (bC (bC (bC (bC (bA (bA (bA bR _) _) _) b1) b2) (bC (bA bR _) b3)) b4) b5).size; omega
  have jX4 : w4.heap.size ≤ pp4_0 := by have := b5.size; omega
  refine vY1 (vC 7 S7 (h4.out _ (ft.later (bC (bC (bC (bC (bC (bC (bA (bA (bA bR _) _) _) b1) b2) (bC (bA bR _) b3)) b4) b5) b7))) (fun _ _ => Off.later) fun w19 b19 S19 => ?_)
  refine vT 10 S19 ?_
  refine vY1 (vC 11 S19 (h5.out _) (fun _ _ => Off.later) fun w20 b20 S20 => ?_)
  replace nvp := nvp.later (bC (bC (bC (bC (bC (bC b2 (bC (bA bR _) b3)) b4) b5) b7) b19) b20)
  refine vY1 (vC 12 S20 (CN.out _ _ nvp) (fun _ _ => Off.later) fun w21 b21 S21 => ?_)
  clear nvp
  refine vT 13 S21 ?_
  refine vT 14 S21 ?_
  refine vT 15 S21 ?_
  refine vY1 (vO 17 fun K hK => ?_)
  replace X0 := X0.later (bC (bC (bC b7 b19) b20) b21)
  replace X1 := X1.later (bC (bC (bC b7 b19) b20) b21)
  replace X2 := X2.later (bC (bC (bC b7 b19) b20) b21)
  replace X4 := X4.later (bC (bC b19 b20) b21)
  have q := X4.o
  have mX0 : ¬ (w.heap.size = pp4_0) := by omega
  have mX1 : ¬ (w.heap.size + 1 = pp4_0) := by omega
  have mX2 : ¬ (w.heap.size + 1 + 1 = pp4_0) := by omega
  go_simp
  refine vW (fun W => HB W w.heap.size 149 #[.int .u8 f, .int .i64 p, .int .i64 em, .bool ng, .int .i64 ex, .int .u64 x0, .int .u64 x1, .int .u64 x2, .int .u64 x3] ∧ HB W (w.heap.size + 1) 39 #[.int .u8 m, .bool t] ∧ HB W (w.heap.size + 1 + 1) 30 #[.int .u64 0, .int .u64 0, .int .u8 0] ∧ HB W pp4_0 25 #[.int .u64 nh, .int .u64 nl] ∧ Below w.heap.size w W ∧ Off [] w4 W) ⟨((X0.other mX0 0 _).other mX0 1 _), ((X1.other mX1 0 _).other mX1 1 _), ((X2.other mX2 0 _).other mX2 1 _), ((X4.set 0 _).set 1 _), (((bC (bC (bC (bC (bC (bC (bC (bC (bC (bA (bA (bA bR _) _) _) b1) b2) (bC (bA bR _) b3)) b4) b5) b7) b19) b20) b21).setCell (p := ⟨pp4_0, 0, none⟩) gX4 _).setCell (p := ⟨pp4_0, 1, none⟩) gX4 _), (Off.far jX4 (Off.far jX4 S21))⟩ (fun w22 hz => ?_)
  clear q mX0 mX1 mX2 X0 X1 X2 X4
  obtain ⟨X0, X1, X2, X4, kk, hS⟩ := hz
  refine hK.out _ _ hS fun S22 => ?_
  clear hK K hS
  refine vP ?_
  refine vT 18 S22 ?_
  refine vD ?_
  clear S22 S21 b21 w21 S20 b20 w20 S19 b19 w19 jX4 S7 b7 hX4 w7
  revert kk; revert nX2_X4; revert nX1_X4; revert nX0_X4; revert gX4; revert X4; revert X2; revert X1; revert X0; revert pp4_0; revert w22
  exact ?rest5
  intro w23 pp4_0 X0 X1 X2 X4 gX4 nX0_X4 nX1_X4 nX2_X4 kk
  have oX0 := X0.o
  have oX4 := X4.o
  go_wp2_with fail
  refine vM (h7.out _ (ft.later kk)) fun w24 b24 => ?_
  clear oX0 oX4
  replace X0 := X0.later b24
  have oX0 := X0.o
  replace X1 := X1.later b24
  have oX1 := X1.o
  go_wp2_with fail
  refine vM (h8.out _ (ft.later (bA (bC kk b24) _))) fun w25 b25 => ?_
  have gX5 : w.heap.size ≤ w24.heap.size := by have := (bC kk b24).size; omega
  replace X2 := X2.later b24
  have nX2_X5 : w.heap.size + 1 + 1 < w24.heap.size := by have := X2.lt; omega
  have X5 := (HB.newAt (b := w24.heap.size) (by simp) _ _).later b25
  clear oX0 oX1
  have oX5 := X5.o
  replace X2 := X2.later (bC (bA bR _) b25)
  have oX2 := X2.o
  have mX2_X5 : ¬ (w.heap.size + 1 + 1 = w24.heap.size) := by omega
  have mX5_X2 : ¬ (w24.heap.size = w.heap.size + 1 + 1) := by omega
  go_wp2_with fail
  refine bodyPost_ret (v := .agg #[.int .u64 rh, .int .u64 rl, .int .u8 fl]) ?_ rfl ⟨rfl, (((((bC kk (bC b24 (bC (bA bR _) b25))).setCell (p := ⟨w24.heap.size, 2, none⟩) gX5 _).setCell (p := ⟨w.heap.size + 1 + 1, 0, none⟩) gX2 _).setCell (p := ⟨w.heap.size + 1 + 1, 1, none⟩) gX2 _).setCell (p := ⟨w.heap.size + 1 + 1, 2, none⟩) gX2 _)⟩
  simp [results, Tryz.results113, go_sem, oX2, mX2_X5, mX5_X2]
theorem pk_encode (f p em ex l y z uh ul nh nl rh rl x0 x1 x2 x3 : Int) (ng cy : Bool)
    (h0 : Hid (∀ w, FTab w → Ca 153 #[.agg #[.int .u8 f, .int .i64 p, .int .i64 em], .int .i64 ex] w (.int .i64 l)))
    (h1 : Hid (∀ w, FTab w → Ca 25 #[.int .u8 f, .bool ng, .int .i64 z, U2 0 0] w (U2 uh ul)))
    (h2 : Hid (∀ w, Ca 128 #[U2 uh ul, U2 nh nl] w (.tuple #[U2 rh rl, .bool cy]))) (w1 : IntKind.i64.wrap (l + em) = y) (w2 : IntKind.i64.wrap (y - 1) = z) (w2x : wrap64 (y - 1) = z) (w : World) (ft : FTab w) :
    Ca 154 #[.agg #[.int .u8 f, .int .i64 p, .int .i64 em, .bool ng, .int .i64 ex, .int .u64 x0, .int .u64 x1, .int .u64 x2, .int .u64 x3], U2 nh nl] w (U2 rh rl) := by
  simp only [Ca, U2] at *
  go_enter Tryz.func154, Tryz.ntmps154
  go_wp2_with fail
  have gX2 : w.heap.size ≤ w.heap.size + 1 + 1 := by omega
  refine vF3 fun w1 b1 X0 X1 X2 => ?_
  refine vR [] fun w2 b2 S2 => ?_
  refine vT 0 S2 ?_
  refine vT 1 S2 ?_
  refine vT 2 S2 ?_ (hy := by intro wq hb; have q := (hb.hb X0 (by simp)).o; go_simp; try (with_reducible rfl))
  refine vT 3 S2 ?_
  refine vT 4 S2 ?_ (hy := by intro wq hb; have q := (hb.hb X0 (by simp)).o; go_simp; try (with_reducible rfl))
  refine vT 5 S2 ?_
  refine vT 6 S2 ?_ (hy := by intro wq hb; have q := (hb.hb X0 (by simp)).o; go_simp; try (with_reducible rfl))
  refine vT 7 S2 ?_
  refine vT 8 S2 ?_ (hy := by intro wq hb; have q := (hb.hb X0 (by simp)).o; go_simp; try (with_reducible rfl))
  refine vT 10 S2 ?_
  refine vT 11 S2 ?_
  refine vT 12 S2 ?_ (hy := by intro wq hb; have q := (hb.hb X0 (by simp)).o; go_simp; try (with_reducible rfl))
  refine vT 15 S2 ?_
  replace X1 := X1.later b2
  replace X2 := X2.later b2
  refine vY2 (vC 9 S2 (h0.out _ (ft.later (bC b1 b2))) (fun _ _ => Off.later) fun w3 b3 S3 => ?_) (vA 17 S2 (fun _ _ => Off.later) fun w4 pp1_0 hX3 X3 b4 S4 => ?_)
  refine vT 13 S3 ?_
  refine vT 14 S3 ?_
  replace X1 := X1.later b3
  replace X2 := X2.later b3
  refine vY2 (vC 16 S3 (h1.out _ (ft.later (bC (bC b1 b2) b3))) (fun _ _ => Off.later) fun w5 b5 S5 => ?_) (vA 17 S3 (fun _ _ => Off.later) fun w6 pp1_0 hX3 X3 b6 S6 => ?_)
  replace X1 := X1.later b5
  replace X2 := X2.later b5
  refine vY1 (vA 17 S5 (fun _ _ => Off.later) fun w7 pp1_0 hX3 X3 b7 S7 => ?_)
  have nX1_X3 : w.heap.size + 1 < pp1_0 := by have := X1.lt; omega
  have nX2_X3 : w.heap.size + 1 + 1 < pp1_0 := by have := X2.lt; omega
  have gX3 : w.heap.size ≤ pp1_0 := by have := (bC (bC (bC b1 b2) b3) b5).size; omega
  have jX3 : w1.heap.size ≤ pp1_0 := by have := (bC (bC b2 b3) b5).size; omega
  refine vY1 (vO 18 fun K hK => ?_)
  replace X1 := X1.later b7
  replace X2 := X2.later b7
  have q := X3.o
  have mX1 : ¬ (w.heap.size + 1 = pp1_0) := by omega
  have mX2 : ¬ (w.heap.size + 1 + 1 = pp1_0) := by omega
  go_simp
  refine vW (fun W => HB W (w.heap.size + 1) 25 #[.int .u64 nh, .int .u64 nl] ∧ HB W (w.heap.size + 1 + 1) 25 #[.int .u64 0, .int .u64 0] ∧ HB W pp1_0 25 #[.int .u64 uh, .int .u64 ul] ∧ Below w.heap.size w W ∧ Off [] w1 W) ⟨((X1.other mX1 0 _).other mX1 1 _), ((X2.other mX2 0 _).other mX2 1 _), ((X3.set 0 _).set 1 _), (((bC (bC (bC (bC b1 b2) b3) b5) b7).setCell (p := ⟨pp1_0, 0, none⟩) gX3 _).setCell (p := ⟨pp1_0, 1, none⟩) gX3 _), (Off.far jX3 (Off.far jX3 S7))⟩ (fun w8 hz => ?_)
  clear q mX1 mX2 X1 X2 X3
  obtain ⟨X1, X2, X3, kk, hS⟩ := hz
  refine hK.out _ _ hS fun S8 => ?_
  clear hK K hS
  refine vP ?_
  refine vD ?_
  clear S8 jX3 S7 b7 hX3 w7 S5 b5 w5 S3 b3 w3
  revert kk; revert nX2_X3; revert nX1_X3; revert gX3; revert X3; revert X2; revert X1; revert pp1_0; revert w8
  refine ?rest2
  rotate_left
  have nX1_X3 : w.heap.size + 1 < pp1_0 := by have := X1.lt; omega
  have nX2_X3 : w.heap.size + 1 + 1 < pp1_0 := by have := X2.lt; omega
  have gX3 : w.heap.size ≤ pp1_0 := by have := (bC (bC b1 b2) b3).size; omega
  have jX3 : w1.heap.size ≤ pp1_0 := by have := (bC b2 b3).size; omega
  refine vY1 (vC 16 S6 (h1.out _ (ft.later (bC (bC (bC b1 b2) b3) b6))) (fun _ _ => Off.later) fun w9 b9 S9 => ?_)
  refine vY1 (vO 18 fun K hK => ?_)
  replace X1 := X1.later (bC b6 b9)
  replace X2 := X2.later (bC b6 b9)
  replace X3 := X3.later b9
  have q := X3.o
  have mX1 : ¬ (w.heap.size + 1 = pp1_0) := by omega
  have mX2 : ¬ (w.heap.size + 1 + 1 = pp1_0) := by omega
  go_simp
  refine vW (fun W => HB W (w.heap.size + 1) 25 #[.int .u64 nh, .int .u64 nl] ∧ HB W (w.heap.size + 1 + 1) 25 #[.int .u64 0, .int .u64 0] ∧ HB W pp1_0 25 #[.int .u64 uh, .int .u64 ul] ∧ Below w.heap.size w W ∧ Off [] w1 W) ⟨((X1.other mX1 0 _).other mX1 1 _), ((X2.other mX2 0 _).other mX2 1 _), ((X3.set 0 _).set 1 _), (((bC (bC (bC (bC b1 b2) b3) b6) b9).setCell (p := ⟨pp1_0, 0, none⟩) gX3 _).setCell (p := ⟨pp1_0, 1, none⟩) gX3 _), (Off.far jX3 (Off.far jX3 S9))⟩ (fun w10 hz => ?_)
  clear q mX1 mX2 X1 X2 X3
  obtain ⟨X1, X2, X3, kk, hS⟩ := hz
  refine hK.out _ _ hS fun S10 => ?_
  clear hK K hS
  refine vP ?_
  refine vD ?_
  clear S10 S9 b9 w9 jX3 S6 b6 hX3 w6 S3 b3 w3
  revert kk; revert nX2_X3; revert nX1_X3; revert gX3; revert X3; revert X2; revert X1; revert pp1_0; revert w10
  exact ?rest2
  have nX1_X3 : w.heap.size + 1 < pp1_0 := by have := X1.lt; omega
  have nX2_X3 : w.heap.size + 1 + 1 < pp1_0 := by have := X2.lt; omega
  have gX3 : w.heap.size ≤ pp1_0 := by have := (bC b1 b2).size; omega
  have jX3 : w1.heap.size ≤ pp1_0 := by have := b2.size; omega
  refine vY1 (vC 9 S4 (h0.out _ (ft.later (bC (bC b1 b2) b4))) (fun _ _ => Off.later) fun w11 b11 S11 => ?_)
  refine vT 13 S11 ?_
  refine vT 14 S11 ?_
  refine vY1 (vC 16 S11 (h1.out _ (ft.later (bC (bC (bC b1 b2) b4) b11))) (fun _ _ => Off.later) fun w12 b12 S12 => ?_)
  refine vY1 (vO 18 fun K hK => ?_)
  replace X1 := X1.later (bC (bC b4 b11) b12)
  replace X2 := X2.later (bC (bC b4 b11) b12)
  replace X3 := X3.later (bC b11 b12)
  have q := X3.o
  have mX1 : ¬ (w.heap.size + 1 = pp1_0) := by omega
  have mX2 : ¬ (w.heap.size + 1 + 1 = pp1_0) := by omega
  go_simp
  refine vW (fun W => HB W (w.heap.size + 1) 25 #[.int .u64 nh, .int .u64 nl] ∧ HB W (w.heap.size + 1 + 1) 25 #[.int .u64 0, .int .u64 0] ∧ HB W pp1_0 25 #[.int .u64 uh, .int .u64 ul] ∧ Below w.heap.size w W ∧ Off [] w1 W) ⟨((X1.other mX1 0 _).other mX1 1 _), ((X2.other mX2 0 _).other mX2 1 _), ((X3.set 0 _).set 1 _), (((bC (bC (bC (bC b1 b2) b4) b11) b12).setCell (p := ⟨pp1_0, 0, none⟩) gX3 _).setCell (p := ⟨pp1_0, 1, none⟩) gX3 _), (Off.far jX3 (Off.far jX3 S12))⟩ (fun w13 hz => ?_)
  clear q mX1 mX2 X1 X2 X3
  obtain ⟨X1, X2, X3, kk, hS⟩ := hz
  refine hK.out _ _ hS fun S13 => ?_
  clear hK K hS
  refine vP ?_
  refine vD ?_
  clear S13 S12 b12 w12 S11 b11 w11 jX3 S4 b4 hX3 w4
  revert kk; revert nX2_X3; revert nX1_X3; revert gX3; revert X3; revert X2; revert X1; revert pp1_0; revert w13
  exact ?rest2
  intro w14 pp1_0 X1 X2 X3 gX3 nX1_X3 nX2_X3 kk
  have oX3 := X3.o
  have oX1 := X1.o
  go_wp2_with fail
  refine vM (h2.out _) fun w15 b15 => ?_
  clear oX3 oX1
  replace X2 := X2.later b15
  have oX2 := X2.o
  go_wp2_with fail
  refine bodyPost_ret (v := .agg #[.int .u64 rh, .int .u64 rl]) ?_ rfl ⟨rfl, (bA (((bC kk b15).setCell (p := ⟨w.heap.size + 1 + 1, 0, none⟩) gX2 _).setCell (p := ⟨w.heap.size + 1 + 1, 1, none⟩) gX2 _) _)⟩
  simp [results, Tryz.results154, go_sem, oX2]
theorem pk_inexact_00 (f p em ex m af x0 x1 x2 x3 : Int) (ng : Bool)
    (h0 : Hid (∀ w, FTab w → Ca 187 #[.agg #[.int .u8 f, .int .i64 p, .int .i64 em], .int .i64 ex] w (.bool false))) (w : World) (ft : FTab w) :
    Ca 155 #[.agg #[.int .u8 f, .int .i64 p, .int .i64 em, .bool ng, .int .i64 ex, .int .u64 x0, .int .u64 x1, .int .u64 x2, .int .u64 x3], .agg #[.int .u8 m, .bool false], .int .i64 af] w (.int .u8 16) := by
  simp only [Ca] at *
  go_enter Tryz.func155, Tryz.ntmps155
  go_wp2_with fail
  refine vM (h0.out _ (ft.later (bA (bA bR _) _))) fun w1 b1 => ?_
  go_wp2_with fail
  go_ret
  exact ⟨rfl, (bC (bA (bA bR _) _) b1)⟩
theorem pk_inexact_01 (f p em ex m af x0 x1 x2 x3 : Int) (ng : Bool)
    (h0 : Hid (∀ w, FTab w → Ca 187 #[.agg #[.int .u8 f, .int .i64 p, .int .i64 em], .int .i64 ex] w (.bool true))) (w : World) (ft : FTab w) :
    Ca 155 #[.agg #[.int .u8 f, .int .i64 p, .int .i64 em, .bool ng, .int .i64 ex, .int .u64 x0, .int .u64 x1, .int .u64 x2, .int .u64 x3], .agg #[.int .u8 m, .bool false], .int .i64 af] w (.int .u8 24) := by
  simp only [Ca] at *
  go_enter Tryz.func155, Tryz.ntmps155
  go_wp2_with fail
  refine vM (h0.out _ (ft.later (bA (bA bR _) _))) fun w1 b1 => ?_
  go_wp2_with fail
  go_ret
  exact ⟨rfl, (bC (bA (bA bR _) _) b1)⟩
theorem pk_inexact_10 (f p em ex m af x0 x1 x2 x3 : Int) (ng : Bool)
    (h0 : Hid (∀ w, FTab w → Ca 187 #[.agg #[.int .u8 f, .int .i64 p, .int .i64 em], .int .i64 af] w (.bool false))) (w : World) (ft : FTab w) :
    Ca 155 #[.agg #[.int .u8 f, .int .i64 p, .int .i64 em, .bool ng, .int .i64 ex, .int .u64 x0, .int .u64 x1, .int .u64 x2, .int .u64 x3], .agg #[.int .u8 m, .bool true], .int .i64 af] w (.int .u8 16) := by
  simp only [Ca] at *
  go_enter Tryz.func155, Tryz.ntmps155
  go_wp2_with fail
  refine vM (h0.out _ (ft.later (bA (bA bR _) _))) fun w1 b1 => ?_
  go_wp2_with fail
  go_ret
  exact ⟨rfl, (bC (bA (bA bR _) _) b1)⟩
theorem pk_inexact_11 (f p em ex m af x0 x1 x2 x3 : Int) (ng : Bool)
    (h0 : Hid (∀ w, FTab w → Ca 187 #[.agg #[.int .u8 f, .int .i64 p, .int .i64 em], .int .i64 af] w (.bool true))) (w : World) (ft : FTab w) :
    Ca 155 #[.agg #[.int .u8 f, .int .i64 p, .int .i64 em, .bool ng, .int .i64 ex, .int .u64 x0, .int .u64 x1, .int .u64 x2, .int .u64 x3], .agg #[.int .u8 m, .bool true], .int .i64 af] w (.int .u8 24) := by
  simp only [Ca] at *
  go_enter Tryz.func155, Tryz.ntmps155
  go_wp2_with fail
  refine vM (h0.out _ (ft.later (bA (bA bR _) _))) fun w1 b1 => ?_
  go_wp2_with fail
  go_ret
  exact ⟨rfl, (bC (bA (bA bR _) _) b1)⟩
theorem pk_Round_no1 (f m ex x0 x1 x2 x3 : Int) (t ng : Bool)
    (h0 : Hid (∀ w, FTab w → Ca 15 #[.int .u8 f] w (.bool false))) (w : World) (ft : FTab w) :
    Ca 53 #[.int .u8 f, .agg #[.int .u8 m, .bool t], .bool ng, .int .i64 ex, U4 x0 x1 x2 x3] w (.agg #[.int .u64 0, .int .u64 0, .int .u8 0]) := by
  simp only [Ca, U4] at *
  go_enter Tryz.func53, Tryz.ntmps53
  go_wp2_with fail
  refine vM (h0.out _ (ft.later (bA (bA (bA bR _) _) _))) fun w1 b1 => ?_
  have gX2 : w.heap.size ≤ w.heap.size + 1 + 1 := by omega
  have X0 := (((HB.newAt (b := w.heap.size) (by simp) _ _).alloc _).alloc _).later b1
  have X2 := (HB.newAt (b := w.heap.size + 1 + 1) (by simp) _ _).later b1
  have oX0 := X0.o
  have oX2 := X2.o
  have mX0_X2 : ¬ (w.heap.size = w.heap.size + 1 + 1) := by omega
  have mX2_X0 : ¬ (w.heap.size + 1 + 1 = w.heap.size) := by omega
  go_wp2_with fail
  refine bodyPost_ret (v := .agg #[.int .u64 0, .int .u64 0, .int .u8 0]) ?_ rfl ⟨rfl, ((((bC (bA (bA (bA bR _) _) _) b1).setCell (p := ⟨w.heap.size + 1 + 1, 0, none⟩) gX2 _).setCell (p := ⟨w.heap.size + 1 + 1, 1, none⟩) gX2 _).setCell (p := ⟨w.heap.size + 1 + 1, 2, none⟩) gX2 _)⟩
  simp [results, Tryz.results53, go_sem, oX2, mX0_X2, mX2_X0]
theorem pk_Round_no2 (f m ex x0 x1 x2 x3 : Int) (t ng : Bool)
    (h0 : Hid (∀ w, FTab w → Ca 15 #[.int .u8 f] w (.bool true)))
    (h1 : Hid (∀ w, Ca 48 #[.int .u8 m] w (.bool false))) (w : World) (ft : FTab w) :
    Ca 53 #[.int .u8 f, .agg #[.int .u8 m, .bool t], .bool ng, .int .i64 ex, U4 x0 x1 x2 x3] w (.agg #[.int .u64 0, .int .u64 0, .int .u8 0]) := by
  simp only [Ca, U4] at *
  go_enter Tryz.func53, Tryz.ntmps53
  go_wp2_with fail
  refine vM (h0.out _ (ft.later (bA (bA (bA bR _) _) _))) fun w1 b1 => ?_
  have gX2 : w.heap.size ≤ w.heap.size + 1 + 1 := by omega
  have X0 := (((HB.newAt (b := w.heap.size) (by simp) _ _).alloc _).alloc _).later b1
  have X2 := (HB.newAt (b := w.heap.size + 1 + 1) (by simp) _ _).later b1
  have oX0 := X0.o
  go_wp2_with fail
  refine vM (h1.out _) fun w2 b2 => ?_
  clear oX0
  replace X2 := X2.later b2
  have oX2 := X2.o
  go_wp2_with fail
  refine bodyPost_ret (v := .agg #[.int .u64 0, .int .u64 0, .int .u8 0]) ?_ rfl ⟨rfl, ((((bC (bC (bA (bA (bA bR _) _) _) b1) b2).setCell (p := ⟨w.heap.size + 1 + 1, 0, none⟩) gX2 _).setCell (p := ⟨w.heap.size + 1 + 1, 1, none⟩) gX2 _).setCell (p := ⟨w.heap.size + 1 + 1, 2, none⟩) gX2 _)⟩
  simp [results, Tryz.results53, go_sem, oX2]
theorem pk_Round_zero (f m ex x0 x1 x2 x3 rh rl : Int) (t ng : Bool)
    (h0 : Hid (∀ w, FTab w → Ca 15 #[.int .u8 f] w (.bool true)))
    (h1 : Hid (∀ w, Ca 48 #[.int .u8 m] w (.bool true)))
    (h2 : Hid (∀ w, Ca 51 #[U4 x0 x1 x2 x3] w (.bool true)))
    (h3 : Hid (∀ w, FTab w → Ca 24 #[.int .u8 f, .bool ng] w (U2 rh rl))) (w : World) (ft : FTab w) :
    Ca 53 #[.int .u8 f, .agg #[.int .u8 m, .bool t], .bool ng, .int .i64 ex, U4 x0 x1 x2 x3] w (.agg #[.int .u64 rh, .int .u64 rl, .int .u8 0]) := by
  simp only [Ca, U2, U4] at *
  go_enter Tryz.func53, Tryz.ntmps53
  go_wp2_with fail
  refine vM (h0.out _ (ft.later (bA (bA (bA bR _) _) _))) fun w1 b1 => ?_
  have gX2 : w.heap.size ≤ w.heap.size + 1 + 1 := by omega
  have X0 := (((HB.newAt (b := w.heap.size) (by simp) _ _).alloc _).alloc _).later b1
  have X1 := ((HB.newAt (b := w.heap.size + 1) (by simp) _ _).alloc _).later b1
  have X2 := (HB.newAt (b := w.heap.size + 1 + 1) (by simp) _ _).later b1
  have oX0 := X0.o
  go_wp2_with fail
  refine vM (h1.out _) fun w2 b2 => ?_
  clear oX0
  replace X1 := X1.later b2
  have oX1 := X1.o
  go_wp2_with fail
  refine vM (h2.out _) fun w3 b3 => ?_
  clear oX1
  go_wp2_with fail
  refine vM (h3.out _ (ft.later (bC (bC (bC (bA (bA (bA bR _) _) _) b1) b2) b3))) fun w4 b4 => ?_
  replace X2 := X2.later (bC (bC b2 b3) b4)
  have oX2 := X2.o
  go_wp2_with fail
  refine bodyPost_ret (v := .agg #[.int .u64 rh, .int .u64 rl, .int .u8 0]) ?_ rfl ⟨rfl, ((((bC (bC (bC (bC (bA (bA (bA bR _) _) _) b1) b2) b3) b4).setCell (p := ⟨w.heap.size + 1 + 1, 0, none⟩) gX2 _).setCell (p := ⟨w.heap.size + 1 + 1, 1, none⟩) gX2 _).setCell (p := ⟨w.heap.size + 1 + 1, 2, none⟩) gX2 _)⟩
  simp [results, Tryz.results53, go_sem, oX2]
theorem pk_Round_main (f m ex x0 x1 x2 x3 p em c rh rl fl y0 y1 y2 y3 : Int) (t ng : Bool)
    (h0 : Hid (∀ w, FTab w → Ca 15 #[.int .u8 f] w (.bool true)))
    (h1 : Hid (∀ w, Ca 48 #[.int .u8 m] w (.bool true)))
    (h2 : Hid (∀ w, Ca 51 #[U4 x0 x1 x2 x3] w (.bool false)))
    (h3 : Hid (∀ w, FTab w → Ca 112 #[.int .u8 f, .bool ng, .int .i64 ex, U4 x0 x1 x2 x3] w (.agg #[.int .u8 f, .int .i64 p, .int .i64 em, .bool ng, .int .i64 c, .int .u64 y0, .int .u64 y1, .int .u64 y2, .int .u64 y3])))
    (h4 : Hid (∀ w, FTab w → Ca 113 #[.agg #[.int .u8 f, .int .i64 p, .int .i64 em, .bool ng, .int .i64 c, .int .u64 y0, .int .u64 y1, .int .u64 y2, .int .u64 y3], .agg #[.int .u8 m, .bool t]] w (.agg #[.int .u64 rh, .int .u64 rl, .int .u8 fl]))) (w : World) (ft : FTab w) :
    Ca 53 #[.int .u8 f, .agg #[.int .u8 m, .bool t], .bool ng, .int .i64 ex, U4 x0 x1 x2 x3] w (.agg #[.int .u64 rh, .int .u64 rl, .int .u8 fl]) := by
  simp only [Ca, U4] at *
  go_enter Tryz.func53, Tryz.ntmps53
  go_wp2_with fail
  refine vM (h0.out _ (ft.later (bA (bA (bA bR _) _) _))) fun w1 b1 => ?_
  have gX2 : w.heap.size ≤ w.heap.size + 1 + 1 := by omega
  have X0 := (((HB.newAt (b := w.heap.size) (by simp) _ _).alloc _).alloc _).later b1
  have X1 := ((HB.newAt (b := w.heap.size + 1) (by simp) _ _).alloc _).later b1
  have X2 := (HB.newAt (b := w.heap.size + 1 + 1) (by simp) _ _).later b1
  have oX0 := X0.o
  go_wp2_with fail
  refine vM (h1.out _) fun w2 b2 => ?_
  clear oX0
  replace X1 := X1.later b2
  have oX1 := X1.o
  go_wp2_with fail
  refine vM (h2.out _) fun w3 b3 => ?_
  clear oX1
  go_wp2_with fail
  replace X0 := X0.later (bC b2 b3)
  replace X1 := X1.later b3
  replace X2 := X2.later (bC b2 b3)
  refine vR [w.heap.size + 1 + 1] fun w4 b4 S4 => ?_
  refine vT 0 S4 ?_
  refine vT 1 S4 ?_
  refine vT 2 S4 ?_
  refine vT 3 S4 ?_ (hy := by intro wq hb; have q := (hb.hb X1 (by simp <;> omega)).o; go_simp; try (with_reducible rfl))
  refine vT 5 S4 ?_ (hy := by intro wq hb; have q := (hb.hb X0 (by simp <;> omega)).o; go_simp; try (with_reducible rfl))
  refine vY1 (vC 4 S4 (h3.out _ (ft.later (bC (bC (bC (bC (bA (bA (bA bR _) _) _) b1) b2) b3) b4))) (fun _ _ => Off.later) fun w5 b5 S5 => ?_)
  refine vY1 (vC 6 S5 (h4.out _ (ft.later (bC (bC (bC (bC (bC (bA (bA (bA bR _) _) _) b1) b2) b3) b4) b5))) (fun _ _ => Off.later) fun w6 b6 S6 => ?_)
  refine vY1 (vO 7 fun K hK => ?_)
  replace X2 := X2.later (bC (bC b4 b5) b6)
  have oX2 := X2.o
  go_simp
  refine hK.out _ _ (Off.set (by simp) (Off.set (by simp) (Off.set (by simp) S6))) fun S7 => ?_
  clear hK K
  refine vP ?_
  refine vD ?_
  go_wp2_with fail
  refine bodyPost_ret (v := .agg #[.int .u64 rh, .int .u64 rl, .int .u8 fl]) ?_ rfl ⟨rfl, ((((bC (bC (bC (bC (bC (bC (bA (bA (bA bR _) _) _) b1) b2) b3) b4) b5) b6).setCell (p := ⟨w.heap.size + 1 + 1, 0, none⟩) gX2 _).setCell (p := ⟨w.heap.size + 1 + 1, 1, none⟩) gX2 _).setCell (p := ⟨w.heap.size + 1 + 1, 2, none⟩) gX2 _)⟩
  simp [results, Tryz.results53, go_sem, oX2]
theorem pk_Exact_no (f ex x0 x1 x2 x3 : Int) (ng : Bool)
    (h0 : Hid (∀ w, FTab w → Calls Tryz.prog 15 #[.int .u8 f] w fun e w' => e = .returned (.bool false) ∧ Below w.heap.size w w')) (w : World) (ft : FTab w) :
    Calls Tryz.prog 89 #[.int .u8 f, .bool ng, .int .i64 ex, .agg #[.int .u64 x0, .int .u64 x1, .int .u64 x2, .int .u64 x3]] w fun e w' => e = .returned (.tuple #[.agg #[.int .u64 0, .int .u64 0], .bool false]) ∧ Below w.heap.size w w' := by
  go_enter Tryz.func89, Tryz.ntmps89
  go_wp2_with fail
  (with_reducible refine (h0.out _ (ft.later (bA (bA bR _) _))).mono ?_); rintro e w1 ⟨rfl, hb⟩
  have hz := bC (bA (bA bR _) _) hb
  have gX1 : w.heap.size ≤ w.heap.size + 1 := by omega
  have cX1_0 := cL hb (a := ⟨w.heap.size + 1, 0, none⟩) (v := .int .u64 0) (by go_simp)
  have cX1_1 := cL hb (a := ⟨w.heap.size + 1, 1, none⟩) (v := .int .u64 0) (by go_simp)
  have sX1 : w.heap.size + 1 < w1.heap.size ∧ w.heap.size < w1.heap.size := by have h : w.heap.size + 1 < w1.heap.size := bL cX1_0; exact ⟨h, by omega⟩
  have fX1_0 := fL hb (a := ⟨w.heap.size + 1, 0, none⟩) (v := .int .u64 0) (by go_simp) (by go_simp)
  have fX1_1 := fL hb (a := ⟨w.heap.size + 1, 1, none⟩) (v := .int .u64 0) (by go_simp) (by go_simp)
  have kk := hz
  clear hb hz
  have NW := BoxF.set (⟨Box.of cX1_0 cX1_1, fX1_0, fX1_1⟩ : BoxF w1 (w.heap.size + 1) _ _) 0 0
  have KEY : Hid (((w1.setCell ⟨w.heap.size + 1, 0, none⟩ (.int .u64 0)).setCell ⟨w.heap.size + 1, 1, none⟩ (.int .u64 0)).cell? ⟨w.heap.size + 1, 0, none⟩ = some (.int .u64 0) ∧ ((w1.setCell ⟨w.heap.size + 1, 0, none⟩ (.int .u64 0)).setCell ⟨w.heap.size + 1, 1, none⟩ (.int .u64 0)).cell? ⟨w.heap.size + 1, 1, none⟩ = some (.int .u64 0) ∧ Below w.heap.size w ((w1.setCell ⟨w.heap.size + 1, 0, none⟩ (.int .u64 0)).setCell ⟨w.heap.size + 1, 1, none⟩ (.int .u64 0))) := lH ⟨NW.1.2.1, NW.1.2.2, (bS kk gX1 _ _)⟩
  clear NW
  go_wp2_with fail
  obtain ⟨e0, e1, kb⟩ := KEY.out
  clear KEY
  refine bodyPost_ret (v := .tuple #[.agg #[.int .u64 0, .int .u64 0], .bool false]) ?_ rfl ⟨rfl, kb⟩
  simp [results, Tryz.results89, go_sem, e0, e1]
theorem pk_Exact_flag (f ex x0 x1 x2 x3 rh rl fl : Int) (ng : Bool)
    (h0 : Hid (∀ w, FTab w → Calls Tryz.prog 15 #[.int .u8 f] w fun e w' => e = .returned (.bool true) ∧ Below w.heap.size w w'))
    (h1 : Hid (∀ w, FTab w → Calls Tryz.prog 53 #[.int .u8 f, .agg #[.int .u8 4, .bool false], .bool ng, .int .i64 ex, .agg #[.int .u64 x0, .int .u64 x1, .int .u64 x2, .int .u64 x3]] w fun e w' => e = .returned (.agg #[.int .u64 rh, .int .u64 rl, .int .u8 fl]) ∧ Below w.heap.size w w')) (g1 : (fl != 0) = true) (w : World) (ft : FTab w) :
    Calls Tryz.prog 89 #[.int .u8 f, .bool ng, .int .i64 ex, .agg #[.int .u64 x0, .int .u64 x1, .int .u64 x2, .int .u64 x3]] w fun e w' => e = .returned (.tuple #[.agg #[.int .u64 0, .int .u64 0], .bool false]) ∧ Below w.heap.size w w' := by
  go_enter Tryz.func89, Tryz.ntmps89
  go_wp2_with fail
  (with_reducible refine (h0.out _ (ft.later (bA (bA bR _) _))).mono ?_); rintro e w1 ⟨rfl, hb⟩
  have hz := bC (bA (bA bR _) _) hb
  have gX1 : w.heap.size ≤ w.heap.size + 1 := by omega
  have cX0_0 := cL hb (a := ⟨w.heap.size, 0, none⟩) (v := .int .u64 x0) (by go_simp)
  have cX0_1 := cL hb (a := ⟨w.heap.size, 1, none⟩) (v := .int .u64 x1) (by go_simp)
  have cX0_2 := cL hb (a := ⟨w.heap.size, 2, none⟩) (v := .int .u64 x2) (by go_simp)
  have cX0_3 := cL hb (a := ⟨w.heap.size, 3, none⟩) (v := .int .u64 x3) (by go_simp)
  have sX0 : w.heap.size < w1.heap.size := bL cX0_0
  have cX1_0 := cL hb (a := ⟨w.heap.size + 1, 0, none⟩) (v := .int .u64 0) (by go_simp)
  have cX1_1 := cL hb (a := ⟨w.heap.size + 1, 1, none⟩) (v := .int .u64 0) (by go_simp)
  have sX1 : w.heap.size + 1 < w1.heap.size ∧ w.heap.size < w1.heap.size := by have h : w.heap.size + 1 < w1.heap.size := bL cX1_0; exact ⟨h, by omega⟩
  have fX1_0 := fL hb (a := ⟨w.heap.size + 1, 0, none⟩) (v := .int .u64 0) (by go_simp) (by go_simp)
  have fX1_1 := fL hb (a := ⟨w.heap.size + 1, 1, none⟩) (v := .int .u64 0) (by go_simp) (by go_simp)
  have kk := hz
  clear hb hz
  go_wp2_with fail
  (with_reducible refine (h1.out _ (ft.later kk)).mono ?_); rintro e w2 ⟨rfl, hb⟩
  clear cX0_0 cX0_1 cX0_2 cX0_3 sX0
  replace fX1_0 := fL hb cX1_0 fX1_0; replace fX1_1 := fL hb cX1_1 fX1_1
  replace cX1_0 := cL hb cX1_0; replace cX1_1 := cL hb cX1_1
  replace sX1 : w.heap.size + 1 < w2.heap.size ∧ w.heap.size < w2.heap.size := by have h : w.heap.size + 1 < w2.heap.size := bL cX1_0; exact ⟨h, by omega⟩
  replace kk := bC kk hb
  clear hb
  have NW := BoxF.set (⟨Box.of cX1_0 cX1_1, fX1_0, fX1_1⟩ : BoxF w2 (w.heap.size + 1) _ _) 0 0
  have KEY : Hid ((((w2.setCell ⟨w.heap.size + 1, 0, none⟩ (.int .u64 0)).setCell ⟨w.heap.size + 1, 1, none⟩ (.int .u64 0)).alloc (.cells #[.int .u64 rh, .int .u64 rl, .int .u8 fl] 30)).cell? ⟨w.heap.size + 1, 0, none⟩ = some (.int .u64 0) ∧ (((w2.setCell ⟨w.heap.size + 1, 0, none⟩ (.int .u64 0)).setCell ⟨w.heap.size + 1, 1, none⟩ (.int .u64 0)).alloc (.cells #[.int .u64 rh, .int .u64 rl, .int .u8 fl] 30)).cell? ⟨w.heap.size + 1, 1, none⟩ = some (.int .u64 0) ∧ Below w.heap.size w (((w2.setCell ⟨w.heap.size + 1, 0, none⟩ (.int .u64 0)).setCell ⟨w.heap.size + 1, 1, none⟩ (.int .u64 0)).alloc (.cells #[.int .u64 rh, .int .u64 rl, .int .u8 fl] 30))) := lH ⟨(cL (bA bR _) NW.1.2.1), (cL (bA bR _) NW.1.2.2), (bA (bS kk gX1 _ _) _)⟩
  clear NW
  go_wp2_with fail
  obtain ⟨e0, e1, kb⟩ := KEY.out
  clear KEY
  refine bodyPost_ret (v := .tuple #[.agg #[.int .u64 0, .int .u64 0], .bool false]) ?_ rfl ⟨rfl, kb⟩
  simp [results, Tryz.results89, go_sem, e0, e1]
theorem pk_Exact_yes (f ex x0 x1 x2 x3 rh rl : Int) (ng : Bool)
    (h0 : Hid (∀ w, FTab w → Calls Tryz.prog 15 #[.int .u8 f] w fun e w' => e = .returned (.bool true) ∧ Below w.heap.size w w'))
    (h1 : Hid (∀ w, FTab w → Calls Tryz.prog 53 #[.int .u8 f, .agg #[.int .u8 4, .bool false], .bool ng, .int .i64 ex, .agg #[.int .u64 x0, .int .u64 x1, .int .u64 x2, .int .u64 x3]] w fun e w' => e = .returned (.agg #[.int .u64 rh, .int .u64 rl, .int .u8 0]) ∧ Below w.heap.size w w')) (w : World) (ft : FTab w) :
    Calls Tryz.prog 89 #[.int .u8 f, .bool ng, .int .i64 ex, .agg #[.int .u64 x0, .int .u64 x1, .int .u64 x2, .int .u64 x3]] w fun e w' => e = .returned (.tuple #[.agg #[.int .u64 rh, .int .u64 rl], .bool true]) ∧ Below w.heap.size w w' := by
  go_enter Tryz.func89, Tryz.ntmps89
  go_wp2_with fail
  (with_reducible refine (h0.out _ (ft.later (bA (bA bR _) _))).mono ?_); rintro e w1 ⟨rfl, hb⟩
  have hz := bC (bA (bA bR _) _) hb
  have gX1 : w.heap.size ≤ w.heap.size + 1 := by omega
  have cX0_0 := cL hb (a := ⟨w.heap.size, 0, none⟩) (v := .int .u64 x0) (by go_simp)
  have cX0_1 := cL hb (a := ⟨w.heap.size, 1, none⟩) (v := .int .u64 x1) (by go_simp)
  have cX0_2 := cL hb (a := ⟨w.heap.size, 2, none⟩) (v := .int .u64 x2) (by go_simp)
  have cX0_3 := cL hb (a := ⟨w.heap.size, 3, none⟩) (v := .int .u64 x3) (by go_simp)
  have sX0 : w.heap.size < w1.heap.size := bL cX0_0
  have cX1_0 := cL hb (a := ⟨w.heap.size + 1, 0, none⟩) (v := .int .u64 0) (by go_simp)
  have cX1_1 := cL hb (a := ⟨w.heap.size + 1, 1, none⟩) (v := .int .u64 0) (by go_simp)
  have sX1 : w.heap.size + 1 < w1.heap.size ∧ w.heap.size < w1.heap.size := by have h : w.heap.size + 1 < w1.heap.size := bL cX1_0; exact ⟨h, by omega⟩
  have fX1_0 := fL hb (a := ⟨w.heap.size + 1, 0, none⟩) (v := .int .u64 0) (by go_simp) (by go_simp)
  have fX1_1 := fL hb (a := ⟨w.heap.size + 1, 1, none⟩) (v := .int .u64 0) (by go_simp) (by go_simp)
  have kk := hz
  clear hb hz
  go_wp2_with fail
  (with_reducible refine (h1.out _ (ft.later kk)).mono ?_); rintro e w2 ⟨rfl, hb⟩
  clear cX0_0 cX0_1 cX0_2 cX0_3 sX0
  replace fX1_0 := fL hb cX1_0 fX1_0; replace fX1_1 := fL hb cX1_1 fX1_1
  replace cX1_0 := cL hb cX1_0; replace cX1_1 := cL hb cX1_1
  replace sX1 : w.heap.size + 1 < w2.heap.size ∧ w.heap.size < w2.heap.size := by have h : w.heap.size + 1 < w2.heap.size := bL cX1_0; exact ⟨h, by omega⟩
  replace kk := bC kk hb
  clear hb
  have NW := BoxF.set (⟨Box.of cX1_0 cX1_1, fX1_0, fX1_1⟩ : BoxF w2 (w.heap.size + 1) _ _) rh rl
  have KEY : Hid ((((w2.setCell ⟨w.heap.size + 1, 0, none⟩ (.int .u64 rh)).setCell ⟨w.heap.size + 1, 1, none⟩ (.int .u64 rl)).alloc (.cells #[.int .u64 rh, .int .u64 rl, .int .u8 0] 30)).cell? ⟨w.heap.size + 1, 0, none⟩ = some (.int .u64 rh) ∧ (((w2.setCell ⟨w.heap.size + 1, 0, none⟩ (.int .u64 rh)).setCell ⟨w.heap.size + 1, 1, none⟩ (.int .u64 rl)).alloc (.cells #[.int .u64 rh, .int .u64 rl, .int .u8 0] 30)).cell? ⟨w.heap.size + 1, 1, none⟩ = some (.int .u64 rl) ∧ Below w.heap.size w (((w2.setCell ⟨w.heap.size + 1, 0, none⟩ (.int .u64 rh)).setCell ⟨w.heap.size + 1, 1, none⟩ (.int .u64 rl)).alloc (.cells #[.int .u64 rh, .int .u64 rl, .int .u8 0] 30))) := lH ⟨(cL (bA bR _) NW.1.2.1), (cL (bA bR _) NW.1.2.2), (bA (bS kk gX1 _ _) _)⟩
  clear NW
  go_wp2_with fail
  obtain ⟨e0, e1, kb⟩ := KEY.out
  clear KEY
  refine bodyPost_ret (v := .tuple #[.agg #[.int .u64 rh, .int .u64 rl], .bool true]) ?_ rfl ⟨rfl, kb⟩
  simp [results, Tryz.results89, go_sem, e0, e1]
end Go.Proofs.YtjdjonekoodalaaGreatDoor
namespace Go.Proofs.YtjdjonekoodalaaGreatDoor
open Go.RowKit
attribute [local go_sem ↓] Go.wp_at_zero Go.wp_at_succ
theorem pk_cut (s k m : Int) (ng : Bool) (h0 : 0 ≤ s) (h1 : s < wfull) (k0 : 0 ≤ k) (k1 : k ≤ 127) (m0 : 0 ≤ m) (m5 : m < 5) (vp : Nat × Nat × Nat) (w : World) (h : RoundIn w k m ng vp) :
    Calls Tryz.prog 181 #[.agg #[.int .u64 (wd0 s), .int .u64 (wd1 s), .int .u64 (wd2 s), .int .u64 (wd3 s)], .pointer (some ⟨vp.1, 0, none⟩), .pointer (some ⟨vp.2.1, 0, none⟩), .pointer (some ⟨vp.2.2, 0, none⟩)] w fun e w' =>
      e = .returned (.tuple #[.agg #[.int .u64 (hiOf (cutQ s (256 - k) false m ng)), .int .u64 (loOf (cutQ s (256 - k) false m ng))], .bool (restQ s (256 - k) false != 0)]) ∧ Below w.heap.size w w' := by
  have C := round_cut s k m ng h0 h1 (by omega) (by omega) m0 (by omega)
  rw [(cut_yes ⟨⟨k0, k1⟩, m5⟩ s ng).1, (cut_yes ⟨⟨k0, k1⟩, m5⟩ s ng).2] at C
  exact pk_cut_core vp.1 vp.2.1 vp.2.2 k m _ _ _ _ _ _ ng _ (lH C) w h.1 h.2.1 h.2.2
theorem pk_levelN (f e : Int) (w : World) (ft : FTab w) : Calls Tryz.prog 153 #[.agg #[.int .u8 f, .int .i64 (fP f), .int .i64 (fE f)], .int .i64 e] w fun r w' => r = .returned (.int .i64 (pkL f e)) ∧ Below w.heap.size w w' := by
  have := fE_le f
  exact pk_level f _ _ e (1 - fE f) _ (IntWalk.i64_in _ (by omega)) rfl rfl w
theorem pk_carriedN {f e n : Int} (f0 : 0 ≤ f) (hf : f < 4) (e0 : -2000000000000 ≤ e) (e1 : e ≤ 2000000000000) (n0 : 0 ≤ n) (n1 : n ≤ 2 ^ fP f) (w : World) (ft : FTab w) :
    Calls Tryz.prog 149 #[.agg #[.int .u8 f, .int .i64 (fP f), .int .i64 (fE f)], .int .i64 e, .agg #[.int .u64 (hiOf n), .int .u64 (loOf n)]] w fun r w' => r = .returned (.int .i64 (if n = 2 ^ fP f then e + 1 else e)) ∧ Below w.heap.size w w' := by
  obtain ⟨p0, p1, p2, p3, p4, p5, p6, p7, p8⟩ := f_nums f0 hf
  have hp := two_pow_pos (fP f)
  have nf : n < full := by
    have := two_pow_le (show fP f ≤ 127 by omega)
    have : (2 : Int) ^ 127 < full := by decide +kernel
    omega
  have B := bit_any (hiOf n) (loOf n) (fP f) (hiOf_u _) (loOf_u _)
  rw [val_hiLo_mod, Int.emod_eq_of_lt n0 nf] at B
  by_cases h : n = 2 ^ fP f
  · have b : bitI n (fP f) = true := by
      unfold bitI
      rw [Int.toNat_natCast, h, Int.ediv_self (by omega)]
      simp; omega
    rw [b] at B
    rw [if_pos h]
    exact pk_carried_yes f _ _ e _ _ _ (lH B) (IntWalk.i64_in _ (by omega)) (by unfold wrap64; omega) w
  · have b : bitI n (fP f) = false := by
      unfold bitI
      rw [Int.toNat_natCast, Int.ediv_eq_zero_of_lt n0 (by omega)]
      simp
    rw [b] at B
    rw [if_neg h]
    exact pk_carried_no f _ _ e _ _ (lH B) w
theorem pk_encodeN {f e s n : Int} {ng : Bool} (f0 : 0 ≤ f) (hf : f < 4) (l1 : pkL f e ≤ fE f) (x0 x1 x2 x3 : Int) (w : World) (ft : FTab w) :
    Calls Tryz.prog 154 #[.agg #[.int .u8 f, .int .i64 (fP f), .int .i64 (fE f), .bool ng, .int .i64 e, .int .u64 x0, .int .u64 x1, .int .u64 x2, .int .u64 x3], .agg #[.int .u64 (hiOf n), .int .u64 (loOf n)]] w fun r w' =>
      r = .returned (.agg #[.int .u64 (hiOf (ptF f ng (pkL f e) n)), .int .u64 (loOf (ptF f ng (pkL f e) n))]) ∧ Below w.heap.size w w' := by
  obtain ⟨p0, p1, p2, p3, p4, p5, p6, p7, p8⟩ := f_nums f0 hf
  have l0 : 1 - fE f ≤ pkL f e := by rcases pkL_cases f e with ⟨_, h⟩ | ⟨_, h⟩ <;> omega
  have M := formOK.make f ng (pkL f e + fE f - 1) 0 f0 (by omega) (by omega) (by omega)
  rw [Int.zero_emod] at M
  have v : makeF f ng (pkL f e + fE f - 1) 0 + n = ptF f ng (pkL f e) n := by
    unfold makeF ptF
    rw [if_pos hf, expOf_id f0 hf (by omega) (by omega), Int.zero_emod]; omega
  have A := addB (makeF f ng (pkL f e + fE f - 1) 0) n
  rw [v] at A
  exact pk_encode f _ _ e (pkL f e) (pkL f e + fE f) (pkL f e + fE f - 1) _ _ _ _ _ _ x0 x1 x2 x3 ng _ (lH (pk_levelN f e)) (lH M) (lH A) (IntWalk.i64_in _ (by omega)) (IntWalk.i64_in _ (by omega)) (by unfold wrap64; omega) w ft
theorem pk_tinyN {f : Int} (f0 : 0 ≤ f) (hf : f < 4) (e : Int) (e0 : -2000000000000 ≤ e) (e1 : e ≤ 2000000000000) (w : World) (ft : FTab w) : Calls Tryz.prog 187 #[.agg #[.int .u8 f, .int .i64 (fP f), .int .i64 (fE f)], .int .i64 e] w fun r w' => r = .returned (.bool (decide (e < 1 - fE f))) ∧ Below w.heap.size w w' := by
  have T := overOK.tiny f e f0 (by omega) (by omega) (by omega)
  rw [show decide (f < 4) = true from decide_eq_true hf, Bool.true_and] at T
  exact pk_tiny f _ _ e _ (lH T) w ft
theorem pk_inexactN {f : Int} (f0 : 0 ≤ f) (hf : f < 4) (m e a : Int) (t ng : Bool) (e0 : -2000000000000 ≤ e) (e1 : e ≤ 2000000000000) (a0 : -2000000000000 ≤ a) (a1 : a ≤ 2000000000000) (x0 x1 x2 x3 : Int) (w : World) (ft : FTab w) :
    Calls Tryz.prog 155 #[.agg #[.int .u8 f, .int .i64 (fP f), .int .i64 (fE f), .bool ng, .int .i64 e, .int .u64 x0, .int .u64 x1, .int .u64 x2, .int .u64 x3], .agg #[.int .u8 m, .bool t], .int .i64 a] w fun r w' =>
      r = .returned (.int .u8 (if (if t then a else e) < 1 - fE f then 24 else 16)) ∧ Below w.heap.size w w' := by
  cases t with
  | true =>
    have T := pk_tinyN f0 hf a a0 a1
    simp only [if_true]
    by_cases h : a < 1 - fE f
    · rw [show decide (a < 1 - (fE f : Int)) = true from decide_eq_true h] at T
      rw [if_pos h]
      exact pk_inexact_11 f _ _ e m a x0 x1 x2 x3 ng (lH T) w ft
    · rw [show decide (a < 1 - (fE f : Int)) = false from decide_eq_false h] at T
      rw [if_neg h]
      exact pk_inexact_10 f _ _ e m a x0 x1 x2 x3 ng (lH T) w ft
  | false =>
    have T := pk_tinyN f0 hf e e0 e1
    simp only [Bool.false_eq_true, if_false]
    by_cases h : e < 1 - fE f
    · rw [show decide (e < 1 - (fE f : Int)) = true from decide_eq_true h] at T
      rw [if_pos h]
      exact pk_inexact_01 f _ _ e m a x0 x1 x2 x3 ng (lH T) w ft
    · rw [show decide (e < 1 - (fE f : Int)) = false from decide_eq_false h] at T
      rw [if_neg h]
      exact pk_inexact_00 f _ _ e m a x0 x1 x2 x3 ng (lH T) w ft
theorem pk_roundN {f m e s : Int} {ng : Bool} (t : Bool) (f0 : 0 ≤ f) (hf : f < 4) (m0 : 0 ≤ m) (hm : m < 5) (e0 : -1999999999999 ≤ e) (e1 : e ≤ 1999999999999) (s0 : 2 ^ 255 ≤ s) (s1 : s < 2 ^ 256) (w : World) (ft : FTab w) :
    Calls Tryz.prog 113 #[.agg #[.int .u8 f, .int .i64 (fP f), .int .i64 (fE f), .bool ng, .int .i64 e, .int .u64 (wd0 s), .int .u64 (wd1 s), .int .u64 (wd2 s), .int .u64 (wd3 s)], .agg #[.int .u8 m, .bool t]] w fun r w' =>
      r = .returned (.agg #[.int .u64 (hiOf (numB f m ng e s)), .int .u64 (loOf (numB f m ng e s)), .int .u8 (numFl f m t ng e s)]) ∧ Below w.heap.size w w' := by
  obtain ⟨p0, p1, p2, p3, p4, p5, p6, p7, p8⟩ := f_nums f0 hf
  have hp := two_pow_pos 255
  have w1 : s < wfull := by rw [← wfull_pow]; exact s1
  have RN := lH fun w => pk_rounder (fP f) m ng w
  have CU := lH fun vp w h => pk_cut s (fP f) m ng (by omega) w1 (by omega) (by omega) m0 hm vp w h
  have c1 := (cut_le16 (k := fP f) (n := 256 - fP f) (by omega) (by omega) s1 m ng).2
  have c0 := (cut_pos16 (n := 256 - fP f) (by omega) (show 0 ≤ s by omega) m ng).2
  have CA := pk_carriedN (e := e) f0 hf (by omega) (by omega) c0 c1
  have ar : -2000000000000 ≤ pkA f m ng e s ∧ pkA f m ng e s ≤ 2000000000000 := by rcases pkA_cases f m ng e s with ⟨h, _⟩ | ⟨h, _⟩ <;> omega
  have BY := overOK.beyond f (pkA f m ng e s) f0 (by omega) (by omega) (by omega)
  rw [show decide (f < 4) = true from decide_eq_true hf, Bool.true_and] at BY
  have BN := lH fun w ft => pk_beyond f (fP f) (fE f) (pkA f m ng e s) _ (lH BY) w ft
  unfold numB numFl
  by_cases ov : fE f < pkA f m ng e s
  · rw [if_pos ov, if_pos ov]
    rw [show decide ((fE f : Int) < pkA f m ng e s) = true from decide_eq_true ov] at BN
    exact pk_round_over f _ _ e m _ _ (pkA f m ng e s) _ _ _ _ _ _ _ ng t _ (lH CA) BN (lH (overOK.over f m ng f0 (by omega) m0 (by omega))) RN CU w ft
  · rw [if_neg ov, if_neg ov]
    rw [show decide ((fE f : Int) < pkA f m ng e s) = false from decide_eq_false ov] at BN
    have le : pkL f e ≤ fE f ∧ e ≤ pkL f e ∧ 1 - fE f ≤ pkL f e := by
      rcases pkA_cases f m ng e s with ⟨h, _⟩ | ⟨h, _⟩ <;> rcases pkL_cases f e with ⟨g, h2⟩ | ⟨g, h2⟩ <;> omega
    obtain ⟨d, hd⟩ : ∃ d : Nat, pkL f e - e = d := ⟨(pkL f e - e).toNat, by omega⟩
    have WJ := wjamW s (pkL f e - e) (by omega) (by omega)
    rw [Int.emod_eq_of_lt (by omega) w1, hd, Int.toNat_natCast] at WJ
    obtain ⟨j0, j1⟩ := jam_lt (by omega) w1 wfull_even d
    have CN := lH fun vp w h => pk_cut (jamN s d) (fP f) m ng j0 j1 (by omega) (by omega) m0 hm vp w h
    obtain ⟨e1, e2⟩ := jam_cut16 s d (n := 256 - fP f) (by omega) m ng
    rw [e1, e2] at CN
    have hN : cutQ s (256 - fP f + d) false m ng = pkN f m ng e s := by unfold pkN; rw [hd]
    have hR : restQ s (256 - fP f + d) false = pkR f e s := by unfold pkR; rw [hd]
    rw [hN, hR] at CN
    have LV := lH (pk_levelN f e)
    have EN := lH (pk_encodeN (ng := ng) (n := pkN f m ng e s) (s := s) f0 hf le.1 (wd0 s) (wd1 s) (wd2 s) (wd3 s))
    have W1 : IntKind.i64.wrap (pkL f e - e) = (d : Int) := by rw [IntWalk.i64_in _ (by omega)]; exact hd
    by_cases r : pkR f e s = 0
    · rw [if_pos r]
      rw [show (pkR f e s != 0) = false by simp [r]] at CN
      exact pk_round_exact f _ _ e m _ _ (pkA f m ng e s) (pkL f e) d _ _ _ _ _ _ _ _ _ _ _ _ ng t _ (lH CA) BN LV (lH WJ) EN RN CU CN W1 w ft
    · rw [if_neg r]
      rw [show (pkR f e s != 0) = true by simp [r]] at CN
      have IX := lH (pk_inexactN f0 hf m e (pkA f m ng e s) t ng (by omega) (by omega) ar.1 ar.2 (wd0 s) (wd1 s) (wd2 s) (wd3 s))
      exact pk_round_inexact f _ _ e m _ _ (pkA f m ng e s) (pkL f e) d _ _ _ _ _ _ _ _ _ _ _ _ _ ng t _ (lH CA) BN LV (lH WJ) EN IX RN CU CN W1 w ft
theorem pk_numberInN {f x ex : Int} {ng : Bool} (f0 : 0 ≤ f) (hf : f < 4) (x0 : 0 ≤ x) (x1 : x < wfull) (w : World) (ft : FTab w) :
    Calls Tryz.prog 112 #[.int .u8 f, .bool ng, .int .i64 ex, .agg #[.int .u64 (wd0 x), .int .u64 (wd1 x), .int .u64 (wd2 x), .int .u64 (wd3 x)]] w fun r w' =>
      r = .returned (.agg #[.int .u8 f, .int .i64 (fP f), .int .i64 (fE f), .bool ng, .int .i64 (pkE ex x), .int .u64 (wd0 (pkS x)), .int .u64 (wd1 (pkS x)), .int .u64 (wd2 (pkS x)), .int .u64 (wd3 (pkS x))]) ∧ Below w.heap.size w w' := by
  have RW := wraiseW x
  rw [Int.emod_eq_of_lt x0 x1] at RW
  have cr := clip_range ex; have ul := up_le 256 x
  have W1 : IntKind.i64.wrap (clipE ex - upN 256 x) = pkE ex x := IntWalk.i64_in _ (by omega)
  have c1 : (if (1099511627776 : Int) < (if (-1099511627776 : Int) > ex then -1099511627776 else ex) then 1099511627776 else (if (-1099511627776 : Int) > ex then -1099511627776 else ex)) = clipE ex := by
    unfold clipE; repeat' split
    all_goals omega
  exact pk_numberIn f _ _ ex _ (clipE ex) _ _ _ _ _ _ _ _ _ _ ng (lH RW) (lH (formOK.prec f f0 (by omega))) (lH (formOK.emax f f0 (by omega))) rfl rfl c1 c1 W1 w ft
theorem pk_RoundN (f m : Int) (t ng : Bool) (ex x : Int) (f0 : 0 ≤ f) (f1 : f ≤ 255) (m0 : 0 ≤ m) (m1 : m ≤ 255) (e0 : -9223372036854775808 ≤ ex) (e1 : ex ≤ 9223372036854775807) (x0 : 0 ≤ x) (x1 : x < wfull) (w : World) (ft : FTab w) :
    Calls Tryz.prog 53 #[.int .u8 f, .agg #[.int .u8 m, .bool t], .bool ng, .int .i64 ex, .agg #[.int .u64 (wd0 x), .int .u64 (wd1 x), .int .u64 (wd2 x), .int .u64 (wd3 x)]] w fun r w' =>
      r = .returned (.agg #[.int .u64 (hiOf (pkB f m ng ex x)), .int .u64 (loOf (pkB f m ng ex x)), .int .u8 (pkFl f m t ng ex x)]) ∧ Below w.heap.size w w' := by
  have K := formOK.known f f0 f1
  have M := modeOK.known m m0 m1
  have Z := zeroW x
  rw [Int.emod_eq_of_lt x0 x1] at Z
  unfold pkB pkFl
  by_cases hf : f < 4
  · rw [show decide (f < 4) = true from decide_eq_true hf] at K
    by_cases hm : m < 5
    · rw [show decide (m < 5) = true from decide_eq_true hm] at M
      rw [if_pos ⟨hf, hm⟩]
      by_cases z : x = 0
      · rw [if_pos z, if_neg (fun h => h.2 z)]
        rw [show (x == 0) = true by simp [z]] at Z
        exact pk_Round_zero f m ex _ _ _ _ _ _ t ng (lH K) (lH M) (lH Z) (lH (formOK.nought f ng f0 f1)) w ft
      · rw [if_neg z, if_pos ⟨⟨hf, hm⟩, z⟩]
        rw [show (x == 0) = false by simp [z]] at Z
        obtain ⟨s0, s1⟩ := pkS_range (show 0 < x by omega) x1
        obtain ⟨q0, q1⟩ := pkE_range ex x
        exact pk_Round_main f m ex _ _ _ _ _ _ _ _ _ _ _ _ _ _ t ng (lH K) (lH M) (lH Z) (lH (pk_numberInN f0 hf x0 x1)) (lH (pk_roundN t f0 hf m0 hm (by omega) (by omega) s0 s1)) w ft
    · rw [show decide (m < 5) = false from decide_eq_false hm] at M
      rw [if_neg (fun h => hm h.2), if_neg (fun h => hm h.1.2)]
      exact pk_Round_no2 f m ex _ _ _ _ t ng (lH K) (lH M) w ft
  · rw [show decide (f < 4) = false from decide_eq_false hf] at K
    rw [if_neg (fun h => hf h.1), if_neg (fun h => hf h.1.1)]
    exact pk_Round_no1 f m ex _ _ _ _ t ng (lH K) w ft
theorem pk_ExactN (f : Int) (ng : Bool) (ex x : Int) (f0 : 0 ≤ f) (f1 : f ≤ 255) (e0 : -9223372036854775808 ≤ ex) (e1 : ex ≤ 9223372036854775807) (x0 : 0 ≤ x) (x1 : x < wfull) (w : World) (ft : FTab w) :
    Calls Tryz.prog 89 #[.int .u8 f, .bool ng, .int .i64 ex, .agg #[.int .u64 (wd0 x), .int .u64 (wd1 x), .int .u64 (wd2 x), .int .u64 (wd3 x)]] w fun r w' =>
      r = .returned (.tuple #[.agg #[.int .u64 (hiOf (if pkX f ng ex x then pkB f 4 ng ex x else 0)), .int .u64 (loOf (if pkX f ng ex x then pkB f 4 ng ex x else 0))], .bool (pkX f ng ex x)]) ∧ Below w.heap.size w w' := by
  have K := formOK.known f f0 f1
  have RD := pk_RoundN f 4 false ng ex x f0 f1 (by decide) (by decide) e0 e1 x0 x1
  unfold pkX
  by_cases hf : f < 4
  · rw [show decide (f < 4) = true from decide_eq_true hf] at K ⊢
    rw [Bool.true_and]
    by_cases z : pkFl f 4 false ng ex x = 0
    · rw [z] at RD ⊢
      exact pk_Exact_yes f ex _ _ _ _ _ _ ng (lH K) (lH RD) w ft
    · rw [show (pkFl f 4 false ng ex x == 0) = false by simp [z]]
      exact pk_Exact_flag f ex _ _ _ _ _ _ _ ng (lH K) (lH RD) (by simp [z]) w ft
  · rw [show decide (f < 4) = false from decide_eq_false hf] at K ⊢
    rw [Bool.false_and]
    exact pk_Exact_no f ex _ _ _ _ ng (lH K) w ft
theorem packOK : PackOK where
  round := fun f m t ng ex x f0 f1 m0 m1 e0 e1 x0 x1 w ft => pk_RoundN f m t ng ex x f0 f1 m0 m1 e0 e1 x0 x1 w ft
  exact_ := fun f ng ex x f0 f1 e0 e1 x0 x1 w ft => pk_ExactN f ng ex x f0 f1 e0 e1 x0 x1 w ft
end Go.Proofs.YtjdjonekoodalaaGreatDoor
