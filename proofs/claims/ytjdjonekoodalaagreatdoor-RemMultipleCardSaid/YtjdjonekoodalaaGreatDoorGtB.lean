import Derived.Test.YtjdjonekoodalaaGreatDoorGvA
import Derived.Test.YtjdjonekoodalaaGreatDoorGaB
set_option maxHeartbeats 4000000
set_option linter.unusedVariables false
set_option linter.unusedSimpArgs false
set_option maxRecDepth 100000
namespace Go.Proofs.YtjdjonekoodalaaGreatDoor
open Go.RowKit
attribute [local go_sem ↓] Go.wp_at_zero Go.wp_at_succ
def FitIn (w : World) (v : Value) (bk : Nat) : Prop := w.cell? ⟨bk, 0, none⟩ = some v
theorem FitIn.later {w w' : World} {v : Value} {bk : Nat} (h : FitIn w v bk) (hb : Below w.heap.size w w') : FitIn w' v bk := cL hb h
theorem mag_of (c em h l j0 j1 j2 j3 : Int) (g : Bool)
    (h0 : Hid (∀ w, Ca 90 #[U2 h l, U2 0 0] w (U4 j0 j1 j2 j3))) (w : World) :
    Ca 111 #[.agg #[.bool g, .int .u8 c, .int .i64 em, .int .u64 h, .int .u64 l]] w (T5 em j0 j1 j2 j3) := by
  simp only [Ca, U2, U4, T5] at *
  go_enter Tryz.func111, Tryz.ntmps111
  go_wp2_with fail
  have gX1 : w.heap.size ≤ w.heap.size + 1 := by omega
  refine vF2 fun w1 b1 X0 X1 => ?_
  refine vR [w.heap.size + 1] fun w2 b2 S2 => ?_
  refine vT 0 S2 ?_
  refine vT 1 S2 ?_ (hy := by intro wq hb; have q := (hb.hb X0 (by simp <;> omega)).o; go_simp; try (with_reducible rfl))
  refine vT 2 S2 ?_
  refine vT 3 S2 ?_ (hy := by intro wq hb; have q := (hb.hb X0 (by simp <;> omega)).o; go_simp; try (with_reducible rfl))
  refine vT 4 S2 ?_
  refine vY1 (vC 5 S2 (h0.out _) (fun _ _ => Off.later) fun w3 b3 S3 => ?_)
  refine vT 6 S3 ?_
  refine vY1 (vO 7 fun K hK => ?_)
  replace X1 := X1.later (bC b2 b3)
  have oX1 := X1.o
  go_simp
  refine hK.out _ _ (Off.set (by simp) (Off.set (by simp) (Off.set (by simp) (Off.set (by simp) (Off.set (by simp) S3))))) fun S4 => ?_
  clear hK K
  refine vP ?_
  refine vD ?_
  go_wp2_with fail
  refine bodyPost_ret (v := .agg #[.int .i64 em, .int .u64 j0, .int .u64 j1, .int .u64 j2, .int .u64 j3]) ?_ rfl ⟨rfl, ((((((bC (bC b1 b2) b3).setCell (p := ⟨w.heap.size + 1, 0, none⟩) gX1 _).setCell (p := ⟨w.heap.size + 1, 1, none⟩) gX1 _).setCell (p := ⟨w.heap.size + 1, 2, none⟩) gX1 _).setCell (p := ⟨w.heap.size + 1, 3, none⟩) gX1 _).setCell (p := ⟨w.heap.size + 1, 4, none⟩) gX1 _)⟩
  simp [results, Tryz.results111, go_sem, oX1]
theorem mag_exponent (ea ca cb x0 x1 x2 x3 : Int)
     (q1 : (if (-1099511627776) > ea then (-1099511627776) else ea) = ca) (q1' : (if ea < (-1099511627776) then (-1099511627776) else ea) = ca) (q2 : (if 1099511627776 < ca then 1099511627776 else ca) = cb) (q2' : (if ca > 1099511627776 then 1099511627776 else ca) = cb) (w : World) :
    Ca 192 #[T5 ea x0 x1 x2 x3] w (.int .i64 cb) := by
  simp only [Ca, T5] at *
  go_enter Tryz.func192, Tryz.ntmps192
  go_wp2_with fail
  go_ret
  exact ⟨rfl, (bA bR _)⟩
theorem mag_aligned (ea l ca d x0 x1 x2 x3 j0 j1 j2 j3 : Int)
    (h0 : Hid (∀ w, Ca 192 #[T5 ea x0 x1 x2 x3] w (.int .i64 ca)))
    (h1 : Hid (∀ w, Ca 152 #[U4 x0 x1 x2 x3, .int .i64 d] w (U4 j0 j1 j2 j3))) (w1 : IntKind.i64.wrap (l - ca) = d) (w : World) :
    Ca 173 #[T5 ea x0 x1 x2 x3, .int .i64 l] w (U4 j0 j1 j2 j3) := by
  simp only [Ca, U4, T5] at *
  go_enter Tryz.func173, Tryz.ntmps173
  go_wp2_with fail
  have gX1 : w.heap.size ≤ w.heap.size + 1 := by omega
  refine vF2 fun w1 b1 X0 X1 => ?_
  refine vR [w.heap.size + 1] fun w2 b2 S2 => ?_
  refine vT 0 S2 ?_
  refine vT 1 S2 ?_ (hy := by intro wq hb; have q := (hb.hb X0 (by simp <;> omega)).o; go_simp; try (with_reducible rfl))
  refine vT 2 S2 ?_
  refine vT 3 S2 ?_ (hy := by intro wq hb; have q := (hb.hb X0 (by simp <;> omega)).o; go_simp; try (with_reducible rfl))
  refine vY1 (vC 4 S2 (h0.out _) (fun _ _ => Off.later) fun w3 b3 S3 => ?_)
  refine vT 5 S3 ?_
  refine vY1 (vC 6 S3 (h1.out _) (fun _ _ => Off.later) fun w4 b4 S4 => ?_)
  refine vY1 (vO 7 fun K hK => ?_)
  replace X1 := X1.later (bC (bC b2 b3) b4)
  have oX1 := X1.o
  go_simp
  refine hK.out _ _ (Off.set (by simp) (Off.set (by simp) (Off.set (by simp) (Off.set (by simp) S4)))) fun S5 => ?_
  clear hK K
  refine vP ?_
  refine vD ?_
  go_wp2_with fail
  refine bodyPost_ret (v := .agg #[.int .u64 j0, .int .u64 j1, .int .u64 j2, .int .u64 j3]) ?_ rfl ⟨rfl, (((((bC (bC (bC b1 b2) b3) b4).setCell (p := ⟨w.heap.size + 1, 0, none⟩) gX1 _).setCell (p := ⟨w.heap.size + 1, 1, none⟩) gX1 _).setCell (p := ⟨w.heap.size + 1, 2, none⟩) gX1 _).setCell (p := ⟨w.heap.size + 1, 3, none⟩) gX1 _)⟩
  simp [results, Tryz.results173, go_sem, oX1]
theorem mag_cmp_lt (ea eb ca cb d r s x0 x1 x2 x3 y0 y1 y2 y3 : Int)
    (h0 : Hid (∀ w, Ca 192 #[T5 ea x0 x1 x2 x3] w (.int .i64 ca)))
    (h1 : Hid (∀ w, Ca 192 #[T5 eb y0 y1 y2 y3] w (.int .i64 cb)))
    (h2 : Hid (∀ w, Ca 191 #[T5 eb y0 y1 y2 y3, T5 ea x0 x1 x2 x3] w (.int .i64 r))) (w1 : IntKind.i64.wrap (ca - cb) = d) (g1 : decide (d < 0) = true) (w2 : IntKind.i64.wrap (-r) = s) (w2x : wrap64 (-r) = s) (w : World) :
    Ca 191 #[T5 ea x0 x1 x2 x3, T5 eb y0 y1 y2 y3] w (.int .i64 s) := by
  simp only [Ca, T5] at *
  go_enter Tryz.func191, Tryz.ntmps191
  go_wp2_with fail
  refine vF2 fun w1 b1 X0 X1 => ?_
  refine vR [] fun w2 b2 S2 => ?_
  refine vT 0 S2 ?_ (hy := by intro wq hb; have q := (hb.hb X0 (by simp)).o; go_simp; try (with_reducible rfl))
  refine vT 2 S2 ?_ (hy := by intro wq hb; have q := (hb.hb X1 (by simp)).o; go_simp; try (with_reducible rfl))
  refine vY1 (vC 1 S2 (h0.out _) (fun _ _ => Off.later) fun w3 b3 S3 => ?_)
  refine vY1 (vC 3 S3 (h1.out _) (fun _ _ => Off.later) fun w4 b4 S4 => ?_)
  refine vT 4 S4 ?_
  refine vT 5 S4 ?_
  refine vD ?_
  replace X1 := X1.later (bC (bC b2 b3) b4)
  have oX1 := X1.o
  replace X0 := X0.later (bC (bC b2 b3) b4)
  have oX0 := X0.o
  go_wp2_with fail
  refine vM (h2.out _) fun w5 b5 => ?_
  clear oX1 oX0
  go_wp2_with fail
  go_ret
  exact ⟨rfl, (bC (bC (bC (bC b1 b2) b3) b4) b5)⟩
theorem mag_cmp_ne (ea eb ca cb d r x0 x1 x2 x3 y0 y1 y2 y3 z0 z1 z2 z3 : Int)
    (h0 : Hid (∀ w, Ca 192 #[T5 ea x0 x1 x2 x3] w (.int .i64 ca)))
    (h1 : Hid (∀ w, Ca 192 #[T5 eb y0 y1 y2 y3] w (.int .i64 cb)))
    (h2 : Hid (∀ w, Ca 200 #[U4 y0 y1 y2 y3, .int .i64 d] w (U4 z0 z1 z2 z3)))
    (h3 : Hid (∀ w, Ca 208 #[U4 x0 x1 x2 x3, U4 z0 z1 z2 z3] w (.int .i64 r))) (w1 : IntKind.i64.wrap (ca - cb) = d) (g1 : decide (d < 0) = false) (g2 : (r == 0) = false) (w : World) :
    Ca 191 #[T5 ea x0 x1 x2 x3, T5 eb y0 y1 y2 y3] w (.int .i64 r) := by
  simp only [Ca, U4, T5] at *
  go_enter Tryz.func191, Tryz.ntmps191
  go_wp2_with fail
  refine vF2 fun w1 b1 X0 X1 => ?_
  refine vR [] fun w2 b2 S2 => ?_
  refine vT 0 S2 ?_ (hy := by intro wq hb; have q := (hb.hb X0 (by simp)).o; go_simp; try (with_reducible rfl))
  refine vT 2 S2 ?_ (hy := by intro wq hb; have q := (hb.hb X1 (by simp)).o; go_simp; try (with_reducible rfl))
  refine vY1 (vC 1 S2 (h0.out _) (fun _ _ => Off.later) fun w3 b3 S3 => ?_)
  refine vY1 (vC 3 S3 (h1.out _) (fun _ _ => Off.later) fun w4 b4 S4 => ?_)
  refine vT 4 S4 ?_
  refine vT 5 S4 ?_
  refine vD ?_
  go_wp2_with fail
  replace X0 := X0.later (bC (bC b2 b3) b4)
  replace X1 := X1.later (bC (bC b2 b3) b4)
  refine vR [] fun w5 b5 S5 => ?_
  refine vT 0 S5 ?_
  refine vT 1 S5 ?_ (hy := by intro wq hb; have q := (hb.hb X0 (by simp)).o; go_simp; try (with_reducible rfl))
  refine vT 2 S5 ?_
  refine vT 3 S5 ?_ (hy := by intro wq hb; have q := (hb.hb X1 (by simp)).o; go_simp; try (with_reducible rfl))
  refine vT 4 S5 ?_
  refine vY1 (vC 5 S5 (h2.out _) (fun _ _ => Off.later) fun w6 b6 S6 => ?_)
  refine vY1 (vC 6 S6 (h3.out _) (fun _ _ => Off.later) fun w7 b7 S7 => ?_)
  refine vT 7 S7 ?_
  refine vD ?_
  replace X1 := X1.later (bC (bC b5 b6) b7)
  have oX1 := X1.o
  go_wp2_with fail
  go_ret
  exact ⟨rfl, (bC (bC (bC (bC (bC (bC b1 b2) b3) b4) b5) b6) b7)⟩
theorem mag_cmp_eq0 (ea eb ca cb d x0 x1 x2 x3 y0 y1 y2 y3 z0 z1 z2 z3 : Int)
    (h0 : Hid (∀ w, Ca 192 #[T5 ea x0 x1 x2 x3] w (.int .i64 ca)))
    (h1 : Hid (∀ w, Ca 192 #[T5 eb y0 y1 y2 y3] w (.int .i64 cb)))
    (h2 : Hid (∀ w, Ca 200 #[U4 y0 y1 y2 y3, .int .i64 d] w (U4 z0 z1 z2 z3)))
    (h3 : Hid (∀ w, Ca 208 #[U4 x0 x1 x2 x3, U4 z0 z1 z2 z3] w (.int .i64 0)))
    (h4 : Hid (∀ w, Ca 209 #[U4 y0 y1 y2 y3, .int .i64 d] w (.bool false))) (w1 : IntKind.i64.wrap (ca - cb) = d) (g1 : decide (d < 0) = false) (w : World) :
    Ca 191 #[T5 ea x0 x1 x2 x3, T5 eb y0 y1 y2 y3] w (.int .i64 0) := by
  simp only [Ca, U4, T5] at *
  go_enter Tryz.func191, Tryz.ntmps191
  go_wp2_with fail
  refine vF2 fun w1 b1 X0 X1 => ?_
  refine vR [] fun w2 b2 S2 => ?_
  refine vT 0 S2 ?_ (hy := by intro wq hb; have q := (hb.hb X0 (by simp)).o; go_simp; try (with_reducible rfl))
  refine vT 2 S2 ?_ (hy := by intro wq hb; have q := (hb.hb X1 (by simp)).o; go_simp; try (with_reducible rfl))
  refine vY1 (vC 1 S2 (h0.out _) (fun _ _ => Off.later) fun w3 b3 S3 => ?_)
  refine vY1 (vC 3 S3 (h1.out _) (fun _ _ => Off.later) fun w4 b4 S4 => ?_)
  refine vT 4 S4 ?_
  refine vT 5 S4 ?_
  refine vD ?_
  go_wp2_with fail
  replace X0 := X0.later (bC (bC b2 b3) b4)
  replace X1 := X1.later (bC (bC b2 b3) b4)
  refine vR [] fun w5 b5 S5 => ?_
  refine vT 0 S5 ?_
  refine vT 1 S5 ?_ (hy := by intro wq hb; have q := (hb.hb X0 (by simp)).o; go_simp; try (with_reducible rfl))
  refine vT 2 S5 ?_
  refine vT 3 S5 ?_ (hy := by intro wq hb; have q := (hb.hb X1 (by simp)).o; go_simp; try (with_reducible rfl))
  refine vT 4 S5 ?_
  refine vY1 (vC 5 S5 (h2.out _) (fun _ _ => Off.later) fun w6 b6 S6 => ?_)
  refine vY1 (vC 6 S6 (h3.out _) (fun _ _ => Off.later) fun w7 b7 S7 => ?_)
  refine vT 7 S7 ?_
  refine vD ?_
  replace X1 := X1.later (bC (bC b5 b6) b7)
  have oX1 := X1.o
  go_wp2_with fail
  refine vM (h4.out _) fun w8 b8 => ?_
  clear oX1
  go_wp2_with fail
  go_ret
  exact ⟨rfl, (bC (bC (bC (bC (bC (bC (bC b1 b2) b3) b4) b5) b6) b7) b8)⟩
theorem mag_cmp_eq1 (ea eb ca cb d x0 x1 x2 x3 y0 y1 y2 y3 z0 z1 z2 z3 : Int)
    (h0 : Hid (∀ w, Ca 192 #[T5 ea x0 x1 x2 x3] w (.int .i64 ca)))
    (h1 : Hid (∀ w, Ca 192 #[T5 eb y0 y1 y2 y3] w (.int .i64 cb)))
    (h2 : Hid (∀ w, Ca 200 #[U4 y0 y1 y2 y3, .int .i64 d] w (U4 z0 z1 z2 z3)))
    (h3 : Hid (∀ w, Ca 208 #[U4 x0 x1 x2 x3, U4 z0 z1 z2 z3] w (.int .i64 0)))
    (h4 : Hid (∀ w, Ca 209 #[U4 y0 y1 y2 y3, .int .i64 d] w (.bool true))) (w1 : IntKind.i64.wrap (ca - cb) = d) (g1 : decide (d < 0) = false) (w : World) :
    Ca 191 #[T5 ea x0 x1 x2 x3, T5 eb y0 y1 y2 y3] w (.int .i64 (-1)) := by
  simp only [Ca, U4, T5] at *
  go_enter Tryz.func191, Tryz.ntmps191
  go_wp2_with fail
  refine vF2 fun w1 b1 X0 X1 => ?_
  refine vR [] fun w2 b2 S2 => ?_
  refine vT 0 S2 ?_ (hy := by intro wq hb; have q := (hb.hb X0 (by simp)).o; go_simp; try (with_reducible rfl))
  refine vT 2 S2 ?_ (hy := by intro wq hb; have q := (hb.hb X1 (by simp)).o; go_simp; try (with_reducible rfl))
  refine vY1 (vC 1 S2 (h0.out _) (fun _ _ => Off.later) fun w3 b3 S3 => ?_)
  refine vY1 (vC 3 S3 (h1.out _) (fun _ _ => Off.later) fun w4 b4 S4 => ?_)
  refine vT 4 S4 ?_
  refine vT 5 S4 ?_
  refine vD ?_
  go_wp2_with fail
  replace X0 := X0.later (bC (bC b2 b3) b4)
  replace X1 := X1.later (bC (bC b2 b3) b4)
  refine vR [] fun w5 b5 S5 => ?_
  refine vT 0 S5 ?_
  refine vT 1 S5 ?_ (hy := by intro wq hb; have q := (hb.hb X0 (by simp)).o; go_simp; try (with_reducible rfl))
  refine vT 2 S5 ?_
  refine vT 3 S5 ?_ (hy := by intro wq hb; have q := (hb.hb X1 (by simp)).o; go_simp; try (with_reducible rfl))
  refine vT 4 S5 ?_
  refine vY1 (vC 5 S5 (h2.out _) (fun _ _ => Off.later) fun w6 b6 S6 => ?_)
  refine vY1 (vC 6 S6 (h3.out _) (fun _ _ => Off.later) fun w7 b7 S7 => ?_)
  refine vT 7 S7 ?_
  refine vD ?_
  replace X1 := X1.later (bC (bC b5 b6) b7)
  have oX1 := X1.o
  go_wp2_with fail
  refine vM (h4.out _) fun w8 b8 => ?_
  clear oX1
  go_wp2_with fail
  go_ret
  exact ⟨rfl, (bC (bC (bC (bC (bC (bC (bC b1 b2) b3) b4) b5) b6) b7) b8)⟩
theorem mag_fit_Add (w : World) : Calls Tryz.prog 145 #[.func (.func 161) #[] #[]] w fun e w' => ∃ bk, e = .returned (.func (.func 174) #[] #[.pointer (some ⟨bk, 0, none⟩)]) ∧ FitIn w' (.func (.func 161) #[] #[]) bk ∧ Below w.heap.size w w' := by
  have hmf : ∀ (fn : Fn) (first cap : Array Value) (w : World), (Instr.makeFunc fn first cap).run Tryz.prog w = .ok (.func fn first cap) w := fun _ _ _ _ => rfl
  go_enter Tryz.func145, Tryz.ntmps145
  go_wp2_with fail
  go_ret
  exact ⟨_, rfl, by unfold FitIn; go_simp, bA bR _⟩
theorem mag_op_Add (bk : Nat) (x0 x1 x2 x3 y0 y1 y2 y3 z0 z1 z2 z3 : Int) (o : Bool)
    (h0 : Hid (∀ w, Ca 161 #[U4 x0 x1 x2 x3, U4 y0 y1 y2 y3] w (.tuple #[U4 z0 z1 z2 z3, .bool o]))) (w : World) (cX0_0 : w.cell? ⟨bk, 0, none⟩ = some (.func (.func 161) #[] #[])) :
    Ca 174 #[U4 x0 x1 x2 x3, U4 y0 y1 y2 y3, .pointer (some ⟨bk, 0, none⟩)] w (U4 z0 z1 z2 z3) := by
  simp only [Ca, U4] at *
  have sb0 : bk < w.heap.size := bL cX0_0
  have sb1 : bk < w.heap.size + 1 := by omega
  have sb2 : bk < w.heap.size + 1 + 1 := by omega
  go_enter Tryz.func174, Tryz.ntmps174
  have oX0 : bk < w.heap.size := bL cX0_0
  have uX0 : bk < w.heap.size + 1 ∧ bk < w.heap.size + 1 + 1 := by have := oX0; omega
  go_wp2_with fail
  refine vM (h0.out _) fun w1 b1 => ?_
  have gX3 : w.heap.size ≤ w.heap.size + 1 + 1 := by omega
  have X3 := (HB.newAt (b := w.heap.size + 1 + 1) (by simp) _ _).later b1
  clear oX0
  have oX3 := X3.o
  go_wp2_with fail
  refine bodyPost_ret (v := .agg #[.int .u64 z0, .int .u64 z1, .int .u64 z2, .int .u64 z3]) ?_ rfl ⟨rfl, (bA (((((bC (bA (bA (bA bR _) _) _) b1).setCell (p := ⟨w.heap.size + 1 + 1, 0, none⟩) gX3 _).setCell (p := ⟨w.heap.size + 1 + 1, 1, none⟩) gX3 _).setCell (p := ⟨w.heap.size + 1 + 1, 2, none⟩) gX3 _).setCell (p := ⟨w.heap.size + 1 + 1, 3, none⟩) gX3 _) _)⟩
  simp [results, Tryz.results174, go_sem, oX3]
theorem mag_fit_Sub (w : World) : Calls Tryz.prog 145 #[.func (.func 146) #[] #[]] w fun e w' => ∃ bk, e = .returned (.func (.func 174) #[] #[.pointer (some ⟨bk, 0, none⟩)]) ∧ FitIn w' (.func (.func 146) #[] #[]) bk ∧ Below w.heap.size w w' := by
  have hmf : ∀ (fn : Fn) (first cap : Array Value) (w : World), (Instr.makeFunc fn first cap).run Tryz.prog w = .ok (.func fn first cap) w := fun _ _ _ _ => rfl
  go_enter Tryz.func145, Tryz.ntmps145
  go_wp2_with fail
  go_ret
  exact ⟨_, rfl, by unfold FitIn; go_simp, bA bR _⟩
theorem mag_op_Sub (bk : Nat) (x0 x1 x2 x3 y0 y1 y2 y3 z0 z1 z2 z3 : Int) (o : Bool)
    (h0 : Hid (∀ w, Ca 146 #[U4 x0 x1 x2 x3, U4 y0 y1 y2 y3] w (.tuple #[U4 z0 z1 z2 z3, .bool o]))) (w : World) (cX0_0 : w.cell? ⟨bk, 0, none⟩ = some (.func (.func 146) #[] #[])) :
    Ca 174 #[U4 x0 x1 x2 x3, U4 y0 y1 y2 y3, .pointer (some ⟨bk, 0, none⟩)] w (U4 z0 z1 z2 z3) := by
  simp only [Ca, U4] at *
  have sb0 : bk < w.heap.size := bL cX0_0
  have sb1 : bk < w.heap.size + 1 := by omega
  have sb2 : bk < w.heap.size + 1 + 1 := by omega
  go_enter Tryz.func174, Tryz.ntmps174
  have oX0 : bk < w.heap.size := bL cX0_0
  have uX0 : bk < w.heap.size + 1 ∧ bk < w.heap.size + 1 + 1 := by have := oX0; omega
  go_wp2_with fail
  refine vM (h0.out _) fun w1 b1 => ?_
  have gX3 : w.heap.size ≤ w.heap.size + 1 + 1 := by omega
  have X3 := (HB.newAt (b := w.heap.size + 1 + 1) (by simp) _ _).later b1
  clear oX0
  have oX3 := X3.o
  go_wp2_with fail
  refine bodyPost_ret (v := .agg #[.int .u64 z0, .int .u64 z1, .int .u64 z2, .int .u64 z3]) ?_ rfl ⟨rfl, (bA (((((bC (bA (bA (bA bR _) _) _) b1).setCell (p := ⟨w.heap.size + 1 + 1, 0, none⟩) gX3 _).setCell (p := ⟨w.heap.size + 1 + 1, 1, none⟩) gX3 _).setCell (p := ⟨w.heap.size + 1 + 1, 2, none⟩) gX3 _).setCell (p := ⟨w.heap.size + 1 + 1, 3, none⟩) gX3 _) _)⟩
  simp [results, Tryz.results174, go_sem, oX3]
theorem mag_desc_1 (ea eb r x0 x1 x2 x3 y0 y1 y2 y3 : Int)
    (h0 : Hid (∀ w, Ca 191 #[T5 ea x0 x1 x2 x3, T5 eb y0 y1 y2 y3] w (.int .i64 r))) (g1 : decide (r < 0) = true) (w : World) :
    Ca 171 #[T5 ea x0 x1 x2 x3, T5 eb y0 y1 y2 y3] w (.tuple #[.agg #[.int .i64 eb, .int .u64 y0, .int .u64 y1, .int .u64 y2, .int .u64 y3, .int .i64 ea, .int .u64 x0, .int .u64 x1, .int .u64 x2, .int .u64 x3], .bool true]) := by
  simp only [Ca, T5] at *
  go_enter Tryz.func171, Tryz.ntmps171
  go_wp2_with fail
  refine vM (h0.out _) fun w1 b1 => ?_
  have gX2 : w.heap.size ≤ w.heap.size + 1 + 1 := by omega
  have X0 := (((HB.newAt (b := w.heap.size) (by simp) _ _).alloc _).alloc _).later b1
  have X1 := ((HB.newAt (b := w.heap.size + 1) (by simp) _ _).alloc _).later b1
  have X2 := (HB.newAt (b := w.heap.size + 1 + 1) (by simp) _ _).later b1
  have oX1 := X1.o
  have oX0 := X0.o
  have oX2 := X2.o
  have mX1_X2 : ¬ (w.heap.size + 1 = w.heap.size + 1 + 1) := by omega
  have mX2_X1 : ¬ (w.heap.size + 1 + 1 = w.heap.size + 1) := by omega
  have mX0_X2 : ¬ (w.heap.size = w.heap.size + 1 + 1) := by omega
  have mX2_X0 : ¬ (w.heap.size + 1 + 1 = w.heap.size) := by omega
  go_wp2_with fail
  refine bodyPost_ret (v := .tuple #[.agg #[.int .i64 eb, .int .u64 y0, .int .u64 y1, .int .u64 y2, .int .u64 y3, .int .i64 ea, .int .u64 x0, .int .u64 x1, .int .u64 x2, .int .u64 x3], .bool true]) ?_ rfl ⟨rfl, (((((((((((bC (bA (bA (bA bR _) _) _) b1).setCell (p := ⟨w.heap.size + 1 + 1, 0, none⟩) gX2 _).setCell (p := ⟨w.heap.size + 1 + 1, 1, none⟩) gX2 _).setCell (p := ⟨w.heap.size + 1 + 1, 2, none⟩) gX2 _).setCell (p := ⟨w.heap.size + 1 + 1, 3, none⟩) gX2 _).setCell (p := ⟨w.heap.size + 1 + 1, 4, none⟩) gX2 _).setCell (p := ⟨w.heap.size + 1 + 1, 5, none⟩) gX2 _).setCell (p := ⟨w.heap.size + 1 + 1, 6, none⟩) gX2 _).setCell (p := ⟨w.heap.size + 1 + 1, 7, none⟩) gX2 _).setCell (p := ⟨w.heap.size + 1 + 1, 8, none⟩) gX2 _).setCell (p := ⟨w.heap.size + 1 + 1, 9, none⟩) gX2 _)⟩
  simp [results, Tryz.results171, go_sem, oX2]
theorem mag_desc_0 (ea eb r x0 x1 x2 x3 y0 y1 y2 y3 : Int)
    (h0 : Hid (∀ w, Ca 191 #[T5 ea x0 x1 x2 x3, T5 eb y0 y1 y2 y3] w (.int .i64 r))) (g1 : decide (r < 0) = false) (w : World) :
    Ca 171 #[T5 ea x0 x1 x2 x3, T5 eb y0 y1 y2 y3] w (.tuple #[.agg #[.int .i64 ea, .int .u64 x0, .int .u64 x1, .int .u64 x2, .int .u64 x3, .int .i64 eb, .int .u64 y0, .int .u64 y1, .int .u64 y2, .int .u64 y3], .bool false]) := by
  simp only [Ca, T5] at *
  go_enter Tryz.func171, Tryz.ntmps171
  go_wp2_with fail
  refine vM (h0.out _) fun w1 b1 => ?_
  have gX2 : w.heap.size ≤ w.heap.size + 1 + 1 := by omega
  have X0 := (((HB.newAt (b := w.heap.size) (by simp) _ _).alloc _).alloc _).later b1
  have X1 := ((HB.newAt (b := w.heap.size + 1) (by simp) _ _).alloc _).later b1
  have X2 := (HB.newAt (b := w.heap.size + 1 + 1) (by simp) _ _).later b1
  have oX0 := X0.o
  have oX1 := X1.o
  have oX2 := X2.o
  have mX0_X2 : ¬ (w.heap.size = w.heap.size + 1 + 1) := by omega
  have mX2_X0 : ¬ (w.heap.size + 1 + 1 = w.heap.size) := by omega
  have mX1_X2 : ¬ (w.heap.size + 1 = w.heap.size + 1 + 1) := by omega
  have mX2_X1 : ¬ (w.heap.size + 1 + 1 = w.heap.size + 1) := by omega
  go_wp2_with fail
  refine bodyPost_ret (v := .tuple #[.agg #[.int .i64 ea, .int .u64 x0, .int .u64 x1, .int .u64 x2, .int .u64 x3, .int .i64 eb, .int .u64 y0, .int .u64 y1, .int .u64 y2, .int .u64 y3], .bool false]) ?_ rfl ⟨rfl, (((((((((((bC (bA (bA (bA bR _) _) _) b1).setCell (p := ⟨w.heap.size + 1 + 1, 0, none⟩) gX2 _).setCell (p := ⟨w.heap.size + 1 + 1, 1, none⟩) gX2 _).setCell (p := ⟨w.heap.size + 1 + 1, 2, none⟩) gX2 _).setCell (p := ⟨w.heap.size + 1 + 1, 3, none⟩) gX2 _).setCell (p := ⟨w.heap.size + 1 + 1, 4, none⟩) gX2 _).setCell (p := ⟨w.heap.size + 1 + 1, 5, none⟩) gX2 _).setCell (p := ⟨w.heap.size + 1 + 1, 6, none⟩) gX2 _).setCell (p := ⟨w.heap.size + 1 + 1, 7, none⟩) gX2 _).setCell (p := ⟨w.heap.size + 1 + 1, 8, none⟩) gX2 _).setCell (p := ⟨w.heap.size + 1 + 1, 9, none⟩) gX2 _)⟩
  simp [results, Tryz.results171, go_sem, oX2]
theorem mag_level_one (ea eb ca x0 x1 x2 x3 y0 y1 y2 y3 : Int)
    (h0 : Hid (∀ w, Ca 51 #[U4 y0 y1 y2 y3] w (.bool true)))
    (h1 : Hid (∀ w, Ca 51 #[U4 x0 x1 x2 x3] w (.bool false)))
    (h2 : Hid (∀ w, Ca 192 #[T5 ea x0 x1 x2 x3] w (.int .i64 ca))) (w : World) :
    Ca 172 #[.agg #[.int .i64 ea, .int .u64 x0, .int .u64 x1, .int .u64 x2, .int .u64 x3, .int .i64 eb, .int .u64 y0, .int .u64 y1, .int .u64 y2, .int .u64 y3]] w (.int .i64 ca) := by
  simp only [Ca, U4, T5] at *
  go_enter Tryz.func172, Tryz.ntmps172
  go_wp2_with fail
  refine vM (h0.out _) fun w1 b1 => ?_
  have X0 := (HB.newAt (b := w.heap.size) (by simp) _ _).later b1
  have oX0 := X0.o
  go_wp2_with fail
  refine vM (h1.out _) fun w2 b2 => ?_
  clear oX0
  replace X0 := X0.later b2
  have oX0 := X0.o
  go_wp2_with fail
  refine vM (h2.out _) fun w3 b3 => ?_
  clear oX0
  go_wp2_with fail
  go_ret
  exact ⟨rfl, (bC (bC (bC (bA bR _) b1) b2) b3)⟩
theorem mag_level_none (ea eb ca cb l x0 x1 x2 x3 y0 y1 y2 y3 : Int)
    (h0 : Hid (∀ w, Ca 51 #[U4 y0 y1 y2 y3] w (.bool true)))
    (h1 : Hid (∀ w, Ca 51 #[U4 x0 x1 x2 x3] w (.bool true)))
    (h2 : Hid (∀ w, Ca 192 #[T5 ea x0 x1 x2 x3] w (.int .i64 ca)))
    (h3 : Hid (∀ w, Ca 192 #[T5 eb y0 y1 y2 y3] w (.int .i64 cb))) (q1 : (if cb > ca then cb else ca) = l) (q1' : (if ca < cb then cb else ca) = l) (w : World) :
    Ca 172 #[.agg #[.int .i64 ea, .int .u64 x0, .int .u64 x1, .int .u64 x2, .int .u64 x3, .int .i64 eb, .int .u64 y0, .int .u64 y1, .int .u64 y2, .int .u64 y3]] w (.int .i64 l) := by
  simp only [Ca, U4, T5] at *
  go_enter Tryz.func172, Tryz.ntmps172
  go_wp2_with fail
  refine vM (h0.out _) fun w1 b1 => ?_
  have X0 := (HB.newAt (b := w.heap.size) (by simp) _ _).later b1
  have oX0 := X0.o
  go_wp2_with fail
  refine vM (h1.out _) fun w2 b2 => ?_
  clear oX0
  go_wp2_with fail
  replace X0 := X0.later b2
  refine vR [] fun w3 b3 S3 => ?_
  refine vT 0 S3 ?_
  refine vT 1 S3 ?_ (hy := by intro wq hb; have q := (hb.hb X0 (by simp)).o; go_simp; try (with_reducible rfl))
  refine vT 3 S3 ?_
  refine vT 4 S3 ?_ (hy := by intro wq hb; have q := (hb.hb X0 (by simp)).o; go_simp; try (with_reducible rfl))
  refine vY1 (vC 2 S3 (h2.out _) (fun _ _ => Off.later) fun w4 b4 S4 => ?_)
  refine vY1 (vC 5 S4 (h3.out _) (fun _ _ => Off.later) fun w5 b5 S5 => ?_)
  refine vT 6 S5 ?_
  refine vT 7 S5 ?_
  refine vD ?_
  go_wp2_with fail
  go_ret
  exact ⟨rfl, (bC (bC (bC (bC (bC (bA bR _) b1) b2) b3) b4) b5)⟩
theorem mag_level_two (ea eb ca cb l x0 x1 x2 x3 y0 y1 y2 y3 : Int)
    (h0 : Hid (∀ w, Ca 51 #[U4 y0 y1 y2 y3] w (.bool false)))
    (h2 : Hid (∀ w, Ca 192 #[T5 ea x0 x1 x2 x3] w (.int .i64 ca)))
    (h3 : Hid (∀ w, Ca 192 #[T5 eb y0 y1 y2 y3] w (.int .i64 cb))) (q1 : (if cb > ca then cb else ca) = l) (q1' : (if ca < cb then cb else ca) = l) (w : World) :
    Ca 172 #[.agg #[.int .i64 ea, .int .u64 x0, .int .u64 x1, .int .u64 x2, .int .u64 x3, .int .i64 eb, .int .u64 y0, .int .u64 y1, .int .u64 y2, .int .u64 y3]] w (.int .i64 l) := by
  simp only [Ca, U4, T5] at *
  go_enter Tryz.func172, Tryz.ntmps172
  go_wp2_with fail
  refine vM (h0.out _) fun w1 b1 => ?_
  have X0 := (HB.newAt (b := w.heap.size) (by simp) _ _).later b1
  have oX0 := X0.o
  go_wp2_with fail
  refine vR [] fun w2 b2 S2 => ?_
  refine vT 0 S2 ?_
  refine vT 1 S2 ?_ (hy := by intro wq hb; have q := (hb.hb X0 (by simp)).o; go_simp; try (with_reducible rfl))
  refine vT 3 S2 ?_
  refine vT 4 S2 ?_ (hy := by intro wq hb; have q := (hb.hb X0 (by simp)).o; go_simp; try (with_reducible rfl))
  refine vY1 (vC 2 S2 (h2.out _) (fun _ _ => Off.later) fun w3 b3 S3 => ?_)
  refine vY1 (vC 5 S3 (h3.out _) (fun _ _ => Off.later) fun w4 b4 S4 => ?_)
  refine vT 6 S4 ?_
  refine vT 7 S4 ?_
  refine vD ?_
  go_wp2_with fail
  go_ret
  exact ⟨rfl, (bC (bC (bC (bC (bA bR _) b1) b2) b3) b4)⟩
theorem mag_combine_core (fv : Value) (bk : Nat) (ea eb ep eq_ rs l m x0 x1 x2 x3 y0 y1 y2 y3 p0 p1 p2 p3 q0 q1 q2 q3 u0 u1 u2 u3 v0 v1 v2 v3 z0 z1 z2 z3 : Int) (t : Bool)
    (h0 : Hid (∀ w, Ca 171 #[T5 ea x0 x1 x2 x3, T5 eb y0 y1 y2 y3] w (.tuple #[.agg #[.int .i64 ep, .int .u64 p0, .int .u64 p1, .int .u64 p2, .int .u64 p3, .int .i64 eq_, .int .u64 q0, .int .u64 q1, .int .u64 q2, .int .u64 q3], .bool t])))
    (h1 : Hid (∀ w, Ca 172 #[.agg #[.int .i64 ep, .int .u64 p0, .int .u64 p1, .int .u64 p2, .int .u64 p3, .int .i64 eq_, .int .u64 q0, .int .u64 q1, .int .u64 q2, .int .u64 q3]] w (.int .i64 l)))
    (h2 : Hid (∀ w, Ca 173 #[T5 ep p0 p1 p2 p3, .int .i64 m] w (U4 u0 u1 u2 u3)))
    (h3 : Hid (∀ w, Ca 173 #[T5 eq_ q0 q1 q2 q3, .int .i64 m] w (U4 v0 v1 v2 v3))) (OP : Hid (∀ w, FitIn w fv bk → Ca 174 #[U4 u0 u1 u2 u3, U4 v0 v1 v2 v3, .pointer (some ⟨bk, 0, none⟩)] w (U4 z0 z1 z2 z3))) (w1 : IntKind.i64.wrap (l + rs) = m) (w1x : wrap64 (l + rs) = m) (w : World) (nop : FitIn w fv bk) :
    Ca 144 #[T5 ea x0 x1 x2 x3, T5 eb y0 y1 y2 y3, .int .i64 rs, .func (.func 174) #[] #[.pointer (some ⟨bk, 0, none⟩)]] w (.tuple #[T5 m z0 z1 z2 z3, .bool t]) := by
  simp only [Ca, U4, T5] at *
  go_enter Tryz.func144, Tryz.ntmps144
  go_wp2_with fail
  refine vM (h0.out _) fun w1 b1 => ?_
  have gX2 : w.heap.size ≤ w.heap.size + 1 + 1 := by omega
  have X2 := (HB.newAt (b := w.heap.size + 1 + 1) (by simp) _ _).later b1
  go_wp2_with fail
  refine vM (h1.out _) fun w2 b2 => ?_
  have nX2_X3 : w.heap.size + 1 + 1 < w1.heap.size := by have := X2.lt; omega
  have X3 := (HB.newAt (b := w1.heap.size) (by simp) _ _).later b2
  go_wp2_with fail
  replace X2 := X2.later (bC (bA bR _) b2)
  refine vR [w.heap.size + 1 + 1] fun w3 b3 S3 => ?_
  refine vT 0 S3 ?_
  refine vT 1 S3 ?_
  refine vT 2 S3 ?_
  refine vT 3 S3 ?_ (hy := by intro wq hb; have q := (hb.hb X3 (by simp <;> omega)).o; go_simp; try (with_reducible rfl))
  refine vT 4 S3 ?_
  refine vT 6 S3 ?_
  refine vT 7 S3 ?_ (hy := by intro wq hb; have q := (hb.hb X3 (by simp <;> omega)).o; go_simp; try (with_reducible rfl))
  refine vT 8 S3 ?_
  refine vT 12 S3 ?_
  refine vY1 (vC 5 S3 (h2.out _) (fun _ _ => Off.later) fun w4 b4 S4 => ?_)
  refine vY1 (vC 9 S4 (h3.out _) (fun _ _ => Off.later) fun w5 b5 S5 => ?_)
  replace nop := nop.later (bC (bC (bC (bC (bC (bA (bA (bA bR _) _) _) b1) (bC (bA bR _) b2)) b3) b4) b5)
  refine vY1 (vC 10 S5 (OP.out _ nop) (fun _ _ => Off.later) fun w6 b6 S6 => ?_)
  refine vT 11 S6 ?_
  refine vY1 (vO 13 fun K hK => ?_)
  replace X2 := X2.later (bC (bC (bC b3 b4) b5) b6)
  have oX2 := X2.o
  go_simp
  refine hK.out _ _ (Off.set (by simp) (Off.set (by simp) (Off.set (by simp) (Off.set (by simp) (Off.set (by simp) S6))))) fun S7 => ?_
  clear hK K
  refine vP ?_
  refine vT 14 S7 ?_
  refine vD ?_
  go_wp2_with fail
  refine bodyPost_ret (v := .tuple #[.agg #[.int .i64 m, .int .u64 z0, .int .u64 z1, .int .u64 z2, .int .u64 z3], .bool t]) ?_ rfl ⟨rfl, ((((((bC (bC (bC (bC (bC (bC (bA (bA (bA bR _) _) _) b1) (bC (bA bR _) b2)) b3) b4) b5) b6).setCell (p := ⟨w.heap.size + 1 + 1, 0, none⟩) gX2 _).setCell (p := ⟨w.heap.size + 1 + 1, 1, none⟩) gX2 _).setCell (p := ⟨w.heap.size + 1 + 1, 2, none⟩) gX2 _).setCell (p := ⟨w.heap.size + 1 + 1, 3, none⟩) gX2 _).setCell (p := ⟨w.heap.size + 1 + 1, 4, none⟩) gX2 _)⟩
  simp [results, Tryz.results144, go_sem, oX2]
theorem mag_sum_core (ea eb m x0 x1 x2 x3 y0 y1 y2 y3 z0 z1 z2 z3 : Int) (t : Bool)
     (FT : Hid (∀ w, Calls Tryz.prog 145 #[.func (.func 161) #[] #[]] w fun e w' => ∃ bk, e = .returned (.func (.func 174) #[] #[.pointer (some ⟨bk, 0, none⟩)]) ∧ FitIn w' (.func (.func 161) #[] #[]) bk ∧ Below w.heap.size w w')) (CB : Hid (∀ bk w, FitIn w (.func (.func 161) #[] #[]) bk → Ca 144 #[T5 ea x0 x1 x2 x3, T5 eb y0 y1 y2 y3, .int .i64 1, .func (.func 174) #[] #[.pointer (some ⟨bk, 0, none⟩)]] w (.tuple #[T5 m z0 z1 z2 z3, .bool t]))) (w : World) :
    Ca 143 #[T5 ea x0 x1 x2 x3, T5 eb y0 y1 y2 y3] w (T5 m z0 z1 z2 z3) := by
  simp only [Ca, T5] at *
  go_enter Tryz.func143, Tryz.ntmps143
  go_wp2_with fail
  have gX2 : w.heap.size ≤ w.heap.size + 1 + 1 := by omega
  refine vF3 fun w1 b1 X0 X1 X2 => ?_
  refine vR [] fun w2 b2 S2 => ?_
  refine vT 0 S2 ?_ (hy := by intro wq hb; have q := (hb.hb X0 (by simp)).o; go_simp; try (with_reducible rfl))
  refine vT 1 S2 ?_ (hy := by intro wq hb; have q := (hb.hb X1 (by simp)).o; go_simp; try (with_reducible rfl))
  replace X2 := X2.later b2
  refine vY2 (vCE 2 S2 (FT.out _) (fun _ _ => Off.later) fun bk1 w3 nbk1 b3 S3 => ?_) (vA 7 S2 (fun _ _ => Off.later) fun w4 pp1_0 hX3 X3 b4 S4 => ?_)
  replace X2 := X2.later b3
  refine vY2 (vC 3 S3 (CB.out _ _ nbk1) (fun _ _ => Off.later) fun w5 b5 S5 => ?_) (vA 7 S3 (fun _ _ => Off.later) fun w6 pp1_0 hX3 X3 b6 S6 => ?_)
  refine vT 4 S5 ?_
  refine vT 5 S5 ?_
  refine vT 6 S5 ?_
  replace X2 := X2.later b5
  refine vY1 (vA 7 S5 (fun _ _ => Off.later) fun w7 pp1_0 hX3 X3 b7 S7 => ?_)
  have nX2_X3 : w.heap.size + 1 + 1 < pp1_0 := by have := X2.lt; omega
  have gX3 : w.heap.size ≤ pp1_0 := by have := (bC (bC (bC b1 b2) b3) b5).size; omega
  have jX3 : w1.heap.size ≤ pp1_0 := by have := (bC (bC b2 b3) b5).size; omega
  refine vY1 (vO 8 fun K hK => ?_)
  replace X2 := X2.later b7
  have q := X3.o
  have mX2 : ¬ (w.heap.size + 1 + 1 = pp1_0) := by omega
  go_simp
  refine forget_at (fun W => HB W (w.heap.size + 1 + 1) 83 #[.int .i64 0, .int .u64 0, .int .u64 0, .int .u64 0, .int .u64 0] ∧ HB W pp1_0 83 #[.int .i64 m, .int .u64 z0, .int .u64 z1, .int .u64 z2, .int .u64 z3] ∧ Below w.heap.size w W ∧ Off [] w1 W) ⟨(((((X2.other mX2 0 _).other mX2 1 _).other mX2 2 _).other mX2 3 _).other mX2 4 _), (((((X3.set 0 _).set 1 _).set 2 _).set 3 _).set 4 _), ((((((bC (bC (bC (bC b1 b2) b3) b5) b7).setCell (p := ⟨pp1_0, 0, none⟩) gX3 _).setCell (p := ⟨pp1_0, 1, none⟩) gX3 _).setCell (p := ⟨pp1_0, 2, none⟩) gX3 _).setCell (p := ⟨pp1_0, 3, none⟩) gX3 _).setCell (p := ⟨pp1_0, 4, none⟩) gX3 _), (Off.far jX3 (Off.far jX3 (Off.far jX3 (Off.far jX3 (Off.far jX3 S7)))))⟩ (fun w8 hz => ?_)
  clear q mX2 X2 X3
  obtain ⟨X2, X3, kk, hS⟩ := hz
  refine hK.out _ _ hS fun S8 => ?_
  clear hK K hS
  refine vP ?_
  refine vT 9 S8 ?_
  refine vD ?_
  clear S8 jX3 S7 b7 hX3 w7 S5 b5 w5 S3 b3 nbk1 w3
  revert kk; revert nX2_X3; revert gX3; revert X3; revert X2; revert bk1; revert pp1_0; revert w8
  refine ?rest2
  rotate_left
  have nX2_X3 : w.heap.size + 1 + 1 < pp1_0 := by have := X2.lt; omega
  have gX3 : w.heap.size ≤ pp1_0 := by have := (bC (bC b1 b2) b3).size; omega
  have jX3 : w1.heap.size ≤ pp1_0 := by have := (bC b2 b3).size; omega
  replace nbk1 := nbk1.later b6
  refine vY1 (vC 3 S6 (CB.out _ _ nbk1) (fun _ _ => Off.later) fun w9 b9 S9 => ?_)
  refine vT 4 S9 ?_
  refine vT 5 S9 ?_
  refine vT 6 S9 ?_
  refine vY1 (vO 8 fun K hK => ?_)
  replace X2 := X2.later (bC b6 b9)
  replace X3 := X3.later b9
  have q := X3.o
  have mX2 : ¬ (w.heap.size + 1 + 1 = pp1_0) := by omega
  go_simp
  refine forget_at (fun W => HB W (w.heap.size + 1 + 1) 83 #[.int .i64 0, .int .u64 0, .int .u64 0, .int .u64 0, .int .u64 0] ∧ HB W pp1_0 83 #[.int .i64 m, .int .u64 z0, .int .u64 z1, .int .u64 z2, .int .u64 z3] ∧ Below w.heap.size w W ∧ Off [] w1 W) ⟨(((((X2.other mX2 0 _).other mX2 1 _).other mX2 2 _).other mX2 3 _).other mX2 4 _), (((((X3.set 0 _).set 1 _).set 2 _).set 3 _).set 4 _), ((((((bC (bC (bC (bC b1 b2) b3) b6) b9).setCell (p := ⟨pp1_0, 0, none⟩) gX3 _).setCell (p := ⟨pp1_0, 1, none⟩) gX3 _).setCell (p := ⟨pp1_0, 2, none⟩) gX3 _).setCell (p := ⟨pp1_0, 3, none⟩) gX3 _).setCell (p := ⟨pp1_0, 4, none⟩) gX3 _), (Off.far jX3 (Off.far jX3 (Off.far jX3 (Off.far jX3 (Off.far jX3 S9)))))⟩ (fun w10 hz => ?_)
  clear q mX2 X2 X3
  obtain ⟨X2, X3, kk, hS⟩ := hz
  refine hK.out _ _ hS fun S10 => ?_
  clear hK K hS
  refine vP ?_
  refine vT 9 S10 ?_
  refine vD ?_
  clear S10 S9 b9 w9 jX3 S6 b6 hX3 w6 S3 b3 nbk1 w3
  revert kk; revert nX2_X3; revert gX3; revert X3; revert X2; revert bk1; revert pp1_0; revert w10
  exact ?rest2
  have nX2_X3 : w.heap.size + 1 + 1 < pp1_0 := by have := X2.lt; omega
  have gX3 : w.heap.size ≤ pp1_0 := by have := (bC b1 b2).size; omega
  have jX3 : w1.heap.size ≤ pp1_0 := by have := b2.size; omega
  refine vY1 (vCE 2 S4 (FT.out _) (fun _ _ => Off.later) fun bk1 w11 nbk1 b11 S11 => ?_)
  refine vY1 (vC 3 S11 (CB.out _ _ nbk1) (fun _ _ => Off.later) fun w12 b12 S12 => ?_)
  refine vT 4 S12 ?_
  refine vT 5 S12 ?_
  refine vT 6 S12 ?_
  refine vY1 (vO 8 fun K hK => ?_)
  replace X2 := X2.later (bC (bC b4 b11) b12)
  replace X3 := X3.later (bC b11 b12)
  have q := X3.o
  have mX2 : ¬ (w.heap.size + 1 + 1 = pp1_0) := by omega
  go_simp
  refine forget_at (fun W => HB W (w.heap.size + 1 + 1) 83 #[.int .i64 0, .int .u64 0, .int .u64 0, .int .u64 0, .int .u64 0] ∧ HB W pp1_0 83 #[.int .i64 m, .int .u64 z0, .int .u64 z1, .int .u64 z2, .int .u64 z3] ∧ Below w.heap.size w W ∧ Off [] w1 W) ⟨(((((X2.other mX2 0 _).other mX2 1 _).other mX2 2 _).other mX2 3 _).other mX2 4 _), (((((X3.set 0 _).set 1 _).set 2 _).set 3 _).set 4 _), ((((((bC (bC (bC (bC b1 b2) b4) b11) b12).setCell (p := ⟨pp1_0, 0, none⟩) gX3 _).setCell (p := ⟨pp1_0, 1, none⟩) gX3 _).setCell (p := ⟨pp1_0, 2, none⟩) gX3 _).setCell (p := ⟨pp1_0, 3, none⟩) gX3 _).setCell (p := ⟨pp1_0, 4, none⟩) gX3 _), (Off.far jX3 (Off.far jX3 (Off.far jX3 (Off.far jX3 (Off.far jX3 S12)))))⟩ (fun w13 hz => ?_)
  clear q mX2 X2 X3
  obtain ⟨X2, X3, kk, hS⟩ := hz
  refine hK.out _ _ hS fun S13 => ?_
  clear hK K hS
  refine vP ?_
  refine vT 9 S13 ?_
  refine vD ?_
  clear S13 S12 b12 w12 S11 b11 nbk1 w11 jX3 S4 b4 hX3 w4
  revert kk; revert nX2_X3; revert gX3; revert X3; revert X2; revert bk1; revert pp1_0; revert w13
  exact ?rest2
  intro w14 pp1_0 bk1 X2 X3 gX3 nX2_X3 kk
  have oX3 := X3.o
  have oX2 := X2.o
  have mX3_X2 : ¬ (pp1_0 = w.heap.size + 1 + 1) := by omega
  have mX2_X3 : ¬ (w.heap.size + 1 + 1 = pp1_0) := by omega
  go_wp2_with fail
  refine bodyPost_ret (v := .agg #[.int .i64 m, .int .u64 z0, .int .u64 z1, .int .u64 z2, .int .u64 z3]) ?_ rfl ⟨rfl, (((((kk.setCell (p := ⟨w.heap.size + 1 + 1, 0, none⟩) gX2 _).setCell (p := ⟨w.heap.size + 1 + 1, 1, none⟩) gX2 _).setCell (p := ⟨w.heap.size + 1 + 1, 2, none⟩) gX2 _).setCell (p := ⟨w.heap.size + 1 + 1, 3, none⟩) gX2 _).setCell (p := ⟨w.heap.size + 1 + 1, 4, none⟩) gX2 _)⟩
  simp [results, Tryz.results143, go_sem, oX2]
theorem mag_diff_core (ea eb m x0 x1 x2 x3 y0 y1 y2 y3 z0 z1 z2 z3 : Int) (t : Bool)
     (FT : Hid (∀ w, Calls Tryz.prog 145 #[.func (.func 146) #[] #[]] w fun e w' => ∃ bk, e = .returned (.func (.func 174) #[] #[.pointer (some ⟨bk, 0, none⟩)]) ∧ FitIn w' (.func (.func 146) #[] #[]) bk ∧ Below w.heap.size w w')) (CB : Hid (∀ bk w, FitIn w (.func (.func 146) #[] #[]) bk → Ca 144 #[T5 ea x0 x1 x2 x3, T5 eb y0 y1 y2 y3, .int .i64 0, .func (.func 174) #[] #[.pointer (some ⟨bk, 0, none⟩)]] w (.tuple #[T5 m z0 z1 z2 z3, .bool t]))) (w : World) :
    Ca 110 #[T5 ea x0 x1 x2 x3, T5 eb y0 y1 y2 y3] w (.tuple #[T5 m z0 z1 z2 z3, .bool t]) := by
  simp only [Ca, T5] at *
  go_enter Tryz.func110, Tryz.ntmps110
  go_wp2_with fail
  have gX2 : w.heap.size ≤ w.heap.size + 1 + 1 := by omega
  refine vF3 fun w1 b1 X0 X1 X2 => ?_
  refine vR [w.heap.size + 1 + 1] fun w2 b2 S2 => ?_
  refine vT 0 S2 ?_ (hy := by intro wq hb; have q := (hb.hb X0 (by simp <;> omega)).o; go_simp; try (with_reducible rfl))
  refine vT 1 S2 ?_ (hy := by intro wq hb; have q := (hb.hb X1 (by simp <;> omega)).o; go_simp; try (with_reducible rfl))
  refine vY1 (vCE 2 S2 (FT.out _) (fun _ _ => Off.later) fun bk1 w3 nbk1 b3 S3 => ?_)
  refine vY1 (vC 3 S3 (CB.out _ _ nbk1) (fun _ _ => Off.later) fun w4 b4 S4 => ?_)
  refine vT 4 S4 ?_
  refine vT 5 S4 ?_
  refine vY1 (vO 6 fun K hK => ?_)
  replace X2 := X2.later (bC (bC b2 b3) b4)
  have oX2 := X2.o
  go_simp
  refine hK.out _ _ (Off.set (by simp) (Off.set (by simp) (Off.set (by simp) (Off.set (by simp) (Off.set (by simp) S4))))) fun S5 => ?_
  clear hK K
  refine vP ?_
  refine vT 7 S5 ?_
  refine vD ?_
  go_wp2_with fail
  refine bodyPost_ret (v := .tuple #[.agg #[.int .i64 m, .int .u64 z0, .int .u64 z1, .int .u64 z2, .int .u64 z3], .bool t]) ?_ rfl ⟨rfl, ((((((bC (bC (bC b1 b2) b3) b4).setCell (p := ⟨w.heap.size + 1 + 1, 0, none⟩) gX2 _).setCell (p := ⟨w.heap.size + 1 + 1, 1, none⟩) gX2 _).setCell (p := ⟨w.heap.size + 1 + 1, 2, none⟩) gX2 _).setCell (p := ⟨w.heap.size + 1 + 1, 3, none⟩) gX2 _).setCell (p := ⟨w.heap.size + 1 + 1, 4, none⟩) gX2 _)⟩
  simp [results, Tryz.results110, go_sem, oX2]
end Go.Proofs.YtjdjonekoodalaaGreatDoor
namespace Go.Proofs.YtjdjonekoodalaaGreatDoor
open Go.RowKit
attribute [local go_sem ↓] Go.wp_at_zero Go.wp_at_succ
theorem clT_two (e : Int) : (if (1099511627776 : Int) < (if e < -1099511627776 then -1099511627776 else e) then 1099511627776 else (if e < -1099511627776 then -1099511627776 else e)) = clT e := by
  unfold clT; repeat' split
  all_goals omega
theorem mag_exp (e a b c d : Int) (w : World) : Calls Tryz.prog 192 #[.agg #[.int .i64 e, .int .u64 a, .int .u64 b, .int .u64 c, .int .u64 d]] w fun r w' => r = .returned (.int .i64 (clT e)) ∧ Below w.heap.size w w' :=
  mag_exponent e _ (clT e) a b c d rfl rfl (clT_two e) (clT_two e) w
theorem mag_al (e x l : Int) (x0 : 0 ≤ x) (x1 : x < wfull) (l0 : -1099511627776 ≤ l) (l1 : l ≤ 1099511627777) (w : World) : Calls Tryz.prog 173 #[.agg #[.int .i64 e, .int .u64 (wd0 (x)), .int .u64 (wd1 (x)), .int .u64 (wd2 (x)), .int .u64 (wd3 (x))], .int .i64 l] w fun r w' => r = .returned (.agg #[.int .u64 (wd0 (alT e x l)), .int .u64 (wd1 (alT e x l)), .int .u64 (wd2 (alT e x l)), .int .u64 (wd3 (alT e x l))]) ∧ Below w.heap.size w w' := by
  have h := clT_range e
  have J := wjamW x (l - clT e) (by omega) (by omega)
  rw [Int.emod_eq_of_lt x0 x1] at J
  exact mag_aligned e l (clT e) (l - clT e) _ _ _ _ _ _ _ _ (lH (mag_exp e _ _ _ _)) (lH J) (IntWalk.i64_in _ (by omega)) w
theorem mag_cmp_ge (e x g y : Int) (x0 : 0 ≤ x) (x1 : x < wfull) (y0 : 0 ≤ y) (y1 : y < wfull) (h : clT g ≤ clT e) (w : World) : Calls Tryz.prog 191 #[.agg #[.int .i64 e, .int .u64 (wd0 (x)), .int .u64 (wd1 (x)), .int .u64 (wd2 (x)), .int .u64 (wd3 (x))], .agg #[.int .i64 g, .int .u64 (wd0 (y)), .int .u64 (wd1 (y)), .int .u64 (wd2 (y)), .int .u64 (wd3 (y))]] w fun r w' => r = .returned (.int .i64 (cmpT e x g y)) ∧ Below w.heap.size w w' := by
  have h1 := clT_range e; have h2 := clT_range g
  have E1 := lH (mag_exp e (wd0 x) (wd1 x) (wd2 x) (wd3 x))
  have E2 := lH (mag_exp g (wd0 y) (wd1 y) (wd2 y) (wd3 y))
  have W1 : Hid (IntKind.i64.wrap (clT e - clT g) = clT e - clT g) := lH (IntWalk.i64_in _ (by omega))
  have D1 : decide (clT e - clT g < 0) = false := decide_eq_false (by omega)
  have WR := wrightW y (clT e - clT g) (by omega) (by omega)
  have LS := lostW y (clT e - clT g) (by omega) (by omega)
  rw [Int.emod_eq_of_lt y0 y1] at WR LS
  obtain ⟨q0, q1, _⟩ := div_back y (clT e - clT g).toNat y0
  have CM := cmpW x (y / 2 ^ (clT e - clT g).toNat)
  rw [Int.emod_eq_of_lt x0 x1, Int.emod_eq_of_lt q0 (by omega)] at CM
  rw [cmpT_down h]
  by_cases c : cmpI x (y / 2 ^ (clT e - clT g).toNat) = 0
  · rw [c] at CM
    by_cases z : y % 2 ^ (clT e - clT g).toNat = 0
    · rw [if_neg (fun k => k.2 z), c]
      rw [show (y % 2 ^ (clT e - clT g).toNat != 0) = false by simp [z]] at LS
      exact mag_cmp_eq0 e g _ _ _ _ _ _ _ _ _ _ _ _ _ _ _ E1 E2 (lH WR) (lH CM) (lH LS) W1.out D1 w
    · rw [if_pos ⟨c, z⟩]
      rw [show (y % 2 ^ (clT e - clT g).toNat != 0) = true by simp [z]] at LS
      exact mag_cmp_eq1 e g _ _ _ _ _ _ _ _ _ _ _ _ _ _ _ E1 E2 (lH WR) (lH CM) (lH LS) W1.out D1 w
  · rw [if_neg (fun k => c k.1)]
    exact mag_cmp_ne e g _ _ _ _ _ _ _ _ _ _ _ _ _ _ _ _ E1 E2 (lH WR) (lH CM) W1.out D1 (by simp [c]) w
theorem mag_cmp (e x g y : Int) (x0 : 0 ≤ x) (x1 : x < wfull) (y0 : 0 ≤ y) (y1 : y < wfull) (w : World) : Calls Tryz.prog 191 #[.agg #[.int .i64 e, .int .u64 (wd0 (x)), .int .u64 (wd1 (x)), .int .u64 (wd2 (x)), .int .u64 (wd3 (x))], .agg #[.int .i64 g, .int .u64 (wd0 (y)), .int .u64 (wd1 (y)), .int .u64 (wd2 (y)), .int .u64 (wd3 (y))]] w fun r w' => r = .returned (.int .i64 (cmpT e x g y)) ∧ Below w.heap.size w w' := by
  have h1 := clT_range e; have h2 := clT_range g
  by_cases h : clT g ≤ clT e
  · exact mag_cmp_ge e x g y x0 x1 y0 y1 h w
  · have R := mag_cmp_ge g y e x y0 y1 x0 x1 (by omega)
    have cr := cmpT_range e x g y
    have ct := cmpT_turn e x g y
    exact mag_cmp_lt e g (clT e) (clT g) (clT e - clT g) (cmpT g y e x) (cmpT e x g y) _ _ _ _ _ _ _ _ (lH (mag_exp e _ _ _ _)) (lH (mag_exp g _ _ _ _)) (lH R) (IntWalk.i64_in _ (by omega)) (decide_eq_true (by omega)) (by rw [ct, Int.neg_neg]; exact IntWalk.i64_in _ (by omega)) (by rw [ct, Int.neg_neg]; unfold wrap64; omega) w
theorem mag_lev (e x g y : Int) (x0 : 0 ≤ x) (x1 : x < wfull) (y0 : 0 ≤ y) (y1 : y < wfull) (w : World) : Calls Tryz.prog 172 #[.agg #[.int .i64 e, .int .u64 (wd0 (x)), .int .u64 (wd1 (x)), .int .u64 (wd2 (x)), .int .u64 (wd3 (x)), .int .i64 g, .int .u64 (wd0 (y)), .int .u64 (wd1 (y)), .int .u64 (wd2 (y)), .int .u64 (wd3 (y))]] w fun r w' => r = .returned (.int .i64 (if y = 0 ∧ x ≠ 0 then clT e else if clT e < clT g then clT g else clT e)) ∧ Below w.heap.size w w' := by
  have h1 := clT_range e; have h2 := clT_range g
  have E1 := lH (mag_exp e (wd0 x) (wd1 x) (wd2 x) (wd3 x))
  have E2 := lH (mag_exp g (wd0 y) (wd1 y) (wd2 y) (wd3 y))
  have ZX := zeroW x
  have ZY := zeroW y
  rw [Int.emod_eq_of_lt x0 x1] at ZX
  rw [Int.emod_eq_of_lt y0 y1] at ZY
  by_cases hy : y = 0
  · rw [show (y == 0) = true by simp [hy]] at ZY
    by_cases hx : x = 0
    · rw [show (x == 0) = true by simp [hx]] at ZX
      rw [if_neg (fun k => k.2 hx)]
      exact mag_level_none e g (clT e) (clT g) _ _ _ _ _ _ _ _ _ (lH ZY) (lH ZX) E1 E2 rfl rfl w
    · rw [show (x == 0) = false by simp [hx]] at ZX
      rw [if_pos ⟨hy, hx⟩]
      exact mag_level_one e g (clT e) _ _ _ _ _ _ _ _ (lH ZY) (lH ZX) E1 w
  · rw [show (y == 0) = false by simp [hy]] at ZY
    rw [if_neg (fun k => hy k.1)]
    exact mag_level_two e g (clT e) (clT g) _ _ _ _ _ _ _ _ _ (lH ZY) E1 E2 rfl rfl w
theorem mag_comb (fv : Value) (bk : Nat) (e x g y rs z : Int) (x0 : 0 ≤ x) (x1 : x < wfull) (y0 : 0 ≤ y) (y1 : y < wfull) (r0 : 0 ≤ rs) (r1 : rs ≤ 1)
    (OP : ∀ p q, ((cmpT e x g y < 0 ∧ p = alT g y (levT e x g y + rs) ∧ q = alT e x (levT e x g y + rs)) ∨ (¬ cmpT e x g y < 0 ∧ p = alT e x (levT e x g y + rs) ∧ q = alT g y (levT e x g y + rs))) → ∀ w, FitIn w fv bk → Calls Tryz.prog 174 #[.agg #[.int .u64 (wd0 (p)), .int .u64 (wd1 (p)), .int .u64 (wd2 (p)), .int .u64 (wd3 (p))], .agg #[.int .u64 (wd0 (q)), .int .u64 (wd1 (q)), .int .u64 (wd2 (q)), .int .u64 (wd3 (q))], .pointer (some ⟨bk, 0, none⟩)] w fun r w' => r = .returned (.agg #[.int .u64 (wd0 (z)), .int .u64 (wd1 (z)), .int .u64 (wd2 (z)), .int .u64 (wd3 (z))]) ∧ Below w.heap.size w w')
    (w : World) (hf : FitIn w fv bk) : Calls Tryz.prog 144 #[.agg #[.int .i64 e, .int .u64 (wd0 (x)), .int .u64 (wd1 (x)), .int .u64 (wd2 (x)), .int .u64 (wd3 (x))], .agg #[.int .i64 g, .int .u64 (wd0 (y)), .int .u64 (wd1 (y)), .int .u64 (wd2 (y)), .int .u64 (wd3 (y))], .int .i64 rs, .func (.func 174) #[] #[.pointer (some ⟨bk, 0, none⟩)]] w fun r w' => r = .returned (.tuple #[.agg #[.int .i64 ((levT e x g y + rs)), .int .u64 (wd0 (z)), .int .u64 (wd1 (z)), .int .u64 (wd2 (z)), .int .u64 (wd3 (z))], .bool (decide (cmpT e x g y < 0))]) ∧ Below w.heap.size w w' := by
  have lr := lev_range e x g y
  have CM := mag_cmp e x g y x0 x1 y0 y1
  have W1 : Hid (IntKind.i64.wrap (levT e x g y + rs) = levT e x g y + rs) := lH (IntWalk.i64_in _ (by omega))
  have W2 : Hid (wrap64 (levT e x g y + rs) = levT e x g y + rs) := lH (by unfold wrap64; omega)
  have A1 := lH (mag_al e x (levT e x g y + rs) x0 x1 (by omega) (by omega))
  have A2 := lH (mag_al g y (levT e x g y + rs) y0 y1 (by omega) (by omega))
  by_cases hc : cmpT e x g y < 0
  · have ct := cmpT_turn e x g y
    have LV := mag_lev g y e x y0 y1 x0 x1
    rw [← lev_down x0 (by omega), lev_turn e x g y] at LV
    have D1 : decide (cmpT e x g y < 0) = true := decide_eq_true hc
    have DS := mag_desc_1 e g _ _ _ _ _ _ _ _ _ (lH CM) D1
    rw [D1]
    exact mag_combine_core fv bk e g g e rs _ _ _ _ _ _ _ _ _ _ _ _ _ _ _ _ _ _ _ _ _ _ _ _ _ _ _ _ _ _ true (lH DS) (lH LV) A2 A1 (lH (OP _ _ (.inl ⟨hc, rfl, rfl⟩))) W1.out W2.out w hf
  · have LV := mag_lev e x g y x0 x1 y0 y1
    rw [← lev_down y0 hc] at LV
    have D1 : decide (cmpT e x g y < 0) = false := decide_eq_false hc
    have DS := mag_desc_0 e g _ _ _ _ _ _ _ _ _ (lH CM) D1
    rw [D1]
    exact mag_combine_core fv bk e g e g rs _ _ _ _ _ _ _ _ _ _ _ _ _ _ _ _ _ _ _ _ _ _ _ _ _ _ _ _ _ _ false (lH DS) (lH LV) A1 A2 (lH (OP _ _ (.inr ⟨hc, rfl, rfl⟩))) W1.out W2.out w hf
theorem mag_sum (e x g y : Int) (x0 : 0 ≤ x) (x1 : x < wfull) (y0 : 0 ≤ y) (y1 : y < wfull) (w : World) : Calls Tryz.prog 143 #[.agg #[.int .i64 e, .int .u64 (wd0 (x)), .int .u64 (wd1 (x)), .int .u64 (wd2 (x)), .int .u64 (wd3 (x))], .agg #[.int .i64 g, .int .u64 (wd0 (y)), .int .u64 (wd1 (y)), .int .u64 (wd2 (y)), .int .u64 (wd3 (y))]] w fun r w' => r = .returned (.agg #[.int .i64 ((levT e x g y + 1)), .int .u64 (wd0 (sumT e x g y)), .int .u64 (wd1 (sumT e x g y)), .int .u64 (wd2 (sumT e x g y)), .int .u64 (wd3 (sumT e x g y))]) ∧ Below w.heap.size w w' :=
  mag_sum_core e g (levT e x g y + 1) _ _ _ _ _ _ _ _ _ _ _ _ (decide (cmpT e x g y < 0)) (lH mag_fit_Add)
    (lH fun bk w hf => mag_comb _ bk e x g y 1 (sumT e x g y) x0 x1 y0 y1 (by decide) (by decide) (fun p q h w hf => by
      have z : p + q = sumT e x g y := by
        unfold sumT
        rcases h with ⟨_, rfl, rfl⟩ | ⟨_, rfl, rfl⟩
        · exact Int.add_comm _ _
        · rfl
      rw [← z]
      exact mag_op_Add bk _ _ _ _ _ _ _ _ _ _ _ _ _ (lH (addW p q)) w hf) w hf) w
theorem mag_diff (e x g y : Int) (x0 : 0 ≤ x) (x1 : x < wfull) (y0 : 0 ≤ y) (y1 : y < wfull) (w : World) : Calls Tryz.prog 110 #[.agg #[.int .i64 e, .int .u64 (wd0 (x)), .int .u64 (wd1 (x)), .int .u64 (wd2 (x)), .int .u64 (wd3 (x))], .agg #[.int .i64 g, .int .u64 (wd0 (y)), .int .u64 (wd1 (y)), .int .u64 (wd2 (y)), .int .u64 (wd3 (y))]] w fun r w' => r = .returned (.tuple #[.agg #[.int .i64 ((levT e x g y)), .int .u64 (wd0 (diffT e x g y)), .int .u64 (wd1 (diffT e x g y)), .int .u64 (wd2 (diffT e x g y)), .int .u64 (wd3 (diffT e x g y))], .bool (decide (cmpT e x g y < 0))]) ∧ Below w.heap.size w w' := by
  have h := mag_diff_core e g (levT e x g y + 0) _ _ _ _ _ _ _ _ _ _ _ _ (decide (cmpT e x g y < 0)) (lH mag_fit_Sub)
    (lH fun bk w hf => mag_comb _ bk e x g y 0 (diffT e x g y) x0 x1 y0 y1 (by decide) (by decide) (fun p q h w hf => by
      have z : p - q = diffT e x g y := by
        unfold diffT
        simp only [Int.add_zero] at h
        rcases h with ⟨k, rfl, rfl⟩ | ⟨k, rfl, rfl⟩
        · rw [if_pos k]
        · rw [if_neg k]
      rw [← z]
      exact mag_op_Sub bk _ _ _ _ _ _ _ _ _ _ _ _ _ (lH (subW p q)) w hf) w hf) w
  rw [Int.add_zero] at h
  exact h
theorem magOK : MagOK where
  of_ := fun g c e h l uh ul w => mag_of c e h l 0 0 l h g (lH (join_any h l 0 0)) w
  cmp := fun e x g y _ _ x0 x1 _ _ y0 y1 w => mag_cmp e x g y x0 x1 y0 y1 w
  sum := fun e x g y _ _ x0 x1 _ _ y0 y1 w => mag_sum e x g y x0 x1 y0 y1 w
  diff := fun e x g y _ _ x0 x1 _ _ y0 y1 w => mag_diff e x g y x0 x1 y0 y1 w
end Go.Proofs.YtjdjonekoodalaaGreatDoor
