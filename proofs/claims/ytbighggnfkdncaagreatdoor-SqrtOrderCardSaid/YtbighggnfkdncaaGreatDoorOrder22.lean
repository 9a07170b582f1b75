import Derived.Test.YtbighggnfkdncaaGreatDoorGxA
import Derived.Test.YtbighggnfkdncaaGreatDoorRest0
set_option maxHeartbeats 4000000
set_option linter.unusedVariables false
set_option linter.unusedSimpArgs false
set_option maxRecDepth 100000
namespace Go.Proofs.YtbighggnfkdncaaGreatDoor
open Go.RowKit
attribute [local go_sem ↓] Go.wp_at_zero Go.wp_at_succ
theorem order22_no (f m ah al bh bl mm r q9 xh xl yh yl ph pl qh ql pf qf : Int) (t : Bool)
    (h0 : Hid (∀ w, FTab w → Ca 13 #[.int .u8 f, U2 ah al] w (U2 xh xl)))
    (h1 : Hid (∀ w, FTab w → Ca 13 #[.int .u8 f, U2 bh bl] w (U2 yh yl)))
    (h3 : Hid (∀ w, FTab w → Ca 12 #[] w (.bool true))) (m2 : m.tmod 5 = mm) (m3 : m % 5 = mm) (AN : Hid (∀ w, FTab w → ∀ p T, HB w p T #[.int .u64 xh, .int .u64 xl, .int .u64 yh, .int .u64 yl] → Ca 22 #[.int .u8 f, .func (.func 23) #[] #[], .slice (some ⟨p, 0, none⟩) 2 2] w (.bool true))) (w : World) (ft : FTab w) :
    Ca 6 #[.int .u8 f, .agg #[.int .u8 m, .bool t], U2 ah al, U2 bh bl] w (.bool true) := by
  simp only [Ca, U2] at *
  go_enter Tryz.func6, Tryz.ntmps6
  go_wp2_with fail
  have gX1 : w.heap.size ≤ w.heap.size + 1 := by omega
  have gX2 : w.heap.size ≤ w.heap.size + 1 + 1 := by omega
  refine vF3 fun w1 b1 _ X1 X2 => ?_
  refine' (have tl2 : Hid (_ : Prop) := ?ntl2; ?mtl2)
  case' mtl2 => skip
  refine vR [w.heap.size + 1, w.heap.size + 1 + 1] fun w2 b2 S2 => ?_
  refine vT 0 S2 ?_
  refine vT 3 S2 ?_
  replace X1 := X1.later b2
  replace X2 := X2.later b2
  have oX1 := X1.o
  have oX2 := X2.o
  refine vY2 (cV 1 S2 ?_) (cV 4 S2 ?_)
  · skip
    clear oX1 oX2
    have oX2 := X2.o
    refine vY2 (vC 2 S2 (h0.out _ (ft.later (bC b1 b2))) (fun _ _ => Off.later) fun w3 b3 S3 => ?_) (cV 4 S2 ?_)
    · skip
      clear oX2
      replace X1 := X1.later b3
      replace X2 := X2.later b3
      have oX2 := X2.o
      refine vY1 (cV 4 S3 ?_)
      clear oX2
      have kz := (bC b2 b3)
      clear b2 S2 b3
      revert S3
      revert kz
      revert X2
      revert X1
      revert w3
      exact tl2.out
    · skip
      clear oX2
      refine vY1 (vC 2 S2 (h0.out _ (ft.later (bC b1 b2))) (fun _ _ => Off.later) fun w4 b4 S4 => ?_)
      replace X1 := X1.later b4
      replace X2 := X2.later b4
      have kz := (bC b2 b4)
      clear b2 S2 b4
      revert S4
      revert kz
      revert X2
      revert X1
      revert w4
      exact tl2.out
  · skip
    clear oX1 oX2
    have oX1 := X1.o
    refine vY1 (cV 1 S2 ?_)
    clear oX1
    refine vY1 (vC 2 S2 (h0.out _ (ft.later (bC b1 b2))) (fun _ _ => Off.later) fun w5 b5 S5 => ?_)
    replace X1 := X1.later b5
    replace X2 := X2.later b5
    have kz := (bC b2 b5)
    clear b2 S2 b5
    revert S5
    revert kz
    revert X2
    revert X1
    revert w5
    exact tl2.out
  case' ntl2 => refine lH ?_
  intro w6 X1 X2 b6 S6
  refine vY1 (vC 5 S6 (h1.out _ (ft.later (bC b1 b6))) (fun _ _ => Off.later) fun w7 b7 S7 => ?_)
  refine vY1 (vO 6 fun K hK => ?_)
  replace X1 := X1.later b7
  replace X2 := X2.later b7
  have oX1 := X1.o
  go_simp
  refine hK.out _ _ (Off.set (by simp) (Off.set (by simp) S7)) fun S8 => ?_
  clear hK K
  refine vP ?_
  refine vY1 (vO 7 fun K hK => ?_)
  have oX2 := X2.o
  have mX2_X1 : ¬ (w.heap.size + 1 + 1 = w.heap.size + 1) := by omega
  have mX1_X2 : ¬ (w.heap.size + 1 = w.heap.size + 1 + 1) := by omega
  go_simp
  refine hK.out _ _ (Off.set (by simp) (Off.set (by simp) S8)) fun S9 => ?_
  clear hK K
  refine vP ?_
  refine vD ?_
  go_wp2_with fail
  refine vM (AN.out _ (ft.later (bA (((((bC (bC b1 b6) b7).setCell (p := ⟨w.heap.size + 1, 0, none⟩) gX1 _).setCell (p := ⟨w.heap.size + 1, 1, none⟩) gX1 _).setCell (p := ⟨w.heap.size + 1 + 1, 0, none⟩) gX2 _).setCell (p := ⟨w.heap.size + 1 + 1, 1, none⟩) gX2 _) _)) _ _ (HB.newAt (b := w7.heap.size) (by simp) _ _)) fun w10 b10 => ?_
  have kk := bC (bA (((((bC (bC b1 b6) b7).setCell (p := ⟨w.heap.size + 1, 0, none⟩) gX1 _).setCell (p := ⟨w.heap.size + 1, 1, none⟩) gX1 _).setCell (p := ⟨w.heap.size + 1 + 1, 0, none⟩) gX2 _).setCell (p := ⟨w.heap.size + 1 + 1, 1, none⟩) gX2 _) _) b10
  clear oX1 oX2 mX2_X1 mX1_X2
  go_wp2_with fail
  refine vM (h3.out _ (ft.later kk)) fun w11 b11 => ?_
  go_wp2_with fail
  go_ret
  exact ⟨rfl, (bC kk b11)⟩
theorem order22_1 (f m ah al bh bl mm r q9 xh xl yh yl ph pl qh ql pf qf : Int) (t : Bool)
    (h0 : Hid (∀ w, FTab w → Ca 13 #[.int .u8 f, U2 ah al] w (U2 xh xl)))
    (h1 : Hid (∀ w, FTab w → Ca 13 #[.int .u8 f, U2 bh bl] w (U2 yh yl)))
    (h3 : Hid (∀ w, Ca 18 #[U2 xh xl, U2 yh yl] w (.int .i64 r)))
    (h4 : Hid (∀ w, FTab w → Ca 10 #[.int .u8 f, .agg #[.int .u8 mm, .bool t], U2 yh yl] w (.agg #[.int .u64 ph, .int .u64 pl, .int .u8 pf])))
    (h5 : Hid (∀ w, FTab w → Ca 10 #[.int .u8 f, .agg #[.int .u8 mm, .bool t], U2 xh xl] w (.agg #[.int .u64 qh, .int .u64 ql, .int .u8 qf])))
    (h6 : Hid (∀ w, Ca 18 #[U2 ph pl, U2 qh ql] w (.int .i64 q9)))
    (h7 : Hid (∀ w, FTab w → Ca 12 #[] w (.bool true))) (m2 : m.tmod 5 = mm) (m3 : m % 5 = mm) (AN : Hid (∀ w, FTab w → ∀ p T, HB w p T #[.int .u64 xh, .int .u64 xl, .int .u64 yh, .int .u64 yl] → Ca 22 #[.int .u8 f, .func (.func 23) #[] #[], .slice (some ⟨p, 0, none⟩) 2 2] w (.bool false))) (gr : decide (0 < r) = true) (gq : decide (q9 ≤ 0) = true) (w : World) (ft : FTab w) :
    Ca 6 #[.int .u8 f, .agg #[.int .u8 m, .bool t], U2 ah al, U2 bh bl] w (.bool true) := by
  simp only [Ca, U2] at *
  go_enter Tryz.func6, Tryz.ntmps6
  go_wp2_with fail
  have gX1 : w.heap.size ≤ w.heap.size + 1 := by omega
  have gX2 : w.heap.size ≤ w.heap.size + 1 + 1 := by omega
  refine vF3 fun w1 b1 X0 X1 X2 => ?_
  refine' (have tl2 : Hid (_ : Prop) := ?ntl2; ?mtl2)
  case' mtl2 => skip
  refine vR [w.heap.size + 1, w.heap.size + 1 + 1] fun w2 b2 S2 => ?_
  refine vT 0 S2 ?_
  refine vT 3 S2 ?_
  replace X1 := X1.later b2
  replace X2 := X2.later b2
  have oX1 := X1.o
  have oX2 := X2.o
  refine vY2 (cV 1 S2 ?_) (cV 4 S2 ?_)
  · skip
    clear oX1 oX2
    have oX2 := X2.o
    refine vY2 (vC 2 S2 (h0.out _ (ft.later (bC b1 b2))) (fun _ _ => Off.later) fun w3 b3 S3 => ?_) (cV 4 S2 ?_)
    · skip
      clear oX2
      replace X1 := X1.later b3
      replace X2 := X2.later b3
      have oX2 := X2.o
      refine vY1 (cV 4 S3 ?_)
      clear oX2
      have kz := (bC b2 b3)
      clear b2 S2 b3
      revert S3
      revert kz
      revert X2
      revert X1
      revert w3
      exact tl2.out
    · skip
      clear oX2
      refine vY1 (vC 2 S2 (h0.out _ (ft.later (bC b1 b2))) (fun _ _ => Off.later) fun w4 b4 S4 => ?_)
      replace X1 := X1.later b4
      replace X2 := X2.later b4
      have kz := (bC b2 b4)
      clear b2 S2 b4
      revert S4
      revert kz
      revert X2
      revert X1
      revert w4
      exact tl2.out
  · skip
    clear oX1 oX2
    have oX1 := X1.o
    refine vY1 (cV 1 S2 ?_)
    clear oX1
    refine vY1 (vC 2 S2 (h0.out _ (ft.later (bC b1 b2))) (fun _ _ => Off.later) fun w5 b5 S5 => ?_)
    replace X1 := X1.later b5
    replace X2 := X2.later b5
    have kz := (bC b2 b5)
    clear b2 S2 b5
    revert S5
    revert kz
    revert X2
    revert X1
    revert w5
    exact tl2.out
  case' ntl2 => refine lH ?_
  intro w6 X1 X2 b6 S6
  refine vY1 (vC 5 S6 (h1.out _ (ft.later (bC b1 b6))) (fun _ _ => Off.later) fun w7 b7 S7 => ?_)
  refine vY1 (vO 6 fun K hK => ?_)
  replace X0 := X0.later (bC b6 b7)
  replace X1 := X1.later b7
  replace X2 := X2.later b7
  have oX1 := X1.o
  go_simp
  refine hK.out _ _ (Off.set (by simp) (Off.set (by simp) S7)) fun S8 => ?_
  clear hK K
  refine vP ?_
  refine vY1 (vO 7 fun K hK => ?_)
  have oX2 := X2.o
  have mX2_X1 : ¬ (w.heap.size + 1 + 1 = w.heap.size + 1) := by omega
  have mX1_X2 : ¬ (w.heap.size + 1 = w.heap.size + 1 + 1) := by omega
  go_simp
  refine hK.out _ _ (Off.set (by simp) (Off.set (by simp) S8)) fun S9 => ?_
  clear hK K
  refine vP ?_
  refine vD ?_
  go_wp2_with fail
  refine vM (AN.out _ (ft.later (bA (((((bC (bC b1 b6) b7).setCell (p := ⟨w.heap.size + 1, 0, none⟩) gX1 _).setCell (p := ⟨w.heap.size + 1, 1, none⟩) gX1 _).setCell (p := ⟨w.heap.size + 1 + 1, 0, none⟩) gX2 _).setCell (p := ⟨w.heap.size + 1 + 1, 1, none⟩) gX2 _) _)) _ _ (HB.newAt (b := w7.heap.size) (by simp) _ _)) fun w10 b10 => ?_
  replace X0 := (((((X0.other (by omega) 0 _).other (by omega) 1 _).other (by omega) 0 _).other (by omega) 1 _).alloc _).later b10
  replace X1 := (((((X1.set 0 _).set 1 _).other (by omega) 0 _).other (by omega) 1 _).alloc _).later b10
  replace X2 := (((((X2.other (by omega) 0 _).other (by omega) 1 _).set 0 _).set 1 _).alloc _).later b10
  have kk := bC (bA (((((bC (bC b1 b6) b7).setCell (p := ⟨w.heap.size + 1, 0, none⟩) gX1 _).setCell (p := ⟨w.heap.size + 1, 1, none⟩) gX1 _).setCell (p := ⟨w.heap.size + 1 + 1, 0, none⟩) gX2 _).setCell (p := ⟨w.heap.size + 1 + 1, 1, none⟩) gX2 _) _) b10
  clear oX1 oX2 mX2_X1 mX1_X2
  have oX1 := X1.o
  have oX2 := X2.o
  go_wp2_with fail
  refine vM (h3.out _) fun w11 b11 => ?_
  clear oX1 oX2
  replace X2 := X2.later b11
  have oX2 := X2.o
  replace X1 := X1.later b11
  have oX1 := X1.o
  have mX2_X1 : ¬ (w.heap.size + 1 + 1 = w.heap.size + 1) := by omega
  have mX1_X2 : ¬ (w.heap.size + 1 = w.heap.size + 1 + 1) := by omega
  go_wp2_with fail
  replace X0 := X0.later b11
  refine wp_forget (fun W => HB W w.heap.size 25 #[.int .u8 mm, .bool t] ∧ HB W (w.heap.size + 1) 28 #[.int .u64 yh, .int .u64 yl] ∧ HB W (w.heap.size + 1 + 1) 28 #[.int .u64 xh, .int .u64 xl] ∧ Below w.heap.size w W) ⟨((((X0.other (by omega) 0 _).other (by omega) 1 _).other (by omega) 0 _).other (by omega) 1 _), ((((X1.set 0 _).set 1 _).other (by omega) 0 _).other (by omega) 1 _), ((((X2.other (by omega) 0 _).other (by omega) 1 _).set 0 _).set 1 _), (((((bC kk b11).setCell (p := ⟨w.heap.size + 1, 0, none⟩) gX1 _).setCell (p := ⟨w.heap.size + 1, 1, none⟩) gX1 _).setCell (p := ⟨w.heap.size + 1 + 1, 0, none⟩) gX2 _).setCell (p := ⟨w.heap.size + 1 + 1, 1, none⟩) gX2 _)⟩ (fun w12 hst => ?_)
  obtain ⟨X0, X1, X2, kk⟩ := hst
  clear oX2 oX1 mX2_X1 mX1_X2
  have hfd1 : ∀ w : World, (Instr.field 31 (.agg #[.int .u64 ph, .int .u64 pl, .int .u8 pf]) 0).run Tryz.prog w = .ok (.agg #[.int .u64 ph, .int .u64 pl]) w := fun _ => by kernel_rfl
  have hfd2 : ∀ w : World, (Instr.field 31 (.agg #[.int .u64 qh, .int .u64 ql, .int .u8 qf]) 0).run Tryz.prog w = .ok (.agg #[.int .u64 qh, .int .u64 ql]) w := fun _ => by kernel_rfl
  refine vR [] fun w13 b13 S13 => ?_
  refine vT 0 S13 ?_
  refine vT 1 S13 ?_ (hy := by intro wq hb; have q := (hb.hb X0 (by simp)).o; go_simp; try (with_reducible rfl))
  refine vT 2 S13 ?_ (hy := by intro wq hb; have q := (hb.hb X1 (by simp)).o; go_simp; try (with_reducible rfl))
  refine vT 5 S13 ?_
  refine vT 6 S13 ?_ (hy := by intro wq hb; have q := (hb.hb X0 (by simp)).o; go_simp; try (with_reducible rfl))
  refine vT 7 S13 ?_ (hy := by intro wq hb; have q := (hb.hb X2 (by simp)).o; go_simp; try (with_reducible rfl))
  refine vY1 (vC 3 S13 (h4.out _ (ft.later (bC kk b13))) (fun _ _ => Off.later) fun w14 b14 S14 => ?_)
  refine vT 4 S14 ?_
  refine vY1 (vC 8 S14 (h5.out _ (ft.later (bC kk (bC b13 b14)))) (fun _ _ => Off.later) fun w15 b15 S15 => ?_)
  refine vT 9 S15 ?_
  refine vY1 (vC 10 S15 (h6.out _) (fun _ _ => Off.later) fun w16 b16 S16 => ?_)
  refine vT 11 S16 ?_
  refine vT 12 S16 ?_
  refine vY1 (vC 13 S16 (h7.out _ (ft.later (bC kk (bC (bC (bC b13 b14) b15) b16)))) (fun _ _ => Off.later) fun w17 b17 S17 => ?_)
  refine vT 14 S17 ?_
  refine vT 15 S17 ?_
  refine vD ?_
  go_wp2_with fail
  go_ret
  exact ⟨rfl, (bC kk (bC (bC (bC (bC b13 b14) b15) b16) b17))⟩
theorem order22_0 (f m ah al bh bl mm r q9 xh xl yh yl ph pl qh ql pf qf : Int) (t : Bool)
    (h0 : Hid (∀ w, FTab w → Ca 13 #[.int .u8 f, U2 ah al] w (U2 xh xl)))
    (h1 : Hid (∀ w, FTab w → Ca 13 #[.int .u8 f, U2 bh bl] w (U2 yh yl)))
    (h3 : Hid (∀ w, Ca 18 #[U2 xh xl, U2 yh yl] w (.int .i64 r)))
    (h4 : Hid (∀ w, FTab w → Ca 10 #[.int .u8 f, .agg #[.int .u8 mm, .bool t], U2 xh xl] w (.agg #[.int .u64 ph, .int .u64 pl, .int .u8 pf])))
    (h5 : Hid (∀ w, FTab w → Ca 10 #[.int .u8 f, .agg #[.int .u8 mm, .bool t], U2 yh yl] w (.agg #[.int .u64 qh, .int .u64 ql, .int .u8 qf])))
    (h6 : Hid (∀ w, Ca 18 #[U2 ph pl, U2 qh ql] w (.int .i64 q9)))
    (h7 : Hid (∀ w, FTab w → Ca 12 #[] w (.bool true))) (m2 : m.tmod 5 = mm) (m3 : m % 5 = mm) (AN : Hid (∀ w, FTab w → ∀ p T, HB w p T #[.int .u64 xh, .int .u64 xl, .int .u64 yh, .int .u64 yl] → Ca 22 #[.int .u8 f, .func (.func 23) #[] #[], .slice (some ⟨p, 0, none⟩) 2 2] w (.bool false))) (gr : decide (0 < r) = false) (gq : decide (q9 ≤ 0) = true) (w : World) (ft : FTab w) :
    Ca 6 #[.int .u8 f, .agg #[.int .u8 m, .bool t], U2 ah al, U2 bh bl] w (.bool true) := by
  simp only [Ca, U2] at *
  go_enter Tryz.func6, Tryz.ntmps6
  go_wp2_with fail
  have gX1 : w.heap.size ≤ w.heap.size + 1 := by omega
  have gX2 : w.heap.size ≤ w.heap.size + 1 + 1 := by omega
  refine vF3 fun w1 b1 X0 X1 X2 => ?_
  refine' (have tl2 : Hid (_ : Prop) := ?ntl2; ?mtl2)
  case' mtl2 => skip
  refine vR [w.heap.size + 1, w.heap.size + 1 + 1] fun w2 b2 S2 => ?_
  refine vT 0 S2 ?_
  refine vT 3 S2 ?_
  replace X1 := X1.later b2
  replace X2 := X2.later b2
  have oX1 := X1.o
  have oX2 := X2.o
  refine vY2 (cV 1 S2 ?_) (cV 4 S2 ?_)
  · skip
    clear oX1 oX2
    have oX2 := X2.o
    refine vY2 (vC 2 S2 (h0.out _ (ft.later (bC b1 b2))) (fun _ _ => Off.later) fun w3 b3 S3 => ?_) (cV 4 S2 ?_)
    · skip
      clear oX2
      replace X1 := X1.later b3
      replace X2 := X2.later b3
      have oX2 := X2.o
      refine vY1 (cV 4 S3 ?_)
      clear oX2
      have kz := (bC b2 b3)
      clear b2 S2 b3
      revert S3
      revert kz
      revert X2
      revert X1
      revert w3
      exact tl2.out
    · skip
      clear oX2
      refine vY1 (vC 2 S2 (h0.out _ (ft.later (bC b1 b2))) (fun _ _ => Off.later) fun w4 b4 S4 => ?_)
      replace X1 := X1.later b4
      replace X2 := X2.later b4
      have kz := (bC b2 b4)
      clear b2 S2 b4
      revert S4
      revert kz
      revert X2
      revert X1
      revert w4
      exact tl2.out
  · skip
    clear oX1 oX2
    have oX1 := X1.o
    refine vY1 (cV 1 S2 ?_)
    clear oX1
    refine vY1 (vC 2 S2 (h0.out _ (ft.later (bC b1 b2))) (fun _ _ => Off.later) fun w5 b5 S5 => ?_)
    replace X1 := X1.later b5
    replace X2 := X2.later b5
    have kz := (bC b2 b5)
    clear b2 S2 b5
    revert S5
    revert kz
    revert X2
    revert X1
    revert w5
    exact tl2.out
  case' ntl2 => refine lH ?_
  intro w6 X1 X2 b6 S6
  refine vY1 (vC 5 S6 (h1.out _ (ft.later (bC b1 b6))) (fun _ _ => Off.later) fun w7 b7 S7 => ?_)
  refine vY1 (vO 6 fun K hK => ?_)
  replace X0 := X0.later (bC b6 b7)
  replace X1 := X1.later b7
  replace X2 := X2.later b7
  have oX1 := X1.o
  go_simp
  refine hK.out _ _ (Off.set (by simp) (Off.set (by simp) S7)) fun S8 => ?_
  clear hK K
  refine vP ?_
  refine vY1 (vO 7 fun K hK => ?_)
  have oX2 := X2.o
  have mX2_X1 : ¬ (w.heap.size + 1 + 1 = w.heap.size + 1) := by omega
  have mX1_X2 : ¬ (w.heap.size + 1 = w.heap.size + 1 + 1) := by omega
  go_simp
  refine hK.out _ _ (Off.set (by simp) (Off.set (by simp) S8)) fun S9 => ?_
  clear hK K
  refine vP ?_
  refine vD ?_
  go_wp2_with fail
  refine vM (AN.out _ (ft.later (bA (((((bC (bC b1 b6) b7).setCell (p := ⟨w.heap.size + 1, 0, none⟩) gX1 _).setCell (p := ⟨w.heap.size + 1, 1, none⟩) gX1 _).setCell (p := ⟨w.heap.size + 1 + 1, 0, none⟩) gX2 _).setCell (p := ⟨w.heap.size + 1 + 1, 1, none⟩) gX2 _) _)) _ _ (HB.newAt (b := w7.heap.size) (by simp) _ _)) fun w10 b10 => ?_
  replace X0 := (((((X0.other (by omega) 0 _).other (by omega) 1 _).other (by omega) 0 _).other (by omega) 1 _).alloc _).later b10
  replace X1 := (((((X1.set 0 _).set 1 _).other (by omega) 0 _).other (by omega) 1 _).alloc _).later b10
  replace X2 := (((((X2.other (by omega) 0 _).other (by omega) 1 _).set 0 _).set 1 _).alloc _).later b10
  have kk := bC (bA (((((bC (bC b1 b6) b7).setCell (p := ⟨w.heap.size + 1, 0, none⟩) gX1 _).setCell (p := ⟨w.heap.size + 1, 1, none⟩) gX1 _).setCell (p := ⟨w.heap.size + 1 + 1, 0, none⟩) gX2 _).setCell (p := ⟨w.heap.size + 1 + 1, 1, none⟩) gX2 _) _) b10
  clear oX1 oX2 mX2_X1 mX1_X2
  have oX1 := X1.o
  have oX2 := X2.o
  go_wp2_with fail
  refine vM (h3.out _) fun w11 b11 => ?_
  clear oX1 oX2
  go_wp2_with fail
  have hfd1 : ∀ w : World, (Instr.field 31 (.agg #[.int .u64 ph, .int .u64 pl, .int .u8 pf]) 0).run Tryz.prog w = .ok (.agg #[.int .u64 ph, .int .u64 pl]) w := fun _ => by kernel_rfl
  have hfd2 : ∀ w : World, (Instr.field 31 (.agg #[.int .u64 qh, .int .u64 ql, .int .u8 qf]) 0).run Tryz.prog w = .ok (.agg #[.int .u64 qh, .int .u64 ql]) w := fun _ => by kernel_rfl
  replace X0 := X0.later b11
  replace X1 := X1.later b11
  replace X2 := X2.later b11
  refine vR [] fun w12 b12 S12 => ?_
  refine vT 0 S12 ?_
  refine vT 1 S12 ?_ (hy := by intro wq hb; have q := (hb.hb X0 (by simp)).o; go_simp; try (with_reducible rfl))
  refine vT 2 S12 ?_ (hy := by intro wq hb; have q := (hb.hb X1 (by simp)).o; go_simp; try (with_reducible rfl))
  refine vT 5 S12 ?_
  refine vT 6 S12 ?_ (hy := by intro wq hb; have q := (hb.hb X0 (by simp)).o; go_simp; try (with_reducible rfl))
  refine vT 7 S12 ?_ (hy := by intro wq hb; have q := (hb.hb X2 (by simp)).o; go_simp; try (with_reducible rfl))
  refine vY1 (vC 3 S12 (h4.out _ (ft.later (bC kk (bC b11 b12)))) (fun _ _ => Off.later) fun w13 b13 S13 => ?_)
  refine vT 4 S13 ?_
  refine vY1 (vC 8 S13 (h5.out _ (ft.later (bC kk (bC (bC b11 b12) b13)))) (fun _ _ => Off.later) fun w14 b14 S14 => ?_)
  refine vT 9 S14 ?_
  refine vY1 (vC 10 S14 (h6.out _) (fun _ _ => Off.later) fun w15 b15 S15 => ?_)
  refine vT 11 S15 ?_
  refine vT 12 S15 ?_
  refine vY1 (vC 13 S15 (h7.out _ (ft.later (bC kk (bC (bC (bC (bC b11 b12) b13) b14) b15)))) (fun _ _ => Off.later) fun w16 b16 S16 => ?_)
  refine vT 14 S16 ?_
  refine vT 15 S16 ?_
  refine vD ?_
  go_wp2_with fail
  go_ret
  exact ⟨rfl, (bC kk (bC (bC (bC (bC (bC b11 b12) b13) b14) b15) b16))⟩
end Go.Proofs.YtbighggnfkdncaaGreatDoor
