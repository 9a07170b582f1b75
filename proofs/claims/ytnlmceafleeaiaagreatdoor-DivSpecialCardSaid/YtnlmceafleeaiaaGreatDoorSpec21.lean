import Derived.Test.YtnlmceafleeaiaaGreatDoorGwA
import Derived.Test.YtnlmceafleeaiaaGreatDoorGaB
import Derived.Test.YtnlmceafleeaiaaGreatDoorGfA
import Derived.Test.YtnlmceafleeaiaaGreatDoorGhA
import Derived.Test.YtnlmceafleeaiaaGreatDoorGaA
import Derived.Test.YtnlmceafleeaiaaGreatDoorGoes21
import Derived.Test.YtnlmceafleeaiaaGreatDoorRest0
set_option maxHeartbeats 4000000
set_option linter.unusedVariables false
set_option linter.unusedSimpArgs false
set_option maxRecDepth 100000
namespace Go.Proofs.YtnlmceafleeaiaaGreatDoor
open Go.RowKit
attribute [local go_sem ↓] Go.wp_at_zero Go.wp_at_succ
theorem spec21_no1 (f m ah al : Int) (t ng : Bool)
    (h0 : Hid (∀ w, FTab w → Ca 13 #[.int .u8 f, U2 ah al] w (.bool false)))
    (h2 : Hid (∀ w, FTab w → Ca 12 #[] w (.bool true))) (w : World) (ft : FTab w) :
    Ca 8 #[.int .u8 f, .agg #[.int .u8 m, .bool t], U2 ah al, .bool ng] w (.bool true) := by
  simp only [Ca, U2] at *
  go_enter Tryz.func8, Tryz.ntmps8
  go_wp2_with fail
  refine vM (h0.out _ (ft.later (bA (bA bR _) _))) fun w1 b1 => ?_
  go_wp2_with fail
  refine vM (h2.out _ (ft.later (bC (bA (bA bR _) _) b1))) fun w2 b2 => ?_
  go_wp2_with fail
  go_ret
  exact ⟨rfl, (bC (bC (bA (bA bR _) _) b1) b2)⟩
theorem spec21_no2 (f m ah al : Int) (t ng : Bool)
    (h0 : Hid (∀ w, FTab w → Ca 13 #[.int .u8 f, U2 ah al] w (.bool true)))
    (h1 : Hid (∀ w, Ca 21 #[.int .u8 m] w (.bool false)))
    (h2 : Hid (∀ w, FTab w → Ca 12 #[] w (.bool true))) (w : World) (ft : FTab w) :
    Ca 8 #[.int .u8 f, .agg #[.int .u8 m, .bool t], U2 ah al, .bool ng] w (.bool true) := by
  simp only [Ca, U2] at *
  go_enter Tryz.func8, Tryz.ntmps8
  go_wp2_with fail
  refine vM (h0.out _ (ft.later (bA (bA bR _) _))) fun w1 b1 => ?_
  have X0 := ((HB.newAt (b := w.heap.size) (by simp) _ _).alloc _).later b1
  have oX0 := X0.o
  go_wp2_with fail
  refine vM (h1.out _) fun w2 b2 => ?_
  clear oX0
  go_wp2_with fail
  refine vM (h2.out _ (ft.later (bC (bC (bA (bA bR _) _) b1) b2))) fun w3 b3 => ?_
  go_wp2_with fail
  go_ret
  exact ⟨rfl, (bC (bC (bC (bA (bA bR _) _) b1) b2) b3)⟩
theorem spec21_main (f m ah al k zh zl ih il nh nl jh jl qh ql rh rl uh ul vh vl : Int) (t ng na : Bool)
    (h0 : Hid (∀ w, FTab w → Ca 13 #[.int .u8 f, U2 ah al] w (.bool true)))
    (h1 : Hid (∀ w, Ca 21 #[.int .u8 m] w (.bool true)))
    (h2 : Hid (∀ w, FTab w → Ca 14 #[.int .u8 f, U2 ah al] w (.tuple #[.int .u8 k, .bool na])))
    (h3 : Hid (∀ w, FTab w → Ca 27 #[.int .u8 f, .bool ng] w (U2 zh zl)))
    (h4 : Hid (∀ w, FTab w → Ca 28 #[.int .u8 f, .bool ng] w (U2 ih il)))
    (h5 : Hid (∀ w, FTab w → Ca 27 #[.int .u8 f, .bool ((!(ng == na)))] w (U2 nh nl)))
    (h6 : Hid (∀ w, FTab w → Ca 28 #[.int .u8 f, .bool ((!(ng == na)))] w (U2 jh jl)))
    (h7 : Hid (∀ w, FTab w → Ca 10 #[.int .u8 f, .agg #[.int .u8 m, .bool t], U2 ah al, U2 zh zl] w (.agg #[.int .u64 jh, .int .u64 jl, .int .u8 2])))
    (h8 : Hid (∀ w, FTab w → Ca 10 #[.int .u8 f, .agg #[.int .u8 m, .bool t], U2 zh zl, U2 ah al] w (.agg #[.int .u64 nh, .int .u64 nl, .int .u8 0])))
    (h9 : Hid (∀ w, FTab w → Ca 10 #[.int .u8 f, .agg #[.int .u8 m, .bool t], U2 ah al, U2 ih il] w (.agg #[.int .u64 nh, .int .u64 nl, .int .u8 0])))
    (h10 : Hid (∀ w, FTab w → Ca 10 #[.int .u8 f, .agg #[.int .u8 m, .bool t], U2 ih il, U2 ah al] w (.agg #[.int .u64 jh, .int .u64 jl, .int .u8 0])))
    (h11 : Hid (∀ w, FTab w → Ca 10 #[.int .u8 f, .agg #[.int .u8 m, .bool t], U2 zh zl, U2 zh zl] w (.agg #[.int .u64 qh, .int .u64 ql, .int .u8 1])))
    (h12 : Hid (∀ w, FTab w → Ca 10 #[.int .u8 f, .agg #[.int .u8 m, .bool t], U2 ih il, U2 ih il] w (.agg #[.int .u64 rh, .int .u64 rl, .int .u8 1])))
    (h13 : Hid (∀ w, FTab w → Ca 10 #[.int .u8 f, .agg #[.int .u8 m, .bool t], U2 ih il, U2 zh zl] w (.agg #[.int .u64 uh, .int .u64 ul, .int .u8 0])))
    (h14 : Hid (∀ w, FTab w → Ca 28 #[.int .u8 f, .bool false] w (U2 uh ul)))
    (h15 : Hid (∀ w, FTab w → Ca 10 #[.int .u8 f, .agg #[.int .u8 m, .bool t], U2 zh zl, U2 ih il] w (.agg #[.int .u64 vh, .int .u64 vl, .int .u8 0])))
    (h16 : Hid (∀ w, FTab w → Ca 27 #[.int .u8 f, .bool false] w (U2 vh vl)))
    (h17 : Hid (∀ w, FTab w → Ca 12 #[] w (.bool true))) (w : World) (ft : FTab w) :
    Ca 8 #[.int .u8 f, .agg #[.int .u8 m, .bool t], U2 ah al, .bool ng] w (.bool true) := by
  simp only [Ca, U2] at *
  have E1 := eqr21 jh jl 2
  have E2 := eqr21 nh nl 0
  have E3 := eqr21 jh jl 0
  have E4 := eqr21 uh ul 0
  have E5 := eqr21 vh vl 0
  go_enter Tryz.func8, Tryz.ntmps8
  go_wp2_with fail
  refine vM (h0.out _ (ft.later (bA (bA bR _) _))) fun w1 b1 => ?_
  have X0 := ((HB.newAt (b := w.heap.size) (by simp) _ _).alloc _).later b1
  have X1 := (HB.newAt (b := w.heap.size + 1) (by simp) _ _).later b1
  have oX0 := X0.o
  go_wp2_with fail
  refine vM (h1.out _) fun w2 b2 => ?_
  clear oX0
  replace X1 := X1.later b2
  have oX1 := X1.o
  go_wp2_with fail
  refine vM (h2.out _ (ft.later (bC (bC (bA (bA bR _) _) b1) b2))) fun w3 b3 => ?_
  clear oX1
  go_wp2_with fail
  refine vM (h3.out _ (ft.later (bC (bC (bC (bA (bA bR _) _) b1) b2) b3))) fun w4 b4 => ?_
  go_wp2_with fail
  refine vM (h4.out _ (ft.later (bC (bC (bC (bC (bA (bA bR _) _) b1) b2) b3) b4))) fun w5 b5 => ?_
  go_wp2_with fail
  refine vM (h5.out _ (ft.later (bA (bA (bC (bC (bC (bC (bC (bA (bA bR _) _) b1) b2) b3) b4) b5) _) _))) fun w6 b6 => ?_
  have X2 := ((HB.newAt (b := w5.heap.size) (by simp) _ _).alloc _).later b6
  have X3 := (HB.newAt (b := w5.heap.size + 1) (by simp) _ _).later b6
  go_wp2_with fail
  refine vM (h6.out _ (ft.later (bC (bC (bC (bC (bC (bC (bA (bA bR _) _) b1) b2) b3) b4) b5) (bC (bA (bA bR _) _) b6)))) fun w7 b7 => ?_
  go_wp2_with fail
  simp only [List.append_eq, List.cons_append, List.nil_append]
  refine vF2 fun w8 b8 X4 X5 => ?_
  have hfd1 : ∀ w : World, (Instr.field 31 (.agg #[.int .u64 qh, .int .u64 ql, .int .u8 1]) 1).run Tryz.prog w = .ok (.int .u8 1) w := fun _ => by kernel_rfl
  have hfd2 : ∀ w : World, (Instr.field 31 (.agg #[.int .u64 rh, .int .u64 rl, .int .u8 1]) 1).run Tryz.prog w = .ok (.int .u8 1) w := fun _ => by kernel_rfl
  replace X0 := X0.later (bC (bC (bC (bC (bC (bC b2 b3) b4) b5) (bC (bA (bA bR _) _) b6)) b7) b8)
  replace X1 := X1.later (bC (bC (bC (bC (bC b3 b4) b5) (bC (bA (bA bR _) _) b6)) b7) b8)
  replace X2 := X2.later (bC b7 b8)
  replace X3 := X3.later (bC b7 b8)
  refine vR [] fun w9 b9 S9 => ?_
  refine vT 0 S9 ?_
  refine vT 1 S9 ?_ (hy := by intro wq hb; have q := (hb.hb X0 (by simp)).o; go_simp; try (with_reducible rfl))
  refine vT 2 S9 ?_ (hy := by intro wq hb; have q := (hb.hb X1 (by simp)).o; go_simp; try (with_reducible rfl))
  refine vT 3 S9 ?_ (hy := by intro wq hb; have q := (hb.hb X2 (by simp)).o; go_simp; try (with_reducible rfl))
  refine vT 5 S9 ?_ (hy := by intro wq hb; have q := (hb.hb X5 (by simp)).o; go_simp; try (with_reducible rfl))
  refine vT 6 S9 ?_
  refine vY1 (vC 4 S9 (h7.out _ (ft.later (bC (bC (bC (bC (bC (bC (bC (bC (bC (bA (bA bR _) _) b1) b2) b3) b4) b5) (bC (bA (bA bR _) _) b6)) b7) b8) b9))) (fun _ _ => Off.later) fun w10 b10 S10 => ?_)
  refine vT 7 S10 ?_
  refine vT 8 S10 ?_
  refine vT 9 S10 ?_
  as_aux_lemma =>
    refine vT 10 S10 ?_ (hy := by intro wq hb; have q := (hb.hb X0 (by simp)).o; go_simp; try (with_reducible rfl))
    refine vT 11 S10 ?_ (hy := by intro wq hb; have q := (hb.hb X2 (by simp)).o; go_simp; try (with_reducible rfl))
    refine vT 12 S10 ?_ (hy := by intro wq hb; have q := (hb.hb X1 (by simp)).o; go_simp; try (with_reducible rfl))
    refine vT 14 S10 ?_ (hy := by intro wq hb; have q := (hb.hb X4 (by simp)).o; go_simp; try (with_reducible rfl))
    refine vT 15 S10 ?_
    refine vY1 (vC 13 S10 (h8.out _ (ft.later (bC (bC (bC (bC (bC (bC (bC (bC (bC (bC (bA (bA bR _) _) b1) b2) b3) b4) b5) (bC (bA (bA bR _) _) b6)) b7) b8) b9) b10))) (fun _ _ => Off.later) fun w11 b11 S11 => ?_)
    refine vT 16 S11 ?_
    refine vT 17 S11 ?_
    refine vT 18 S11 ?_
    refine vT 19 S11 ?_
    refine vT 20 S11 ?_ (hy := by intro wq hb; have q := (hb.hb X0 (by simp)).o; go_simp; try (with_reducible rfl))
    refine vT 21 S11 ?_ (hy := by intro wq hb; have q := (hb.hb X1 (by simp)).o; go_simp; try (with_reducible rfl))
    refine vT 22 S11 ?_ (hy := by intro wq hb; have q := (hb.hb X3 (by simp)).o; go_simp; try (with_reducible rfl))
    refine vT 24 S11 ?_ (hy := by intro wq hb; have q := (hb.hb X4 (by simp)).o; go_simp; try (with_reducible rfl))
    refine vT 25 S11 ?_
    refine vY1 (vC 23 S11 (h9.out _ (ft.later (bC (bC (bC (bC (bC (bC (bC (bC (bC (bC (bC (bA (bA bR _) _) b1) b2) b3) b4) b5) (bC (bA (bA bR _) _) b6)) b7) b8) b9) b10) b11))) (fun _ _ => Off.later) fun w12 b12 S12 => ?_)
    refine vT 26 S12 ?_
    refine vT 27 S12 ?_
    refine vT 28 S12 ?_
    refine vT 29 S12 ?_
    as_aux_lemma =>
      refine vT 30 S12 ?_ (hy := by intro wq hb; have q := (hb.hb X0 (by simp)).o; go_simp; try (with_reducible rfl))
      refine vT 31 S12 ?_ (hy := by intro wq hb; have q := (hb.hb X3 (by simp)).o; go_simp; try (with_reducible rfl))
      refine vT 32 S12 ?_ (hy := by intro wq hb; have q := (hb.hb X1 (by simp)).o; go_simp; try (with_reducible rfl))
      refine vT 34 S12 ?_ (hy := by intro wq hb; have q := (hb.hb X5 (by simp)).o; go_simp; try (with_reducible rfl))
      refine vT 35 S12 ?_
      refine vY1 (vC 33 S12 (h10.out _ (ft.later (bC (bC (bC (bC (bC (bC (bC (bC (bC (bC (bC (bC (bA (bA bR _) _) b1) b2) b3) b4) b5) (bC (bA (bA bR _) _) b6)) b7) b8) b9) b10) b11) b12))) (fun _ _ => Off.later) fun w13 b13 S13 => ?_)
      refine vT 36 S13 ?_
      refine vT 37 S13 ?_
      refine vT 38 S13 ?_
      refine vT 39 S13 ?_
      refine vT 40 S13 ?_ (hy := by intro wq hb; have q := (hb.hb X0 (by simp)).o; go_simp; try (with_reducible rfl))
      refine vT 41 S13 ?_ (hy := by intro wq hb; have q := (hb.hb X2 (by simp)).o; go_simp; try (with_reducible rfl))
      refine vT 42 S13 ?_ (hy := by intro wq hb; have q := (hb.hb X2 (by simp)).o; go_simp; try (with_reducible rfl))
      refine vY1 (vC 43 S13 (h11.out _ (ft.later (bC (bC (bC (bC (bC (bC (bC (bC (bC (bC (bC (bC (bC (bA (bA bR _) _) b1) b2) b3) b4) b5) (bC (bA (bA bR _) _) b6)) b7) b8) b9) b10) b11) b12) b13))) (fun _ _ => Off.later) fun w14 b14 S14 => ?_)
      refine vT 44 S14 ?_
      refine vT 45 S14 ?_
      refine vT 46 S14 ?_
      refine vT 47 S14 ?_
      refine vT 48 S14 ?_
      refine vT 49 S14 ?_ (hy := by intro wq hb; have q := (hb.hb X0 (by simp)).o; go_simp; try (with_reducible rfl))
      as_aux_lemma =>
        refine vT 50 S14 ?_ (hy := by intro wq hb; have q := (hb.hb X3 (by simp)).o; go_simp; try (with_reducible rfl))
        refine vT 51 S14 ?_ (hy := by intro wq hb; have q := (hb.hb X3 (by simp)).o; go_simp; try (with_reducible rfl))
        refine vY1 (vC 52 S14 (h12.out _ (ft.later (bC (bC (bC (bC (bC (bC (bC (bC (bC (bC (bC (bC (bC (bC (bA (bA bR _) _) b1) b2) b3) b4) b5) (bC (bA (bA bR _) _) b6)) b7) b8) b9) b10) b11) b12) b13) b14))) (fun _ _ => Off.later) fun w15 b15 S15 => ?_)
        refine vT 53 S15 ?_
        refine vT 54 S15 ?_
        refine vT 55 S15 ?_
        refine vT 56 S15 ?_
        refine vT 57 S15 ?_
        refine vT 58 S15 ?_ (hy := by intro wq hb; have q := (hb.hb X0 (by simp)).o; go_simp; try (with_reducible rfl))
        refine vT 59 S15 ?_ (hy := by intro wq hb; have q := (hb.hb X3 (by simp)).o; go_simp; try (with_reducible rfl))
        refine vT 60 S15 ?_ (hy := by intro wq hb; have q := (hb.hb X2 (by simp)).o; go_simp; try (with_reducible rfl))
        refine vT 62 S15 ?_
        refine vY1 (vC 61 S15 (h13.out _ (ft.later (bC (bC (bC (bC (bC (bC (bC (bC (bC (bC (bC (bC (bC (bC (bC (bA (bA bR _) _) b1) b2) b3) b4) b5) (bC (bA (bA bR _) _) b6)) b7) b8) b9) b10) b11) b12) b13) b14) b15))) (fun _ _ => Off.later) fun w16 b16 S16 => ?_)
        refine vY1 (vC 63 S16 (h14.out _ (ft.later (bC (bC (bC (bC (bC (bC (bC (bC (bC (bC (bC (bC (bC (bC (bC (bC (bA (bA bR _) _) b1) b2) b3) b4) b5) (bC (bA (bA bR _) _) b6)) b7) b8) b9) b10) b11) b12) b13) b14) b15) b16))) (fun _ _ => Off.later) fun w17 b17 S17 => ?_)
        refine vT 64 S17 ?_
        refine vT 65 S17 ?_
        refine vT 66 S17 ?_
        refine vT 67 S17 ?_
        refine vT 68 S17 ?_
        refine vT 69 S17 ?_ (hy := by intro wq hb; have q := (hb.hb X0 (by simp)).o; go_simp; try (with_reducible rfl))
        as_aux_lemma =>
          refine vT 70 S17 ?_ (hy := by intro wq hb; have q := (hb.hb X2 (by simp)).o; go_simp; try (with_reducible rfl))
          refine vT 71 S17 ?_ (hy := by intro wq hb; have q := (hb.hb X3 (by simp)).o; go_simp; try (with_reducible rfl))
          refine vT 73 S17 ?_
          refine vY1 (vC 72 S17 (h15.out _ (ft.later (bC (bC (bC (bC (bC (bC (bC (bC (bC (bC (bC (bC (bC (bC (bC (bC (bC (bA (bA bR _) _) b1) b2) b3) b4) b5) (bC (bA (bA bR _) _) b6)) b7) b8) b9) b10) b11) b12) b13) b14) b15) b16) b17))) (fun _ _ => Off.later) fun w18 b18 S18 => ?_)
          refine vY1 (vC 74 S18 (h16.out _ (ft.later (bC (bC (bC (bC (bC (bC (bC (bC (bC (bC (bC (bC (bC (bC (bC (bC (bC (bC (bA (bA bR _) _) b1) b2) b3) b4) b5) (bC (bA (bA bR _) _) b6)) b7) b8) b9) b10) b11) b12) b13) b14) b15) b16) b17) b18))) (fun _ _ => Off.later) fun w19 b19 S19 => ?_)
          refine vT 75 S19 ?_
          refine vT 76 S19 ?_
          refine vT 77 S19 ?_
          refine vT 78 S19 ?_
          refine vY1 (vC 79 S19 (h17.out _ (ft.later (bC (bC (bC (bC (bC (bC (bC (bC (bC (bC (bC (bC (bC (bC (bC (bC (bC (bC (bC (bA (bA bR _) _) b1) b2) b3) b4) b5) (bC (bA (bA bR _) _) b6)) b7) b8) b9) b10) b11) b12) b13) b14) b15) b16) b17) b18) b19))) (fun _ _ => Off.later) fun w20 b20 S20 => ?_)
          refine vT 80 S20 ?_
          refine vT 81 S20 ?_
          refine vD ?_
          go_wp2_with fail
          go_ret
          exact ⟨rfl, (bC (bC (bC (bC (bC (bC (bC (bC (bC (bC (bC (bC (bC (bC (bC (bC (bC (bC (bC (bC (bA (bA bR _) _) b1) b2) b3) b4) b5) (bC (bA (bA bR _) _) b6)) b7) b8) b9) b10) b11) b12) b13) b14) b15) b16) b17) b18) b19) b20)⟩
end Go.Proofs.YtnlmceafleeaiaaGreatDoor
