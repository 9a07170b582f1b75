import Derived.Test.YtbighggnfkdncaaGreatDoorGxB
set_option maxHeartbeats 4000000
set_option linter.unusedVariables false
set_option linter.unusedSimpArgs false
set_option maxRecDepth 100000
namespace Go.Proofs.YtbighggnfkdncaaGreatDoor
open Go.RowKit
attribute [local go_sem ↓] Go.wp_at_zero Go.wp_at_succ
theorem half22 (v : Int)
     (w : World) :
    Ca 31 #[.int .u64 v] w (U2 0 v) := by
  simp only [Ca, U2] at *
  go_enter Tryz.func31, Tryz.ntmps31
  go_wp2_with fail
  refine bodyPost_ret (v := .agg #[.int .u64 0, .int .u64 v]) ?_ rfl ⟨rfl, (bA bR _)⟩
  simp [results, Tryz.results31, go_sem]
theorem goes22_core
    (h1 : Hid (∀ w, FTab w → Ca 10 #[.int .u8 0, .agg #[.int .u8 0, .bool false], U2 0 17408] w (.agg #[.int .u64 0, .int .u64 16384, .int .u8 0])))
    (h4 : Hid (∀ w, FTab w → Ca 10 #[.int .u8 0, .agg #[.int .u8 0, .bool false], U2 0 16384] w (.agg #[.int .u64 0, .int .u64 15784, .int .u8 16])))
    (h7 : Hid (∀ w, FTab w → Ca 10 #[.int .u8 0, .agg #[.int .u8 0, .bool false], U2 0 48128] w (.agg #[.int .u64 0, .int .u64 32256, .int .u8 1])))
    (h10 : Hid (∀ w, FTab w → Ca 10 #[.int .u8 0, .agg #[.int .u8 0, .bool false], U2 0 1] w (.agg #[.int .u64 0, .int .u64 3072, .int .u8 0]))) (w : World) (ft : FTab w) :
    Ca 12 #[] w (.bool true) := by
  simp only [Ca, U2] at *
  go_enter Tryz.func12, Tryz.ntmps12
  go_wp2_with fail
  refine vF1 fun w1 b1 X0 => ?_
  refine vR [] fun w2 b2 S2 => ?_
  refine vT 0 S2 ?_ (hy := by intro wq hb; have q := (hb.hb X0 (by simp)).o; go_simp; try (with_reducible rfl))
  refine vY1 (vC 1 S2 (half22 _ _) (fun _ _ => Off.later) fun w3 b3 S3 => ?_)
  refine vY1 (vC 2 S3 (h1.out _ (ft.later (bC (bC b1 b2) b3))) (fun _ _ => Off.later) fun w4 b4 S4 => ?_)
  refine vY1 (vC 3 S4 (half22 _ _) (fun _ _ => Off.later) fun w5 b5 S5 => ?_)
  refine vT 4 S5 ?_
  refine vT 5 S5 ?_
  refine vT 6 S5 ?_
  refine vT 7 S5 ?_ (hy := by intro wq hb; have q := (hb.hb X0 (by simp)).o; go_simp; try (with_reducible rfl))
  refine vY1 (vC 8 S5 (half22 _ _) (fun _ _ => Off.later) fun w6 b6 S6 => ?_)
  refine vY1 (vC 9 S6 (h4.out _ (ft.later (bC (bC (bC (bC (bC b1 b2) b3) b4) b5) b6))) (fun _ _ => Off.later) fun w7 b7 S7 => ?_)
  refine vY1 (vC 10 S7 (half22 _ _) (fun _ _ => Off.later) fun w8 b8 S8 => ?_)
  refine vT 11 S8 ?_
  refine vT 12 S8 ?_
  refine vT 13 S8 ?_
  refine vT 14 S8 ?_
  refine vT 15 S8 ?_ (hy := by intro wq hb; have q := (hb.hb X0 (by simp)).o; go_simp; try (with_reducible rfl))
  refine vY1 (vC 16 S8 (half22 _ _) (fun _ _ => Off.later) fun w9 b9 S9 => ?_)
  refine vY1 (vC 17 S9 (h7.out _ (ft.later (bC (bC (bC (bC (bC (bC (bC (bC b1 b2) b3) b4) b5) b6) b7) b8) b9))) (fun _ _ => Off.later) fun w10 b10 S10 => ?_)
  refine vY1 (vC 18 S10 (half22 _ _) (fun _ _ => Off.later) fun w11 b11 S11 => ?_)
  refine vT 19 S11 ?_
  refine vT 20 S11 ?_
  refine vT 21 S11 ?_
  refine vT 22 S11 ?_
  refine vT 23 S11 ?_ (hy := by intro wq hb; have q := (hb.hb X0 (by simp)).o; go_simp; try (with_reducible rfl))
  refine vY1 (vC 24 S11 (half22 _ _) (fun _ _ => Off.later) fun w12 b12 S12 => ?_)
  refine vY1 (vC 25 S12 (h10.out _ (ft.later (bC (bC (bC (bC (bC (bC (bC (bC (bC (bC (bC b1 b2) b3) b4) b5) b6) b7) b8) b9) b10) b11) b12))) (fun _ _ => Off.later) fun w13 b13 S13 => ?_)
  refine vY1 (vC 26 S13 (half22 _ _) (fun _ _ => Off.later) fun w14 b14 S14 => ?_)
  refine vT 27 S14 ?_
  refine vT 28 S14 ?_
  refine vT 29 S14 ?_
  refine vT 30 S14 ?_
  refine vD ?_
  go_wp2_with fail
  go_ret
  exact ⟨rfl, (bC (bC (bC (bC (bC (bC (bC (bC (bC (bC (bC (bC (bC b1 b2) b3) b4) b5) b6) b7) b8) b9) b10) b11) b12) b13) b14)⟩
theorem size22 (f ex bh bl qh ql rh rl : Int) (ng : Bool)
    (h0 : Hid (∀ w, FTab w → Ca 24 #[.int .u8 f, U2 bh bl] w (.tuple #[.bool ng, .int .i64 ex, U2 qh ql])))
    (h1 : Hid (∀ w, FTab w → Ca 26 #[.int .u8 f, .bool false, .int .i64 ex, U2 qh ql] w (U2 rh rl))) (w : World) (ft : FTab w) :
    Ca 13 #[.int .u8 f, U2 bh bl] w (U2 rh rl) := by
  simp only [Ca, U2] at *
  go_enter Tryz.func13, Tryz.ntmps13
  go_wp2_with fail
  refine vM (h0.out _ (ft.later (bA (bA bR _) _))) fun w1 b1 => ?_
  have gX1 : w.heap.size ≤ w.heap.size + 1 := by omega
  have X1 := (HB.newAt (b := w.heap.size + 1) (by simp) _ _).later b1
  go_wp2_with fail
  refine vM (h1.out _ (ft.later (bA (bC (bA (bA bR _) _) b1) _))) fun w2 b2 => ?_
  replace X1 := X1.later (bC (bA bR _) b2)
  have oX1 := X1.o
  go_wp2_with fail
  refine bodyPost_ret (v := .agg #[.int .u64 rh, .int .u64 rl]) ?_ rfl ⟨rfl, (((bC (bC (bA (bA bR _) _) b1) (bC (bA bR _) b2)).setCell (p := ⟨w.heap.size + 1, 0, none⟩) gX1 _).setCell (p := ⟨w.heap.size + 1, 1, none⟩) gX1 _)⟩
  simp [results, Tryz.results13, go_sem, oX1]
end Go.Proofs.YtbighggnfkdncaaGreatDoor
namespace Go.Proofs.YtbighggnfkdncaaGreatDoor
open Go.RowKit
attribute [local go_sem ↓] Go.wp_at_zero Go.wp_at_succ
theorem goes22_any (A : SqrtOK) (w : World) (ft : FTab w) : Calls Tryz.prog 12 #[] w fun e w' => e = .returned (.bool true) ∧ Below w.heap.size w w' := by
  refine goes22_core (lH fun w ft => ?h1) (lH fun w ft => ?h4) (lH fun w ft => ?h7) (lH fun w ft => ?h10) w ft
  case h1 =>
    have h := A.sqrt 0 0 false 17408 (by decide) (by decide) (by decide) (by decide) (by decide) (by decide +kernel) w ft
    simp only [show sqB 0 0 17408 = 16384 from by decide +kernel, show sqFl 0 0 false 17408 = 0 from by decide +kernel, show hiOf 17408 = 0 from by decide +kernel, show hiOf 16384 = 0 from by decide +kernel, show loOf 17408 = 17408 from by decide +kernel, show loOf 16384 = 16384 from by decide +kernel] at h
    exact h
  case h4 =>
    have h := A.sqrt 0 0 false 16384 (by decide) (by decide) (by decide) (by decide) (by decide) (by decide +kernel) w ft
    simp only [show sqB 0 0 16384 = 15784 from by decide +kernel, show sqFl 0 0 false 16384 = 16 from by decide +kernel, show hiOf 16384 = 0 from by decide +kernel, show hiOf 15784 = 0 from by decide +kernel, show loOf 16384 = 16384 from by decide +kernel, show loOf 15784 = 15784 from by decide +kernel] at h
    exact h
  case h7 =>
    have h := A.sqrt 0 0 false 48128 (by decide) (by decide) (by decide) (by decide) (by decide) (by decide +kernel) w ft
    simp only [show sqB 0 0 48128 = 32256 from by decide +kernel, show sqFl 0 0 false 48128 = 1 from by decide +kernel, show hiOf 48128 = 0 from by decide +kernel, show hiOf 32256 = 0 from by decide +kernel, show loOf 48128 = 48128 from by decide +kernel, show loOf 32256 = 32256 from by decide +kernel] at h
    exact h
  case h10 =>
    have h := A.sqrt 0 0 false 1 (by decide) (by decide) (by decide) (by decide) (by decide) (by decide +kernel) w ft
    simp only [show sqB 0 0 1 = 3072 from by decide +kernel, show sqFl 0 0 false 1 = 0 from by decide +kernel, show hiOf 1 = 0 from by decide +kernel, show hiOf 3072 = 0 from by decide +kernel, show loOf 1 = 1 from by decide +kernel, show loOf 3072 = 3072 from by decide +kernel] at h
    exact h
end Go.Proofs.YtbighggnfkdncaaGreatDoor
namespace Go.Proofs.YtbighggnfkdncaaGreatDoor
open Go.RowKit
attribute [local go_sem ↓] Go.wp_at_zero Go.wp_at_succ
theorem size22N (C : FormOK) (f b : Int) (f0 : 0 ≤ f) (f1 : f ≤ 255) (b0 : 0 ≤ b) (b1 : b < full) (w : World) (ft : FTab w) : Calls Tryz.prog 13 #[.int .u8 f, .agg #[.int .u64 (hiOf (b)), .int .u64 (loOf (b))]] w fun e w' => e = .returned (.agg #[.int .u64 (hiOf (szF f b)), .int .u64 (loOf (szF f b))]) ∧ Below w.heap.size w w' := by
  have S := C.split f b f0 f1
  rw [Int.emod_eq_of_lt b0 b1] at S
  have er := exp_i64 (f := f) (b := b) f0 b0
  have fr := frac_low (f := f) (b := b) f0
  have Mk := C.make f false (expF f b) (fracF f b) f0 f1 er.1 er.2
  rw [Int.emod_eq_of_lt fr.1 fr.2] at Mk
  exact size22 f _ _ _ _ _ _ _ _ (lH S) (lH Mk) w ft
end Go.Proofs.YtbighggnfkdncaaGreatDoor
namespace Go.Proofs.YtbighggnfkdncaaGreatDoor
open Go.RowKit
attribute [local go_sem ↓] Go.wp_at_zero Go.wp_at_succ
theorem square22 (f g bh bl yh yl rh rl mf : Int)
    (h0 : Hid (∀ w, FTab w → Ca 17 #[.int .u8 f, U2 bh bl] w (U2 yh yl)))
    (h1 : Hid (∀ w, FTab w → Ca 19 #[.int .u8 g, .agg #[.int .u8 0, .bool false], U2 yh yl, U2 yh yl] w (.agg #[.int .u64 rh, .int .u64 rl, .int .u8 mf]))) (wg : IntKind.u8.wrap (f + 1) = g) (w : World) (ft : FTab w) :
    Ca 16 #[.int .u8 f, U2 bh bl] w (U2 rh rl) := by
  simp only [Ca, U2] at *
  go_enter Tryz.func16, Tryz.ntmps16
  go_wp2_with fail
  refine vM (h0.out _ (ft.later (bA (bA bR _) _))) fun w1 b1 => ?_
  have gX1 : w.heap.size ≤ w.heap.size + 1 := by omega
  have X1 := (HB.newAt (b := w.heap.size + 1) (by simp) _ _).later b1
  go_wp2_with fail
  refine vM (h1.out _ (ft.later (bA (bC (bA (bA bR _) _) b1) _))) fun w2 b2 => ?_
  have hfd1 : ∀ w : World, (Instr.field 31 (.agg #[.int .u64 rh, .int .u64 rl, .int .u8 mf]) 0).run Tryz.prog w = .ok (.agg #[.int .u64 rh, .int .u64 rl]) w := fun _ => by kernel_rfl
  replace X1 := X1.later (bC (bA bR _) b2)
  have oX1 := X1.o
  go_wp2_with fail
  refine bodyPost_ret (v := .agg #[.int .u64 rh, .int .u64 rl]) ?_ rfl ⟨rfl, (((bC (bC (bA (bA bR _) _) b1) (bC (bA bR _) b2)).setCell (p := ⟨w.heap.size + 1, 0, none⟩) gX1 _).setCell (p := ⟨w.heap.size + 1, 1, none⟩) gX1 _)⟩
  simp [results, Tryz.results16, go_sem, oX1]
end Go.Proofs.YtbighggnfkdncaaGreatDoor
