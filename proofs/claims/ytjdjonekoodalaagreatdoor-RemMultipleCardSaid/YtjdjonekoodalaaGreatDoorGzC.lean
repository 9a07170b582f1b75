import Derived.Test.YtjdjonekoodalaaGreatDoorGzB
import Derived.Test.YtjdjonekoodalaaGreatDoorGqB
set_option maxHeartbeats 4000000
set_option linter.unusedVariables false
set_option linter.unusedSimpArgs false
set_option maxRecDepth 100000
namespace Go.Proofs.YtjdjonekoodalaaGreatDoor
open Go.RowKit
attribute [local go_sem ↓] Go.wp_at_zero Go.wp_at_succ
theorem eqr23 (h l c : Int) (w : World) : (binOp .eql 30 (.agg #[.int .u64 h, .int .u64 l, .int .u8 c]) (.agg #[.int .u64 h, .int .u64 l, .int .u8 c])).run Tryz.prog w = .ok (.bool true) w := by
  go_simp
theorem eqb23 (h l : Int) (w : World) : (binOp .eql 25 (.agg #[.int .u64 h, .int .u64 l]) (.agg #[.int .u64 h, .int .u64 l])).run Tryz.prog w = .ok (.bool true) w := by
  go_simp
theorem neb23 (h l : Int) (w : World) : (binOp .neq 25 (.agg #[.int .u64 h, .int .u64 l]) (.agg #[.int .u64 h, .int .u64 l])).run Tryz.prog w = .ok (.bool false) w := by
  go_simp
theorem half23 (v : Int)
     (w : World) :
    Ca 29 #[.int .u64 v] w (U2 0 v) := by
  simp only [Ca, U2] at *
  go_enter Tryz.func29, Tryz.ntmps29
  go_wp2_with fail
  refine bodyPost_ret (v := .agg #[.int .u64 0, .int .u64 v]) ?_ rfl ⟨rfl, (bA bR _)⟩
  simp [results, Tryz.results29, go_sem]
theorem goes23_core
    (h2 : Hid (∀ w, FTab w → Ca 12 #[.int .u8 0, U2 0 17664, U2 0 16896] w (.agg #[.int .u64 0, .int .u64 48128, .int .u8 0])))
    (h6 : Hid (∀ w, FTab w → Ca 12 #[.int .u8 0, U2 0 17408, U2 0 16896] w (.agg #[.int .u64 0, .int .u64 15360, .int .u8 0])))
    (h10 : Hid (∀ w, FTab w → Ca 12 #[.int .u8 0, U2 0 15872, U2 0 15360] w (.agg #[.int .u64 0, .int .u64 47104, .int .u8 0])))
    (h14 : Hid (∀ w, FTab w → Ca 12 #[.int .u8 0, U2 0 49664, U2 0 16896] w (.agg #[.int .u64 0, .int .u64 32768, .int .u8 0])))
    (h18 : Hid (∀ w, FTab w → Ca 12 #[.int .u8 0, U2 0 15360, U2 0 0] w (.agg #[.int .u64 0, .int .u64 32256, .int .u8 1]))) (w : World) (ft : FTab w) :
    Ca 11 #[] w (.bool true) := by
  simp only [Ca, U2] at *
  go_enter Tryz.func11, Tryz.ntmps11
  go_wp2_with fail
  refine vM (half23 _ _) fun w1 b1 => ?_
  go_wp2_with fail
  refine vM (half23 _ _) fun w2 b2 => ?_
  go_wp2_with fail
  refine vM (h2.out _ (ft.later (bC b1 b2))) fun w3 b3 => ?_
  go_wp2_with fail
  refine vM (half23 _ _) fun w4 b4 => ?_
  go_wp2_with fail
  refine vM (half23 _ _) fun w5 b5 => ?_
  go_wp2_with fail
  refine vM (half23 _ _) fun w6 b6 => ?_
  go_wp2_with fail
  refine vM (h6.out _ (ft.later (bC (bC (bC (bC (bC b1 b2) b3) b4) b5) b6))) fun w7 b7 => ?_
  go_wp2_with fail
  refine vM (half23 _ _) fun w8 b8 => ?_
  go_wp2_with fail
  refine vM (half23 _ _) fun w9 b9 => ?_
  go_wp2_with fail
  refine vM (half23 _ _) fun w10 b10 => ?_
  go_wp2_with fail
  refine vM (h10.out _ (ft.later (bC (bC (bC (bC (bC (bC (bC (bC (bC b1 b2) b3) b4) b5) b6) b7) b8) b9) b10))) fun w11 b11 => ?_
  go_wp2_with fail
  refine vM (half23 _ _) fun w12 b12 => ?_
  go_wp2_with fail
  refine vM (half23 _ _) fun w13 b13 => ?_
  go_wp2_with fail
  refine vM (half23 _ _) fun w14 b14 => ?_
  go_wp2_with fail
  refine vM (h14.out _ (ft.later (bC (bC (bC (bC (bC (bC (bC (bC (bC (bC (bC (bC (bC b1 b2) b3) b4) b5) b6) b7) b8) b9) b10) b11) b12) b13) b14))) fun w15 b15 => ?_
  go_wp2_with fail
  refine vM (half23 _ _) fun w16 b16 => ?_
  go_wp2_with fail
  refine vM (half23 _ _) fun w17 b17 => ?_
  go_wp2_with fail
  refine vM (half23 _ _) fun w18 b18 => ?_
  go_wp2_with fail
  refine vM (h18.out _ (ft.later (bC (bC (bC (bC (bC (bC (bC (bC (bC (bC (bC (bC (bC (bC (bC (bC (bC b1 b2) b3) b4) b5) b6) b7) b8) b9) b10) b11) b12) b13) b14) b15) b16) b17) b18))) fun w19 b19 => ?_
  go_wp2_with fail
  as_aux_lemma =>
    refine vM (half23 _ _) fun w20 b20 => ?_
    go_wp2_with fail
    go_ret
    exact ⟨rfl, (bC (bC (bC (bC (bC (bC (bC (bC (bC (bC (bC (bC (bC (bC (bC (bC (bC (bC (bC b1 b2) b3) b4) b5) b6) b7) b8) b9) b10) b11) b12) b13) b14) b15) b16) b17) b18) b19) b20)⟩
theorem size23 (f ex bh bl qh ql rh rl : Int) (ng : Bool)
    (h0 : Hid (∀ w, FTab w → Ca 45 #[.int .u8 f, U2 bh bl] w (.tuple #[.bool ng, .int .i64 ex, U2 qh ql])))
    (h1 : Hid (∀ w, FTab w → Ca 25 #[.int .u8 f, .bool false, .int .i64 ex, U2 qh ql] w (U2 rh rl))) (w : World) (ft : FTab w) :
    Ca 17 #[.int .u8 f, U2 bh bl] w (U2 rh rl) := by
  simp only [Ca, U2] at *
  go_enter Tryz.func17, Tryz.ntmps17
  go_wp2_with fail
  refine vM (h0.out _ (ft.later (bA (bA bR _) _))) fun w1 b1 => ?_
  have gX1 : w.heap.size ≤ w.heap.size + 1 := by omega
  have X1 := (HB.newAt (b := w.heap.size + 1) (by simp) _ _).later b1
  go_wp2_with fail
  refine vM (h1.out _ (ft.later (bA (bC (bA (bA bR _) _) b1) _))) fun w2 b2 => ?_
  replace X1 := X1.later (bC (bA bR _) b2)
  have oX1 := X1.o
  go_wp2_with fail
  refine bodyPost_ret (v := .agg #[.int .u64 rh, .int .u64 rl]) ?_ rfl ⟨rfl, (((bC (bC (bA (bA bR _) _) b1) (bC (bA bR _) b2)).setCell (p := ⟨w.heap.size + 1, 0, none⟩) gX1 _).setCell (p := ⟨w.heap.size + 1, 1, none⟩) gX1 _)⟩
  simp [results, Tryz.results17, go_sem, oX1]
end Go.Proofs.YtjdjonekoodalaaGreatDoor
namespace Go.Proofs.YtjdjonekoodalaaGreatDoor
open Go.RowKit
attribute [local go_sem ↓] Go.wp_at_zero Go.wp_at_succ
theorem goes23_any (A : RemOK) (w : World) (ft : FTab w) : Calls Tryz.prog 11 #[] w fun e w' => e = .returned (.bool true) ∧ Below w.heap.size w w' := by
  refine goes23_core (lH fun w ft => ?h2) (lH fun w ft => ?h6) (lH fun w ft => ?h10) (lH fun w ft => ?h14) (lH fun w ft => ?h18) w ft
  case h2 =>
    have h := A.rem 0 17664 16896 (by decide) (by decide) (by decide) (by decide +kernel) (by decide) (by decide +kernel) w ft
    simp only [show rmB 0 17664 16896 = 48128 from by decide +kernel, show rmFl 0 17664 16896 = 0 from by decide +kernel, show hiOf 17664 = 0 from by decide +kernel, show hiOf 16896 = 0 from by decide +kernel, show hiOf 48128 = 0 from by decide +kernel, show loOf 17664 = 17664 from by decide +kernel, show loOf 16896 = 16896 from by decide +kernel, show loOf 48128 = 48128 from by decide +kernel] at h
    exact h
  case h6 =>
    have h := A.rem 0 17408 16896 (by decide) (by decide) (by decide) (by decide +kernel) (by decide) (by decide +kernel) w ft
    simp only [show rmB 0 17408 16896 = 15360 from by decide +kernel, show rmFl 0 17408 16896 = 0 from by decide +kernel, show hiOf 17408 = 0 from by decide +kernel, show hiOf 16896 = 0 from by decide +kernel, show hiOf 15360 = 0 from by decide +kernel, show loOf 17408 = 17408 from by decide +kernel, show loOf 16896 = 16896 from by decide +kernel, show loOf 15360 = 15360 from by decide +kernel] at h
    exact h
  case h10 =>
    have h := A.rem 0 15872 15360 (by decide) (by decide) (by decide) (by decide +kernel) (by decide) (by decide +kernel) w ft
    simp only [show rmB 0 15872 15360 = 47104 from by decide +kernel, show rmFl 0 15872 15360 = 0 from by decide +kernel, show hiOf 15872 = 0 from by decide +kernel, show hiOf 15360 = 0 from by decide +kernel, show hiOf 47104 = 0 from by decide +kernel, show loOf 15872 = 15872 from by decide +kernel, show loOf 15360 = 15360 from by decide +kernel, show loOf 47104 = 47104 from by decide +kernel] at h
    exact h
  case h14 =>
    have h := A.rem 0 49664 16896 (by decide) (by decide) (by decide) (by decide +kernel) (by decide) (by decide +kernel) w ft
    simp only [show rmB 0 49664 16896 = 32768 from by decide +kernel, show rmFl 0 49664 16896 = 0 from by decide +kernel, show hiOf 49664 = 0 from by decide +kernel, show hiOf 16896 = 0 from by decide +kernel, show hiOf 32768 = 0 from by decide +kernel, show loOf 49664 = 49664 from by decide +kernel, show loOf 16896 = 16896 from by decide +kernel, show loOf 32768 = 32768 from by decide +kernel] at h
    exact h
  case h18 =>
    have h := A.rem 0 15360 0 (by decide) (by decide) (by decide) (by decide +kernel) (by decide) (by decide +kernel) w ft
    simp only [show rmB 0 15360 0 = 32256 from by decide +kernel, show rmFl 0 15360 0 = 1 from by decide +kernel, show hiOf 15360 = 0 from by decide +kernel, show hiOf 0 = 0 from by decide +kernel, show hiOf 32256 = 0 from by decide +kernel, show loOf 15360 = 15360 from by decide +kernel, show loOf 0 = 0 from by decide +kernel, show loOf 32256 = 32256 from by decide +kernel] at h
    exact h
end Go.Proofs.YtjdjonekoodalaaGreatDoor
namespace Go.Proofs.YtjdjonekoodalaaGreatDoor
open Go.RowKit
attribute [local go_sem ↓] Go.wp_at_zero Go.wp_at_succ
theorem size23N (C : FormOK) (f b : Int) (f0 : 0 ≤ f) (f1 : f ≤ 255) (b0 : 0 ≤ b) (b1 : b < full) (w : World) (ft : FTab w) : Calls Tryz.prog 17 #[.int .u8 f, .agg #[.int .u64 (hiOf (b)), .int .u64 (loOf (b))]] w fun e w' => e = .returned (.agg #[.int .u64 (hiOf (szF f b)), .int .u64 (loOf (szF f b))]) ∧ Below w.heap.size w w' := by
  have S := C.split f b f0 f1
  rw [Int.emod_eq_of_lt b0 b1] at S
  have er := exp_i64 (f := f) (b := b) f0 b0
  have fr := frac_low (f := f) (b := b) f0
  have Mk := C.make f false (expF f b) (fracF f b) f0 f1 er.1 er.2
  rw [Int.emod_eq_of_lt fr.1 fr.2] at Mk
  exact size23 f _ _ _ _ _ _ _ _ (lH S) (lH Mk) w ft
end Go.Proofs.YtjdjonekoodalaaGreatDoor
