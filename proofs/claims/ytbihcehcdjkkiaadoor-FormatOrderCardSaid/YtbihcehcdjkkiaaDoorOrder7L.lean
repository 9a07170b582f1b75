/-
  FormatOrder over digits.
-/
import Derived.Test.YtbihcehcdjkkiaaDoorOrder7
import Derived.Test.YtbihcehcdjkkiaaDoorGoes7L
set_option linter.unusedVariables false
set_option linter.unusedSimpArgs false
set_option maxRecDepth 100000
namespace Go.Proofs.YtbihcehcdjkkiaaDoor
open Go.RowKit
attribute [local go_sem ↓] Go.wp_at_zero Go.wp_at_succ

theorem order7_law (C : FormOK) (f : Int) (uf : 0 ≤ f ∧ f ≤ 255) (w : World) (ft : FTab w) : Calls Tryd.prog 7 #[.int .u8 f] w fun e w' => e = .returned (.bool true) ∧ Below w.heap.size w w' := by
  obtain ⟨f0, f1⟩ := uf
  have G := Lib.hid (goes7_any C)
  have hK := C.known f f0 f1
  have hI := C.inf f true f0 f1
  have hM := C.max f true f0 f1
  by_cases h4 : f < 4
  · rw [show decide (f < 4) = true by simp [h4]] at hK
    obtain ⟨p0, p1, p2, p3, p4, p5, p6, p7, p8⟩ := f_nums f0 h4
    have hp := two_pow_pos (fP f - 1)
    have nx : maxF f false + 1 = infF f false := by
      rw [max_val f0 h4, inf_val f0 h4, Int.add_mul]; simp; omega
    have mx : maxF f false + 2 ^ (fW f - 1) = maxF f true := by rw [max_val f0 h4, max_val f0 h4]; simp
    have ix : infF f false + 2 ^ (fW f - 1) = infF f true := by rw [inf_val f0 h4, inf_val f0 h4]; simp
    have hN := C.nought f false f0 f1
    rw [nought_val f0 h4, if_neg (by decide), hl_zero.1, hl_zero.2] at hN
    have hN2 := C.nought f true f0 f1
    rw [nought_val f0 h4, if_pos rfl] at hN2
    have h1 := addB (maxF f false) 1
    rw [nx, show hiOf 1 = 0 from rfl, show loOf 1 = 1 from rfl] at h1
    have hL := leftB 1 ((fW f - 1 : Nat) : Int) (by omega) (by omega)
    rw [Int.toNat_natCast, Int.one_mul, show hiOf 1 = 0 from rfl, show loOf 1 = 1 from rfl] at hL
    have h2 := addB (maxF f false) (2 ^ (fW f - 1))
    rw [mx] at h2
    have h3 := addB (infF f false) (2 ^ (fW f - 1))
    rw [ix] at h3
    have hC := cmpB 0 (maxF f false)
    have m1 := make_full f0 false (2 * fE f) (2 ^ (fP f - 1) - 1)
    have m2 : 0 < maxF f false := by
      rw [max_val f0 h4, if_neg (by decide)]
      have : 0 ≤ (2 * fE f : Int) * 2 ^ (fP f - 1) := Int.mul_nonneg (by omega) (by omega)
      have := two_pow_le (show 1 ≤ fP f - 1 by omega)
      have e2 : (2 : Int) ^ 1 = 2 := rfl
      omega
    rw [hl_zero.1, hl_zero.2, show (0 : Int) % full = 0 from by decide +kernel, Int.emod_eq_of_lt (a := maxF f false) (by omega) m1.2, show cmpI 0 (maxF f false) = -1 by unfold cmpI; rw [if_pos m2]] at hC
    exact order7_yes f _ _ _ _ _ _ _ _ _ _ _ _ (-1) _ _ _ (Lib.hid hK) (Lib.hid hN) (Lib.hid (C.max f false f0 f1)) (Lib.hid (C.inf f false f0 f1)) (Lib.hid h1) (Lib.hid (C.width f f0 f1)) (Lib.hid hL) (Lib.hid h2) (Lib.hid h3) (Lib.hid hC) (Lib.hid hM) (Lib.hid hI) (Lib.hid hN2) G
      (by rw [IntWalk.i64_in _ (by omega)]; omega) (by decide) w ft
  · rw [show decide (f < 4) = false by simp [h4]] at hK
    rw [show infF f true = 0 from makeF_zero h4 _ _ _, hl_zero.1, hl_zero.2] at hI
    rw [show maxF f true = 0 from makeF_zero h4 _ _ _, hl_zero.1, hl_zero.2] at hM
    exact order7_no f (Lib.hid hK) (Lib.hid hI) (Lib.hid hM) G w ft


end Go.Proofs.YtbihcehcdjkkiaaDoor
