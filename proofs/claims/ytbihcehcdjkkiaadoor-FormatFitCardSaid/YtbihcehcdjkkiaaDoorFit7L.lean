/-
  FormatFit over digits.
-/
import Derived.Test.YtbihcehcdjkkiaaDoorFit7
import Derived.Test.YtbihcehcdjkkiaaDoorGoes7L
set_option linter.unusedVariables false
set_option linter.unusedSimpArgs false
set_option maxRecDepth 100000
namespace Go.Proofs.YtbihcehcdjkkiaaDoor
open Go.RowKit
attribute [local go_sem ↓] Go.wp_at_zero Go.wp_at_succ

theorem fit7_law_n (C : FormOK) (f b : Int) (f0 : 0 ≤ f) (f1 : f ≤ 255) (w : World) (ft : FTab w) :
    Calls Tryd.prog 6 #[.int .u8 f, .agg #[.int .u64 (hiOf (b)), .int .u64 (loOf (b))]] w fun e w' => e = .returned (.bool true) ∧ Below w.heap.size w w' := by
  have G := Lib.hid (goes7_any C)
  have hK := C.known f f0 f1
  have hW := C.width f f0 f1
  by_cases h4 : f < 4
  · rw [show decide (f < 4) = true by simp [h4]] at hK
    obtain ⟨p0, p1, p2, p3, p4, p5, p6, p7, p8⟩ := f_nums f0 h4
    obtain ⟨x0, x1, x2, x3⟩ := exp_range (B := b % full) f0 h4 (mod_f b).1
    obtain ⟨r0, r1⟩ := frac_range (b := b % full) f0 h4
    have hL := leftB 1 ((fP f - 1 : Nat) : Int) (by omega) (by omega)
    rw [Int.toNat_natCast, Int.one_mul, show hiOf 1 = 0 from rfl, show loOf 1 = 1 from rfl] at hL
    have pl : (2 : Int) ^ (fP f - 1) < full := by
      have := two_pow_le (show fP f - 1 + 1 ≤ 128 by omega)
      rw [full_pow, Int.pow_succ] at this
      have := two_pow_pos (fP f - 1); omega
    have hC := cmpB (fracF f (b % full)) (2 ^ (fP f - 1))
    rw [Int.emod_eq_of_lt r0 (frac_full f0 h4), Int.emod_eq_of_lt (by omega) pl, show cmpI (fracF f (b % full)) (2 ^ (fP f - 1)) = -1 by unfold cmpI; rw [if_pos r1]] at hC
    have sh : Op.shift .shl .i64 1 .i64 ((fW f - fP f : Nat) : Int) = pure (.int .i64 (2 * fE f + 2)) := by
      rw [shift_shl .i64 .i64 _ _ (by omega) (by show (_ : Int) ≤ 64; omega), Int.toNat_natCast, Int.one_mul, p5, IntWalk.i64_in _ (by omega)]
    exact fit7_yes f _ _ _ _ _ _ _ _ _ _ (-1) (2 * fE f) (2 * fE f + 1) (2 * fE f + 2) _ ((fW f - fP f : Nat) : Int) _ (Lib.hid hK) (Lib.hid (C.split f b f0 f1)) (Lib.hid (C.prec f f0 f1)) (Lib.hid (C.emax f f0 f1)) (Lib.hid hL) (Lib.hid hC) (Lib.hid hW) G
      (by simp [x0]) (IntWalk.i64_in _ (by omega)) (IntWalk.i64_in _ (by omega)) (by unfold wrap64; omega) (by simp; omega) (by rw [IntWalk.i64_in _ (by omega)]; omega) (by decide) (by rw [IntWalk.i64_in _ (by omega)]; omega) (by omega) sh (IntWalk.i64_in _ (by omega)) (by unfold wrap64; omega) w ft
  · rw [show decide (f < 4) = false by simp [h4]] at hK
    rw [fW_no h4] at hW
    exact fit7_no f _ _ (Lib.hid hK) (Lib.hid hW) G w ft
theorem fit7_law (C : FormOK) (f bh bl : Int) (uf : 0 ≤ f ∧ f ≤ 255) (ubh : U64 bh) (ubl : U64 bl) (w : World) (ft : FTab w) : Calls Tryd.prog 6 #[.int .u8 f, .agg #[.int .u64 bh, .int .u64 bl]] w fun e w' => e = .returned (.bool true) ∧ Below w.heap.size w w' := by
  have h := fit7_law_n C f (val bh bl) uf.1 uf.2 w ft
  rw [(hl_val ubh ubl).1, (hl_val ubh ubl).2] at h
  exact h


end Go.Proofs.YtbihcehcdjkkiaaDoor
