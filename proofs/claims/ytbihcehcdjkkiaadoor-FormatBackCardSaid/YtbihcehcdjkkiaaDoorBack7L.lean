/-
  FormatBack over digits.
-/
import Derived.Test.YtbihcehcdjkkiaaDoorBack7
import Derived.Test.YtbihcehcdjkkiaaDoorGoes7L
set_option linter.unusedVariables false
set_option linter.unusedSimpArgs false
set_option maxRecDepth 100000
namespace Go.Proofs.YtbihcehcdjkkiaaDoor
open Go.RowKit
attribute [local go_sem ↓] Go.wp_at_zero Go.wp_at_succ

theorem cut_above {f c m : Int} (f0 : 0 ≤ f) (hc : cutF f c = c) : cutF f ((c + m * 2 ^ fW f) % full) = c := by
  unfold cutF at *
  rw [← full_pow, mod_mod_pow _ (fW_le f), Int.add_mul_emod_self_right, hc]
theorem back7_law_n (C : FormOK) (f b m : Int) (f0 : 0 ≤ f) (f1 : f ≤ 255) (w : World) (ft : FTab w) :
    Calls Tryd.prog 5 #[.int .u8 f, .agg #[.int .u64 (hiOf (b)), .int .u64 (loOf (b))], .agg #[.int .u64 (hiOf (m)), .int .u64 (loOf (m))]] w fun e w' => e = .returned (.bool true) ∧ Below w.heap.size w w' := by
  have G := Lib.hid (goes7_any C)
  have hS := C.split f b f0 f1
  have hK := C.known f f0 f1
  by_cases h4 : f < 4
  · rw [show decide (f < 4) = true by simp [h4]] at hK
    obtain ⟨p0, p1, p2, p3, p4, p5, p6, p7, p8⟩ := f_nums f0 h4
    obtain ⟨c0, c1, c2⟩ := cut_range (f := f) f0 (mod_f b).1
    have cf := cut_full (f := f) (b := b) f0
    have cm : cutF f (b % full) % full = cutF f (b % full) := Int.emod_eq_of_lt c0 cf
    have hL := leftB m (fW f) (by omega) (by omega)
    rw [Int.toNat_natCast] at hL
    have hA := addB (cutF f (b % full)) (m * 2 ^ fW f)
    have above := cut_above (m := m) f0 (cut_cut f (b % full))
    obtain ⟨i1, i2, i3⟩ := fields_of_cut f0 h4 (a := (cutF f (b % full) + m * 2 ^ fW f) % full) (b := b % full) (by rw [above])
    have hS2 := C.split f (cutF f (b % full) + m * 2 ^ fW f) f0 f1
    rw [i1, i2, i3] at hS2
    obtain ⟨x0, x1, x2, x3⟩ := exp_range (B := b % full) f0 h4 (mod_f b).1
    have hM := C.make f (negF f (b % full)) (expF f (b % full)) (fracF f (b % full)) f0 f1 (by omega) (by omega)
    rw [Int.emod_eq_of_lt (frac_range f0 h4).1 (frac_full f0 h4), make_split f0 h4 (mod_f b).1] at hM
    have hC2 := C.cut f (cutF f (b % full) + m * 2 ^ fW f) f0 f1
    rw [above] at hC2
    have hT := C.fits f (cutF f (b % full)) f0 f1
    rw [cm, cut_cut, show decide (f < 4) = true by simp [h4], show (cutF f (b % full) == cutF f (b % full)) = true by simp, Bool.and_true] at hT
    exact back7_yes f _ _ _ _ _ _ _ _ _ _ _ _ _ _ _ _ (Lib.hid hS) (Lib.hid hK) (Lib.hid (C.cut f b f0 f1)) (Lib.hid (C.width f f0 f1)) (Lib.hid hL) (Lib.hid hA) (Lib.hid hS2) (Lib.hid hM) (Lib.hid hC2) (Lib.hid hT) G w ft
  · rw [show decide (f < 4) = false by simp [h4]] at hK
    have n : negF f (b % full) = false := by unfold negF; rw [show decide (f < 4) = false by simp [h4], Bool.and_false]
    have x : expF f (b % full) = 0 := by unfold expF; rw [if_neg h4]
    have r : fracF f (b % full) = 0 := by unfold fracF; rw [if_neg h4]
    rw [n, x, r, hl_zero.1, hl_zero.2] at hS
    exact back7_no f _ _ _ _ (Lib.hid hS) (Lib.hid hK) G w ft
theorem back7_law (C : FormOK) (f bh bl mh ml : Int) (uf : 0 ≤ f ∧ f ≤ 255) (ubh : U64 bh) (ubl : U64 bl) (umh : U64 mh) (uml : U64 ml) (w : World) (ft : FTab w) : Calls Tryd.prog 5 #[.int .u8 f, .agg #[.int .u64 bh, .int .u64 bl], .agg #[.int .u64 mh, .int .u64 ml]] w fun e w' => e = .returned (.bool true) ∧ Below w.heap.size w w' := by
  have h := back7_law_n C f (val bh bl) (val mh ml) uf.1 uf.2 w ft
  rw [(hl_val ubh ubl).1, (hl_val ubh ubl).2, (hl_val umh uml).1, (hl_val umh uml).2] at h
  exact h


end Go.Proofs.YtbihcehcdjkkiaaDoor
