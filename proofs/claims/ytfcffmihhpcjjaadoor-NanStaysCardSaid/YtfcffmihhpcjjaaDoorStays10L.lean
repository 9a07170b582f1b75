/-
  NanStays over digits.
-/
import Derived.Test.YtfcffmihhpcjjaaDoorStays10
import Derived.Test.YtfcffmihhpcjjaaDoorGoes10L
import Derived.Test.YtfcffmihhpcjjaaDoorQuotS
set_option linter.unusedVariables false
set_option linter.unusedSimpArgs false
set_option maxRecDepth 100000
namespace Go.Proofs.YtfcffmihhpcjjaaDoor
open Go.RowKit
attribute [local go_sem ↓] Go.wp_at_zero Go.wp_at_succ

theorem stays10_law_n (C : FormOK) (D : ClassOK) (N : NanOK) (f b : Int) (f0 : 0 ≤ f) (f1 : f ≤ 255) (w : World) (ft : FTab w) : Calls Tryd.prog 6 #[.int .u8 f, .agg #[.int .u64 (hiOf (b)), .int .u64 (loOf (b))]] w fun e w' => e = .returned (.bool true) ∧ Below w.heap.size w w' := by
  obtain ⟨b0, bf⟩ := mod_f b
  obtain ⟨q0, qf⟩ := quiet_full f0 b0 bf
  have ql := quiet_low f0 b0 bf
  obtain ⟨qn, qs⟩ := quiet_nan f0 b0
  obtain ⟨e1, e2, e3⟩ := stay_fields f0 b0
  have h1 := N.quiet f (quietF f (b % full)) f0 f1
  rw [ql, quiet_quiet f0 b0] at h1
  have h2 := D.nan f (quietF f (b % full)) f0 f1
  rw [ql, qn] at h2
  have h4 := D.sig f (quietF f (b % full)) f0 f1
  rw [ql, qs] at h4
  have h6 := C.split f (quietF f (b % full)) f0 f1
  rw [ql, e1, e2] at h6
  obtain ⟨z0, z1⟩ := frac_low (b := b % full) f0
  obtain ⟨v0, v1⟩ := frac_low (b := quietF f (b % full)) f0
  have h7 := subB (fracF f (quietF f (b % full))) (fracF f (b % full))
  rw [Int.emod_eq_of_lt z0 z1, Int.emod_eq_of_lt v0 v1] at h7
  have h8 := D.sig f b f0 f1
  by_cases h : sigF f (b % full) = true
  · obtain ⟨h4', _⟩ := sig_parts h
    obtain ⟨p0, p1, p2, p3, p4, p5, p6, p7, p8⟩ := f_nums f0 h4'
    rw [h] at h8
    rw [h, if_pos rfl] at e3
    have hl := leftB 1 ((fP f - 2 : Nat) : Int) (by omega) (by omega)
    rw [Int.toNat_natCast, Int.one_mul, show hiOf 1 = 0 from rfl, show loOf 1 = 1 from rfl] at hl
    have hp := two_pow_pos (fP f - 2)
    have sd : fracF f (quietF f (b % full)) - fracF f (b % full) = 2 ^ (fP f - 2) := by omega
    rw [sd, show decide (fracF f (quietF f (b % full)) < fracF f (b % full)) = false by simp; omega] at h7
    exact stays10_sig f _ _ _ _ _ _ _ _ _ _ _ _ _ _ _ (Lib.hid (N.quiet f b f0 f1)) (Lib.hid h1) (Lib.hid h2) (Lib.hid (D.nan f b f0 f1)) (Lib.hid h4) (Lib.hid (C.split f b f0 f1)) (Lib.hid h6) (Lib.hid h7) (Lib.hid h8) (Lib.hid (C.prec f f0 f1)) (Lib.hid hl) (Lib.hid (goes10_any N))
      (by rw [IntWalk.i64_in _ (by omega)]; omega) w ft
  · have h' : sigF f (b % full) = false := by simpa using h
    rw [h'] at h8
    rw [h', if_neg (by decide), Int.add_zero] at e3
    rw [e3, Int.sub_self, show decide (fracF f (b % full) < fracF f (b % full)) = false by simp, hl_zero.1, hl_zero.2] at h7
    rw [e3] at h6
    have hc := C.cut f b f0 f1
    rw [← quiet_not h'] at hc
    exact stays10_not f _ _ _ _ _ _ _ _ _ _ _ (Lib.hid (N.quiet f b f0 f1)) (Lib.hid h1) (Lib.hid h2) (Lib.hid (D.nan f b f0 f1)) (Lib.hid h4) (Lib.hid (C.split f b f0 f1)) (Lib.hid h6) (Lib.hid h7) (Lib.hid h8) (Lib.hid hc) (Lib.hid (goes10_any N)) w ft
theorem stays10_law (C : FormOK) (D : ClassOK) (N : NanOK) (f bh bl : Int) (uf : 0 ≤ f ∧ f ≤ 255) (ubh : U64 bh) (ubl : U64 bl) (w : World) (ft : FTab w) : Calls Tryd.prog 6 #[.int .u8 f, .agg #[.int .u64 bh, .int .u64 bl]] w fun e w' => e = .returned (.bool true) ∧ Below w.heap.size w w' := by
  have h := stays10_law_n C D N f (val bh bl) uf.1 uf.2 w ft
  rw [(hl_val ubh ubl).1, (hl_val ubh ubl).2] at h
  exact h


end Go.Proofs.YtfcffmihhpcjjaaDoor
