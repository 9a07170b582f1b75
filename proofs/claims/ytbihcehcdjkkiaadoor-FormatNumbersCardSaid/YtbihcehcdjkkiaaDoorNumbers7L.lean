/-
  FormatNumbers over digits.
-/
import Derived.Test.YtbihcehcdjkkiaaDoorNumbers7
import Derived.Test.YtbihcehcdjkkiaaDoorGoes7L
set_option linter.unusedVariables false
set_option linter.unusedSimpArgs false
set_option maxRecDepth 100000
namespace Go.Proofs.YtbihcehcdjkkiaaDoor
open Go.RowKit
attribute [local go_sem ↓] Go.wp_at_zero Go.wp_at_succ

/-- The document's numbers, beside whatever the world has. -/
theorem r7w (f : Int) (f0 : 0 ≤ f) (f1 : f ≤ 255) (w : World) : Calls Tryd.prog 14 #[.int .u8 f] w fun e w' => e = .returned (.int .i64 (fW f)) ∧ Below w.heap.size w w' := (ref7_width f f0 f1 w).mono fun e w' ⟨h, e2⟩ => ⟨h, e2 ▸ Below.refl _ _⟩
theorem r7p (f : Int) (f0 : 0 ≤ f) (f1 : f ≤ 255) (w : World) : Calls Tryd.prog 16 #[.int .u8 f] w fun e w' => e = .returned (.int .i64 (fP f)) ∧ Below w.heap.size w w' := (ref7_prec f f0 f1 w).mono fun e w' ⟨h, e2⟩ => ⟨h, e2 ▸ Below.refl _ _⟩
theorem r7e (f : Int) (f0 : 0 ≤ f) (f1 : f ≤ 255) (w : World) : Calls Tryd.prog 18 #[.int .u8 f] w fun e w' => e = .returned (.int .i64 (fE f)) ∧ Below w.heap.size w w' := (ref7_emax f f0 f1 w).mono fun e w' ⟨h, e2⟩ => ⟨h, e2 ▸ Below.refl _ _⟩
theorem numbers7_law_n (C : FormOK) (f b : Int) (ng : Bool) (f0 : 0 ≤ f) (f1 : f ≤ 255) (w : World) (ft : FTab w) :
    Calls Tryd.prog 3 #[.int .u8 f, .agg #[.int .u64 (hiOf (b)), .int .u64 (loOf (b))], .bool ng] w fun e w' => e = .returned (.bool true) ∧ Below w.heap.size w w' := by
  have G := Lib.hid (goes7_any C)
  have hF := C.fits f b f0 f1
  have hN := Lib.hid fun w => ref7_make f 0 0 ng (.slice none 0 0) f0 f1 (by decide) (by decide) (small_full (by unfold full; decide)) w (nil_num w)
  by_cases h4 : f < 4
  · rw [show decide (f < 4) = true by simp [h4], Bool.true_and] at hF
    have hK := C.known f f0 f1
    rw [show decide (f < 4) = true by simp [h4]] at hK
    refine numbers7_yes f _ _ _ _ _ _ _ _ _ _ _ _ _ _ ng _ (Lib.hid hK) (Lib.hid (C.width f f0 f1)) (Lib.hid (r7w f f0 f1)) (Lib.hid (C.prec f f0 f1)) (Lib.hid (r7p f f0 f1)) (Lib.hid (C.emax f f0 f1)) (Lib.hid (r7e f f0 f1)) (Lib.hid (C.cut f b f0 f1)) (Lib.hid hF)
      (Lib.hid (C.inf f ng f0 f1)) (Lib.hid (ref7_inf f ng f0 f1)) (Lib.hid (C.max f ng f0 f1)) (Lib.hid (ref7_max f ng f0 f1)) (Lib.hid (C.nought f ng f0 f1)) hN G (Lib.hid (ref7_cut f b f0 f1)) rfl rfl (by simp [h4]) ?_ w ft
    intro w
    rw [eql_bits]
    congr 2
    rw [Bool.eq_iff_iff, decide_eq_true_eq, beq_iff_eq]
    obtain ⟨c0, c1, _⟩ := cut_range (f := f) f0 (mod_f b).1
    have i := hl_inj c0 (cut_full f0) (mod_f b).1 (mod_f b).2
    rw [(hl_mod b).1, (hl_mod b).2] at i
    rw [← i]; exact and_comm
  · rw [show decide (f < 4) = false by simp [h4], Bool.false_and] at hF
    have hK := C.known f f0 f1
    rw [show decide (f < 4) = false by simp [h4]] at hK
    exact numbers7_no f _ _ _ _ _ _ _ _ _ _ _ _ _ _ ng (Lib.hid hK) (Lib.hid (C.width f f0 f1)) (Lib.hid (r7w f f0 f1)) (Lib.hid (C.prec f f0 f1)) (Lib.hid (r7p f f0 f1)) (Lib.hid (C.emax f f0 f1)) (Lib.hid (r7e f f0 f1)) (Lib.hid (C.cut f b f0 f1)) (Lib.hid hF)
      (Lib.hid (C.inf f ng f0 f1)) (Lib.hid (ref7_inf f ng f0 f1)) (Lib.hid (C.max f ng f0 f1)) (Lib.hid (ref7_max f ng f0 f1)) (Lib.hid (C.nought f ng f0 f1)) hN G (Lib.hid (ref7_cut f b f0 f1)) rfl rfl (by simp [h4]) w ft
theorem numbers7_law (C : FormOK) (f bh bl : Int) (ng : Bool) (uf : 0 ≤ f ∧ f ≤ 255) (ubh : U64 bh) (ubl : U64 bl) (w : World) (ft : FTab w) : Calls Tryd.prog 3 #[.int .u8 f, .agg #[.int .u64 bh, .int .u64 bl], .bool ng] w fun e w' => e = .returned (.bool true) ∧ Below w.heap.size w w' := by
  have h := numbers7_law_n C f (val bh bl) ng uf.1 uf.2 w ft
  rw [(hl_val ubh ubl).1, (hl_val ubh ubl).2] at h
  exact h


end Go.Proofs.YtbihcehcdjkkiaaDoor
