/-
  OverEnds.
-/
import Derived.Test.YtfmccbokipljfaaDoorEnds14
import Derived.Test.YtfmccbokipljfaaDoorRef14
import Derived.Test.YtfmccbokipljfaaDoorGoes14L
set_option linter.unusedVariables false
set_option linter.unusedSimpArgs false
set_option maxRecDepth 100000
namespace Go.Proofs.YtfmccbokipljfaaDoor
open Go.RowKit
attribute [local go_sem ↓] Go.wp_at_zero Go.wp_at_succ

theorem ref14_emax (f : Int) (f0 : 0 ≤ f) (f1 : f ≤ 255) (w : World) : Calls Tryd.prog 8 #[.int .u8 f] w fun e w' => e = .returned (.int .i64 (fE f)) ∧ Below w.heap.size w w' := (ref7_emax f f0 f1 w).mono fun e w' ⟨h, e2⟩ => ⟨h, e2 ▸ Below.refl _ _⟩
theorem ends14_law (O : OverOK) (f m : Int) (ng : Bool) (x : Int) (uf : 0 ≤ f ∧ f ≤ 255) (um : 0 ≤ m ∧ m ≤ 255) (ux : -9223372036854775808 ≤ x ∧ x ≤ 9223372036854775807) (w : World) (ft : FTab w) : Calls Tryd.prog 3 #[.int .u8 f, .int .u8 m, .bool ng, .int .i64 x] w fun e w' => e = .returned (.bool true) ∧ Below w.heap.size w w' := by
  have G := Lib.hid (goes14_any O)
  have hB := O.beyond f x uf.1 uf.2 ux.1 ux.2
  have hT := O.tiny f x uf.1 uf.2 ux.1 ux.2
  by_cases h4 : f < 4
  · obtain ⟨p0, p1, p2, p3, p4, p5, p6, p7, p8⟩ := f_nums uf.1 h4
    rw [show decide (f < 4) = true by simp [h4], Bool.true_and] at hB hT
    exact ends14_yes f m x _ _ _ _ _ _ _ _ _ ng _ _ (Lib.hid (ref14_emax f uf.1 uf.2)) (Lib.hid (O.over f m ng uf.1 uf.2 um.1 um.2)) (Lib.hid (ref14_over f m ng uf.1 uf.2 um.1)) (Lib.hid (O.least f ng uf.1 uf.2)) (Lib.hid (ref14_least f ng uf.1 uf.2)) (Lib.hid (O.normal f ng uf.1 uf.2)) (Lib.hid (ref14_normal f ng uf.1 uf.2)) (Lib.hid hB) (Lib.hid hT) G (by simp [h4]) rfl (IntWalk.i64_in _ (by omega)) rfl w ft
  · rw [show decide (f < 4) = false by simp [h4], Bool.false_and] at hB hT
    exact ends14_no f m x _ _ _ _ _ _ _ _ ng (Lib.hid (ref14_emax f uf.1 uf.2)) (Lib.hid (O.over f m ng uf.1 uf.2 um.1 um.2)) (Lib.hid (ref14_over f m ng uf.1 uf.2 um.1)) (Lib.hid (O.least f ng uf.1 uf.2)) (Lib.hid (ref14_least f ng uf.1 uf.2)) (Lib.hid (O.normal f ng uf.1 uf.2)) (Lib.hid (ref14_normal f ng uf.1 uf.2)) (Lib.hid hB) (Lib.hid hT) G (by simp [h4]) w ft


end Go.Proofs.YtfmccbokipljfaaDoor
