/-
  ClassOf over digits.
-/
import Derived.Test.YtdlmnnnnnjgkiaaDoorOf8
import Derived.Test.YtdlmnnnnnjgkiaaDoorGoes8L
set_option linter.unusedVariables false
set_option linter.unusedSimpArgs false
set_option maxRecDepth 100000
namespace Go.Proofs.YtdlmnnnnnjgkiaaDoor
open Go.RowKit
attribute [local go_sem ↓] Go.wp_at_zero Go.wp_at_succ

theorem of8_law_n (C : ClassOK) (f b : Int) (f0 : 0 ≤ f) (f1 : f ≤ 255) (w : World) (ft : FTab w) : Calls Tryd.prog 3 #[.int .u8 f, .agg #[.int .u64 (hiOf (b)), .int .u64 (loOf (b))]] w fun e w' => e = .returned (.bool true) ∧ Below w.heap.size w w' := by
  have G := Lib.hid (goes8_any C)
  have hF := C.fin f b f0 f1
  by_cases h4 : f < 4
  · exact of8_yes f _ _ _ _ _ _ _ (Lib.hid (C.of f b f0 f1)) (Lib.hid (ref8_of f b f0 f1)) (Lib.hid (C.nan f b f0 f1)) (Lib.hid (ref8_nan f b f0 f1)) (Lib.hid (C.sig f b f0 f1)) (Lib.hid (ref8_sig f b f0 f1)) (Lib.hid hF) G (by simp [h4]) (by unfold finF; simp [h4]) w ft
  · rw [show finF f (b % full) = false by unfold finF; simp [h4]] at hF
    exact of8_no f _ _ _ _ _ _ (Lib.hid (C.of f b f0 f1)) (Lib.hid (ref8_of f b f0 f1)) (Lib.hid (C.nan f b f0 f1)) (Lib.hid (ref8_nan f b f0 f1)) (Lib.hid (C.sig f b f0 f1)) (Lib.hid (ref8_sig f b f0 f1)) (Lib.hid hF) G (by simp [h4]) w ft
theorem of8_law (C : ClassOK) (f bh bl : Int) (uf : 0 ≤ f ∧ f ≤ 255) (ubh : U64 bh) (ubl : U64 bl) (w : World) (ft : FTab w) : Calls Tryd.prog 3 #[.int .u8 f, .agg #[.int .u64 bh, .int .u64 bl]] w fun e w' => e = .returned (.bool true) ∧ Below w.heap.size w w' := by
  have h := of8_law_n C f (val bh bl) uf.1 uf.2 w ft
  rw [(hl_val ubh ubl).1, (hl_val ubh ubl).2] at h
  exact h


end Go.Proofs.YtdlmnnnnnjgkiaaDoor
