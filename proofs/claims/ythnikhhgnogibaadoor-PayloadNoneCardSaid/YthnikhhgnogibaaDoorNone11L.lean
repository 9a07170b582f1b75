/-
  PayloadNone over digits.
-/
import Derived.Test.YthnikhhgnogibaaDoorNone11
import Derived.Test.YthnikhhgnogibaaDoorGoes11L
set_option linter.unusedVariables false
set_option linter.unusedSimpArgs false
set_option maxRecDepth 100000
namespace Go.Proofs.YthnikhhgnogibaaDoor
open Go.RowKit
attribute [local go_sem ↓] Go.wp_at_zero Go.wp_at_succ

theorem none11_law_n (C : FormOK) (D : ClassOK) (Y : PayOK) (f t b : Int) (f0 : 0 ≤ f) (f1 : f ≤ 255) (t0 : 0 ≤ t) (t1 : t ≤ 255) (w : World) (ft : FTab w) : Calls Tryd.prog 6 #[.int .u8 f, .int .u8 t, .agg #[.int .u64 (hiOf (b)), .int .u64 (loOf (b))]] w fun e w' => e = .returned (.bool true) ∧ Below w.heap.size w w' := by
  have G := Lib.hid (goes11_any Y)
  have hN := D.nan f b f0 f1
  have hK := C.known t t0 t1
  have no : ∀ c : Int, moveK f t (c % full) = false → ∀ w, FTab w → Calls Tryd.prog 8 #[.int .u8 f, .int .u8 t, .agg #[.int .u64 (hiOf (c)), .int .u64 (loOf (c))]] w fun e w' => e = .returned (.tuple #[.agg #[.int .u64 0, .int .u64 0, .int .u8 0], .bool false]) ∧ Below w.heap.size w w' := by
    intro c k
    obtain ⟨e1, e2⟩ := move_no k
    have h := Y.move f t c f0 f1 t0 t1
    rw [k, e1, e2, hl_zero.1, hl_zero.2] at h
    exact h
  by_cases hn : nanF f (b % full) = true
  · rw [hn] at hN
    by_cases t4 : t < 4
    · rw [show decide (t < 4) = true by simp [t4]] at hK
      have hi := C.inf f true f0 f1
      have hl : infF f true % full = infF f true := by have m := make_full f0 true (2 * fE f + 1) 0; exact Int.emod_eq_of_lt m.1 m.2
      exact none11_inf f t _ _ _ _ (Lib.hid hN) (Lib.hid hK) (Lib.hid hi) (Lib.hid (no (infF f true) (by unfold moveK; rw [hl, inf_no f0 true, Bool.and_false]))) G w ft
    · rw [show decide (t < 4) = false by simp [t4]] at hK
      exact none11_to f t _ _ (Lib.hid hN) (Lib.hid hK) (Lib.hid (no b (by unfold moveK; simp [t4]))) G w ft
  · rw [Bool.eq_false_iff.2 hn] at hN
    exact none11_not f t _ _ (Lib.hid hN) (Lib.hid (no b (by unfold moveK; rw [Bool.eq_false_iff.2 hn, Bool.and_false]))) G w ft
theorem none11_law (C : FormOK) (D : ClassOK) (Y : PayOK) (f t bh bl : Int) (uf : 0 ≤ f ∧ f ≤ 255) (ut : 0 ≤ t ∧ t ≤ 255) (ubh : U64 bh) (ubl : U64 bl) (w : World) (ft : FTab w) : Calls Tryd.prog 6 #[.int .u8 f, .int .u8 t, .agg #[.int .u64 bh, .int .u64 bl]] w fun e w' => e = .returned (.bool true) ∧ Below w.heap.size w w' := by
  have h := none11_law_n C D Y f t (val bh bl) uf.1 uf.2 ut.1 ut.2 w ft
  rw [(hl_val ubh ubl).1, (hl_val ubh ubl).2] at h
  exact h


end Go.Proofs.YthnikhhgnogibaaDoor
