/-
  OverReach.
-/
import Derived.Test.YtfmccbokipljfaaDoorReach14
import Derived.Test.YtfmccbokipljfaaDoorGoes14L
import Derived.Test.YtfmccbokipljfaaDoorGfA
import Derived.Test.YtfmccbokipljfaaDoorGdA
set_option linter.unusedVariables false
set_option linter.unusedSimpArgs false
set_option maxRecDepth 100000
namespace Go.Proofs.YtfmccbokipljfaaDoor
open Go.RowKit
attribute [local go_sem ↓] Go.wp_at_zero Go.wp_at_succ

theorem reach14_law_n (C : FormOK) (U : FldOK) (O : OverOK) (f b : Int) (f0 : 0 ≤ f) (f1 : f ≤ 255) (w : World) (ft : FTab w) : Calls Tryd.prog 6 #[.int .u8 f, .agg #[.int .u64 (hiOf (b)), .int .u64 (loOf (b))]] w fun e w' => e = .returned (.bool true) ∧ Below w.heap.size w w' := by
  have G := Lib.hid (goes14_any O)
  have B0 := (mod_f b).1
  have hU := U.unpack f b f0 f1
  obtain ⟨ur1, ur2⟩ := uE_range (f := f) (b := b % full) f0 B0
  by_cases c : clsF f (b % full) = 1 ∨ clsF f (b % full) = 2
  · have hf : f < 4 := by
      apply Classical.byContradiction; intro h; rw [cls_no h] at c; omega
    have pn := f_nums f0 hf
    have p6 := pn.2.2.2.2.2.2.1; have p7 := pn.2.2.2.2.2.2.2.1
    clear pn
    have q := un_range f0 hf B0 c
    have q1 := q.1; have q3 := q.2.2.2.2.2
    clear q
    have d4 : decide (f < 4) = true := by simp [hf]
    have hB := O.beyond f (uE f (b % full)) f0 f1 (by omega) (by omega)
    rw [d4, Bool.true_and, show decide ((fE f : Int) < uE f (b % full)) = false from decide_eq_false (by omega)] at hB
    have hT := O.tiny f (uE f (b % full)) f0 f1 (by omega) (by omega)
    have hE := C.emax f f0 f1
    have hB2 := O.beyond f (fE f + 1) f0 f1 (by omega) (by omega)
    rw [d4, Bool.true_and, show decide ((fE f : Int) < fE f + 1) = true from decide_eq_true (by omega)] at hB2
    have hT2 := O.tiny f (fE f) f0 f1 (by omega) (by omega)
    rw [d4, Bool.true_and, show decide ((fE f : Int) < 1 - fE f) = false from decide_eq_false (by omega)] at hT2
    have e1 : IntKind.i64.wrap ((fE f : Int) + 1) = fE f + 1 := IntWalk.i64_in _ (by omega)
    have e2 : wrap64 ((fE f : Int) + 1) = fE f + 1 := by unfold wrap64; omega
    rcases c with c | c
    · rw [d4, Bool.true_and, show decide (uE f (b % full) < 1 - fE f) = true from decide_eq_true (by omega)] at hT
      rw [c] at hU
      exact reach14_1 f _ _ _ _ _ _ _ _ (Lib.hid hU) (Lib.hid hB) (Lib.hid hT) (Lib.hid hE) (Lib.hid hB2) (Lib.hid hT2) G e1 e2 w ft
    · rw [d4, Bool.true_and, show decide (uE f (b % full) < 1 - fE f) = false from decide_eq_false (by omega)] at hT
      rw [c] at hU
      exact reach14_2 f _ _ _ _ _ _ _ _ (Lib.hid hU) (Lib.hid hB) (Lib.hid hT) (Lib.hid hE) (Lib.hid hB2) (Lib.hid hT2) G e1 e2 w ft
  · have hB := O.beyond f 0 f0 f1 (by decide) (by decide)
    rw [show decide ((fE f : Int) < 0) = false from decide_eq_false (by omega), Bool.and_false] at hB
    have hT := O.tiny f 0 f0 f1 (by decide) (by decide)
    have hz : (decide (f < 4) && decide ((0 : Int) < 1 - fE f)) = false := by
      by_cases hf : f < 4
      · have pn := f_nums f0 hf
        have p7 := pn.2.2.2.2.2.2.2.1
        clear pn
        rw [show decide ((0 : Int) < 1 - fE f) = false from decide_eq_false (by omega), Bool.and_false]
      · rw [show decide (f < 4) = false by simp [hf], Bool.false_and]
    rw [hz] at hT
    exact reach14_no f _ _ _ _ _ _ _ (Lib.hid hU) (Lib.hid hB) (Lib.hid hT) G (bne_iff_ne.2 fun h => c (Or.inl h)) (bne_iff_ne.2 fun h => c (Or.inr h)) w ft
theorem reach14_law (C : FormOK) (U : FldOK) (O : OverOK) (f bh bl : Int) (uf : 0 ≤ f ∧ f ≤ 255) (ub : U64 bh) (ul : U64 bl) (w : World) (ft : FTab w) : Calls Tryd.prog 6 #[.int .u8 f, .agg #[.int .u64 bh, .int .u64 bl]] w fun e w' => e = .returned (.bool true) ∧ Below w.heap.size w w' := by
  have h := reach14_law_n C U O f (val bh bl) uf.1 uf.2 w ft
  rw [(hl_val ub ul).1, (hl_val ub ul).2] at h
  exact h


end Go.Proofs.YtfmccbokipljfaaDoor
