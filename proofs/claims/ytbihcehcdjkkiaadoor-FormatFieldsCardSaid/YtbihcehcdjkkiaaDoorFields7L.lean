/-
  FormatFields over digits.
-/
import Derived.Test.YtbihcehcdjkkiaaDoorFields7
import Derived.Test.YtbihcehcdjkkiaaDoorGoes7L
set_option linter.unusedVariables false
set_option linter.unusedSimpArgs false
set_option maxRecDepth 100000
namespace Go.Proofs.YtbihcehcdjkkiaaDoor
open Go.RowKit
attribute [local go_sem ↓] Go.wp_at_zero Go.wp_at_succ

theorem fields7_law_n (C : FormOK) (f b g ex : Int) (ng : Bool) (f0 : 0 ≤ f) (f1 : f ≤ 255) (e0 : -9223372036854775808 ≤ ex) (e1 : ex ≤ 9223372036854775807) (w : World) (ft : FTab w) :
    Calls Tryd.prog 4 #[.int .u8 f, .agg #[.int .u64 (hiOf (b)), .int .u64 (loOf (b))], .agg #[.int .u64 (hiOf (g)), .int .u64 (loOf (g))], .bool ng, .int .i64 ex] w fun e w' => e = .returned (.bool true) ∧ Below w.heap.size w w' := by
  have G := Lib.hid (goes7_any C)
  have RS : ∀ w, Calls Tryd.prog 29 #[.int .u8 f, .agg #[.int .u64 (hiOf (b)), .int .u64 (loOf (b))]] w fun e w' => ∃ v, e = .returned (.tuple #[.bool (negF f (b % full)), .int .i64 (expF f (b % full)), v]) ∧ IsNum w' v (fracF f (b % full)) ∧ Below w.heap.size w w' := fun w => by
    by_cases h4 : f < 4
    · exact ref7_split f b f0 h4 w
    · have n : negF f (b % full) = false := by unfold negF; rw [show decide (f < 4) = false by simp [h4], Bool.and_false]
      have x : expF f (b % full) = 0 := by unfold expF; rw [if_neg h4]
      have r : fracF f (b % full) = 0 := by unfold fracF; rw [if_neg h4]
      rw [n, x, r]
      exact (ref7_split_no f _ _ f0 f1 h4 w).mono fun e w' ⟨he, hb⟩ => ⟨_, he, nil_num w', hb⟩
  exact fields7_core f _ _ _ _ _ ex _ _ _ _ _ _ ng _ (Lib.hid (C.split f b f0 f1)) (Lib.hid (C.make f ng ex g f0 f1 e0 e1)) G (Lib.hid RS) rfl rfl (Lib.hid (bigN g)) (Lib.hid fun w v nm => ref7_make f ex (g % full) ng v f0 f1 e0 e1 (small_mod g) w nm) w ft
theorem fields7_law (C : FormOK) (f bh bl gh gl : Int) (ng : Bool) (ex : Int) (uf : 0 ≤ f ∧ f ≤ 255) (ubh : U64 bh) (ubl : U64 bl) (ugh : U64 gh) (ugl : U64 gl) (ux : -9223372036854775808 ≤ ex ∧ ex ≤ 9223372036854775807) (w : World) (ft : FTab w) : Calls Tryd.prog 4 #[.int .u8 f, .agg #[.int .u64 bh, .int .u64 bl], .agg #[.int .u64 gh, .int .u64 gl], .bool ng, .int .i64 ex] w fun e w' => e = .returned (.bool true) ∧ Below w.heap.size w w' := by
  have h := fields7_law_n C f (val bh bl) (val gh gl) ex ng uf.1 uf.2 ux.1 ux.2 w ft
  rw [(hl_val ubh ubl).1, (hl_val ubh ubl).2, (hl_val ugh ugl).1, (hl_val ugh ugl).2] at h
  exact h


end Go.Proofs.YtbihcehcdjkkiaaDoor
