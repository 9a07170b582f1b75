import Derived.Test.YtjdjonekoodalaaGreatDoorAll23
import Derived.Test.YtjdjonekoodalaaGreatDoorRef23
set_option linter.unusedVariables false
set_option linter.unusedSimpArgs false
set_option maxRecDepth 100000
namespace Go.Proofs.YtjdjonekoodalaaGreatDoor
open Go.RowKit
attribute [local go_sem ↓] Go.wp_at_zero Go.wp_at_succ
theorem all23_law_n (A : RemOK) (f a b : Int) (a0 : 0 ≤ a) (a1 : a < full) (b0 : 0 ≤ b) (b1 : b < full) (uf : 0 ≤ f ∧ f ≤ 255) (w : World) (ft : FTab w) : Calls Tryz.prog 3 #[.int .u8 f, .agg #[.int .u64 (hiOf (a)), .int .u64 (loOf (a))], .agg #[.int .u64 (hiOf (b)), .int .u64 (loOf (b))]] w fun e w' => e = .returned (.bool true) ∧ Below w.heap.size w w' := by
  have G := lH (goes23_any A)
  have X := lH (A.rem f a b uf.1 uf.2 a0 a1 b0 b1)
  have Y := lH fun w => ref23_remN f a b uf.1 uf.2 a0 a1 b0 b1 w
  by_cases hf : f < 4
  · have F := fun w => far23N f a b uf.1 uf.2 a0 a1 b0 b1 hf w
    by_cases h : 600 < uX f a - uX f b
    · rw [decide_eq_true h] at F
      exact all23_far f _ _ _ _ (lH F) G (decide_eq_true hf) w ft
    · rw [decide_eq_false h] at F
      exact all23_near f _ _ _ _ _ _ _ (lH F) X Y G (decide_eq_true hf) w ft
  · exact all23_no f _ _ _ _ _ _ _ X Y G (decide_eq_false hf) w ft
theorem all23_law (A : RemOK) (f : Int) (ah al bh bl : Int) (uf : 0 ≤ f ∧ f ≤ 255) (uah : U64 ah) (ual : U64 al) (ubh : U64 bh) (ubl : U64 bl) (w : World) (ft : FTab w) : Calls Tryz.prog 3 #[.int .u8 f, .agg #[.int .u64 ah, .int .u64 al], .agg #[.int .u64 bh, .int .u64 bl]] w fun e w' => e = .returned (.bool true) ∧ Below w.heap.size w w' := by
  have hva := val_range uah ual
  have hvb := val_range ubh ubl
  have h := all23_law_n A f (val ah al) (val bh bl) hva.1 hva.2 hvb.1 hvb.2 uf w ft
  rw [(hl_val uah ual).1, (hl_val uah ual).2, (hl_val ubh ubl).1, (hl_val ubh ubl).2] at h
  exact h
end Go.Proofs.YtjdjonekoodalaaGreatDoor
