/-
  MulTerms.
-/
import Derived.Test.YtjnohbpebdnngaaGreatDoorTerms19
import Derived.Test.YtjnohbpebdnngaaGreatDoorGoes19L
import Derived.Test.YtjnohbpebdnngaaGreatDoorRef19T
set_option linter.unusedVariables false
set_option linter.unusedSimpArgs false
set_option maxRecDepth 100000
namespace Go.Proofs.YtjnohbpebdnngaaGreatDoor
open Go.RowKit
attribute [local go_sem ↓] Go.wp_at_zero Go.wp_at_succ

theorem i64_wf19 {x : Int} (h : (Lit.int .i64 x).wf = true) : -9223372036854775808 ≤ x ∧ x ≤ 9223372036854775807 := by
  simp only [Lit.wf, Bool.and_eq_true, decide_eq_true_eq] at h
  exact h
theorem terms19_law (A : MulOK) (sa : Bool) (ca ea xh xl : Int) (sb : Bool) (cb eb yh yl : Int) (uca : 0 ≤ ca ∧ ca ≤ 255) (uea : -9223372036854775808 ≤ ea ∧ ea ≤ 9223372036854775807) (uxh : U64 xh) (uxl : U64 xl) (ucb : 0 ≤ cb ∧ cb ≤ 255) (ueb : -9223372036854775808 ≤ eb ∧ eb ≤ 9223372036854775807) (uyh : U64 yh) (uyl : U64 yl) (w : World) (ft : FTab w) : Calls Tryz.prog 4 #[.agg #[.bool sa, .int .u8 ca, .int .i64 ea, .int .u64 xh, .int .u64 xl], .agg #[.bool sb, .int .u8 cb, .int .i64 eb, .int .u64 yh, .int .u64 yl]] w fun e w' => e = .returned (.bool true) ∧ Below w.heap.size w w' := by
  have hx := val_range uxh uxl
  have hy := val_range uyh uyl
  have T := A.term sa ca ea (val xh xl) sb cb eb (val yh yl) hx.1 hx.2 hy.1 hy.2
  have U := ref19_termN sa sb ca cb ea eb (val xh xl) (val yh yl) hx.1 hx.2 hy.1 hy.2
  rw [(hl_val uxh uxl).1, (hl_val uxh uxl).2, (hl_val uyh uyl).1, (hl_val uyh uyl).2] at T U
  exact terms19_core ca cb ea eb xh xl yh yl _ _ _ _ _ sa sb _ (Lib.hid T) (Lib.hid U) (Lib.hid (A.bad sa ca ea xh xl sb cb eb yh yl)) (Lib.hid (ref19_badN ca cb)) (Lib.hid (goes19_any A)) w ft


end Go.Proofs.YtjnohbpebdnngaaGreatDoor
