import Derived.Test.YtdcdbcccchadfaaGreatDoorAdd18M
import Derived.Test.YtdcdbcccchadfaaGreatDoorGwA
import Derived.Test.YtdcdbcccchadfaaGreatDoorGfA
import Derived.Test.YtdcdbcccchadfaaGreatDoorGhA
import Derived.Test.YtdcdbcccchadfaaGreatDoorGaA
import Derived.Test.YtdcdbcccchadfaaGreatDoorGaB
set_option maxHeartbeats 4000000
set_option linter.unusedVariables false
set_option linter.unusedSimpArgs false
set_option maxRecDepth 100000
namespace Go.Proofs.YtdcdbcccchadfaaGreatDoor
open Go.RowKit
attribute [local go_sem ↓] Go.wp_at_zero Go.wp_at_succ
theorem ad_nought_same (m : Int) (t a b : Bool)
     (g1 : (a == b) = true) (w : World) :
    Ca 38 #[.agg #[.int .u8 m, .bool t], .bool a, .bool b] w (.bool a) := by
  simp only [Ca] at *
  go_enter Tryz.func38, Tryz.ntmps38
  go_wp2_with fail
  go_ret
  exact ⟨rfl, (bA bR _)⟩
theorem ad_nought_diff (m : Int) (t a b : Bool)
     (g1 : (a == b) = false) (w : World) :
    Ca 38 #[.agg #[.int .u8 m, .bool t], .bool a, .bool b] w (.bool ((m == 3))) := by
  simp only [Ca] at *
  go_enter Tryz.func38, Tryz.ntmps38
  go_wp2_with fail
  go_ret
  exact ⟨rfl, (bA bR _)⟩
theorem noM_any (m : Int) (t a b : Bool) (w : World) : Calls Tryz.prog 38 #[.agg #[.int .u8 m, .bool t], .bool a, .bool b] w fun e w' => e = .returned (.bool (noM m a b)) ∧ Below w.heap.size w w' := by
  unfold noM
  by_cases h : a = b
  · rw [if_pos h]; exact ad_nought_same m t a b (by simp [h]) w
  · rw [if_neg h]; exact ad_nought_diff m t a b (by simp [h]) w
theorem wd_up128 {s : Int} (h0 : 0 ≤ s) (h1 : s < full) : wd0 (s * full) = 0 ∧ wd1 (s * full) = 0 ∧ wd2 (s * full) = loOf s ∧ wd3 (s * full) = hiOf s := by
  unfold wd0 wd1 wd2 wd3 loOf hiOf full at *; omega
end Go.Proofs.YtdcdbcccchadfaaGreatDoor
