/-
  Rounding decisions: the document's answers.
-/
import Derived.Test.YtfmccbokipljfaaDoorGmA
import Derived.Test.YtfmccbokipljfaaDoorGaA
set_option linter.unusedVariables false
set_option linter.unusedSimpArgs false
set_option maxRecDepth 100000
namespace Go.Proofs.YtfmccbokipljfaaDoor
open Go.RowKit
attribute [local go_sem ↓] Go.wp_at_zero Go.wp_at_succ

set_option maxHeartbeats 1000000 in
theorem ref13_inf (m : Int) (ng : Bool) (w : World) : Calls Tryd.prog 34 #[.int .u8 m, .bool ng] w fun e w' => e = .returned (.bool (infM m ng)) ∧ Below w.heap.size w w' := by
  have hm : m = 0 ∨ m = 1 ∨ m = 2 ∨ m = 3 ∨ (m ≠ 0 ∧ m ≠ 1 ∧ m ≠ 2 ∧ m ≠ 3) := by omega
  rcases hm with rfl | rfl | rfl | rfl | ⟨m0, m1, m2, m3⟩
  · cases ng
    · go_enter Tryd.func34, Tryd.ntmps34
      go_wp2
      go_ret
      exact ⟨rfl, Below.refl _ _⟩
    · go_enter Tryd.func34, Tryd.ntmps34
      go_wp2
      go_ret
      exact ⟨rfl, Below.refl _ _⟩
  · cases ng
    · go_enter Tryd.func34, Tryd.ntmps34
      go_wp2
      go_ret
      exact ⟨rfl, Below.refl _ _⟩
    · go_enter Tryd.func34, Tryd.ntmps34
      go_wp2
      go_ret
      exact ⟨rfl, Below.refl _ _⟩
  · cases ng
    · go_enter Tryd.func34, Tryd.ntmps34
      go_wp2
      go_ret
      exact ⟨rfl, Below.refl _ _⟩
    · go_enter Tryd.func34, Tryd.ntmps34
      go_wp2
      go_ret
      exact ⟨rfl, Below.refl _ _⟩
  · cases ng
    · go_enter Tryd.func34, Tryd.ntmps34
      go_wp2
      go_ret
      exact ⟨rfl, Below.refl _ _⟩
    · go_enter Tryd.func34, Tryd.ntmps34
      go_wp2
      go_ret
      exact ⟨rfl, Below.refl _ _⟩
  · have e0 : (m == 0) = false := by simp [m0]
    have e1 : (m == 1) = false := by simp [m1]
    have e2 : (m == 2) = false := by simp [m2]
    have e3 : (m == 3) = false := by simp [m3]
    rw [show infM m ng = false by unfold infM; simp [m0, m1, m2, m3]]
    clear m0 m1 m2 m3
    go_enter Tryd.func34, Tryd.ntmps34
    go_wp2
    go_ret
    exact ⟨rfl, Below.refl _ _⟩


end Go.Proofs.YtfmccbokipljfaaDoor
