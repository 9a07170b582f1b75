/-
  The document's answers of stage 19: what is invalid.
-/
import Derived.Test.YtjnohbpebdnngaaGreatDoorMul19M
import Derived.Test.YtjnohbpebdnngaaGreatDoorW2
set_option linter.unusedVariables false
set_option linter.unusedSimpArgs false
set_option maxRecDepth 100000
namespace Go.Proofs.YtjnohbpebdnngaaGreatDoor
open Go.RowKit
attribute [local go_sem ↓] Go.wp_at_zero Go.wp_at_succ

set_option maxHeartbeats 4000000 in
theorem ref19_bad_a 
     (w : World) :
    Ca 17 #[.int .u8 0, .int .u8 3] w (.bool true) := by
  simp only [Ca] at *
  go_enter Tryz.func17, Tryz.ntmps17
  go_wp2_with fail
  go_ret
  exact ⟨rfl, (Below.refl _ _)⟩

set_option maxHeartbeats 4000000 in
theorem ref19_bad_b (d : Int)
     (g1 : (d == 3) = false) (w : World) :
    Ca 17 #[.int .u8 0, .int .u8 d] w (.bool false) := by
  simp only [Ca] at *
  go_enter Tryz.func17, Tryz.ntmps17
  go_wp2_with fail
  go_ret
  exact ⟨rfl, (Below.refl _ _)⟩

set_option maxHeartbeats 4000000 in
theorem ref19_bad_c 
     (w : World) :
    Ca 17 #[.int .u8 3, .int .u8 0] w (.bool true) := by
  simp only [Ca] at *
  go_enter Tryz.func17, Tryz.ntmps17
  go_wp2_with fail
  go_ret
  exact ⟨rfl, (Below.refl _ _)⟩

set_option maxHeartbeats 4000000 in
theorem ref19_bad_d (d : Int)
     (g1 : (d == 0) = false) (w : World) :
    Ca 17 #[.int .u8 3, .int .u8 d] w (.bool false) := by
  simp only [Ca] at *
  go_enter Tryz.func17, Tryz.ntmps17
  go_wp2_with fail
  go_ret
  exact ⟨rfl, (Below.refl _ _)⟩

set_option maxHeartbeats 4000000 in
theorem ref19_bad_e (c d : Int)
     (g1 : (c == 0) = false) (g2 : (c == 3) = false) (w : World) :
    Ca 17 #[.int .u8 c, .int .u8 d] w (.bool false) := by
  simp only [Ca] at *
  go_enter Tryz.func17, Tryz.ntmps17
  go_wp2_with fail
  go_ret
  exact ⟨rfl, (Below.refl _ _)⟩

theorem ref19_badN (c d : Int) (w : World) : Calls Tryz.prog 17 #[.int .u8 c, .int .u8 d] w fun e w' => e = .returned (.bool (badC c d)) ∧ Below w.heap.size w w' := by
  unfold badC
  by_cases c0 : c = 0
  · subst c0
    by_cases d3 : d = 3
    · subst d3; exact ref19_bad_a w
    · rw [decide_eq_false (by omega)]; exact ref19_bad_b d (beq_eq_false_iff_ne.2 d3) w
  · by_cases c3 : c = 3
    · subst c3
      by_cases d0 : d = 0
      · subst d0; exact ref19_bad_c w
      · rw [decide_eq_false (by omega)]; exact ref19_bad_d d (beq_eq_false_iff_ne.2 d0) w
    · rw [decide_eq_false (by omega)]; exact ref19_bad_e c d (beq_eq_false_iff_ne.2 c0) (beq_eq_false_iff_ne.2 c3) w


end Go.Proofs.YtjnohbpebdnngaaGreatDoor
