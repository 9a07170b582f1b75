/-
  Rounding decisions: the document's answers.
-/
import Derived.Test.YtjinnbfffalmkaaMode13M
import Derived.Test.YtjinnbfffalmkaaGaA
set_option linter.unusedVariables false
set_option linter.unusedSimpArgs false
set_option maxRecDepth 100000
namespace Go.Proofs.Ytjinnbfffalmkaa
open Go.RowKit
attribute [local go_sem ↓] Go.wp_at_zero Go.wp_at_succ

set_option maxHeartbeats 1000000 in
theorem ref13_next_1_o (m : Int) (ng od : Bool) (m0 : m ≠ 0) (m1 : m ≠ 1) (m2 : m ≠ 2) (m3 : m ≠ 3) (w : World) : Calls Try.prog 9 #[.int .u8 m, .bool ng, .bool od, .int .i64 1] w fun e w' => e = .returned (.bool (nextM m ng od 1)) ∧ Below w.heap.size w w' := by
  have e0 : (m == 0) = false := by simp [m0]
  have e1 : (m == 1) = false := by simp [m1]
  have e2 : (m == 2) = false := by simp [m2]
  have e3 : (m == 3) = false := by simp [m3]
  rw [show nextM m ng od 1 = false by unfold nextM; rw [if_neg (by omega), if_neg m0, if_neg m1, if_neg m2, if_neg m3]]
  clear m0 m1 m2 m3
  go_enter Try.func9, Try.ntmps9
  go_wp2
  go_ret
  exact ⟨rfl, Below.refl _ _⟩
theorem ref13_next_1_0 (ng od : Bool) (w : World) : Calls Try.prog 9 #[.int .u8 0, .bool ng, .bool od, .int .i64 1] w fun e w' => e = .returned (.bool (nextM 0 ng od 1)) ∧ Below w.heap.size w w' := by
  go_enter Try.func9, Try.ntmps9
  go_wp2
  go_ret
  exact ⟨by simp [nextM], Below.refl _ _⟩
theorem ref13_next_1_1 (ng od : Bool) (w : World) : Calls Try.prog 9 #[.int .u8 1, .bool ng, .bool od, .int .i64 1] w fun e w' => e = .returned (.bool (nextM 1 ng od 1)) ∧ Below w.heap.size w w' := by
  go_enter Try.func9, Try.ntmps9
  go_wp2
  go_ret
  exact ⟨by simp [nextM], Below.refl _ _⟩
theorem ref13_next_1_2 (ng od : Bool) (w : World) : Calls Try.prog 9 #[.int .u8 2, .bool ng, .bool od, .int .i64 1] w fun e w' => e = .returned (.bool (nextM 2 ng od 1)) ∧ Below w.heap.size w w' := by
  go_enter Try.func9, Try.ntmps9
  go_wp2
  go_ret
  exact ⟨by simp [nextM], Below.refl _ _⟩
theorem ref13_next_1_3 (ng od : Bool) (w : World) : Calls Try.prog 9 #[.int .u8 3, .bool ng, .bool od, .int .i64 1] w fun e w' => e = .returned (.bool (nextM 3 ng od 1)) ∧ Below w.heap.size w w' := by
  go_enter Try.func9, Try.ntmps9
  go_wp2
  go_ret
  exact ⟨by simp [nextM], Below.refl _ _⟩
set_option maxHeartbeats 1000000 in
theorem ref13_next_2_o (m : Int) (ng od : Bool) (m0 : m ≠ 0) (m1 : m ≠ 1) (m2 : m ≠ 2) (m3 : m ≠ 3) (w : World) : Calls Try.prog 9 #[.int .u8 m, .bool ng, .bool od, .int .i64 2] w fun e w' => e = .returned (.bool (nextM m ng od 2)) ∧ Below w.heap.size w w' := by
  have e0 : (m == 0) = false := by simp [m0]
  have e1 : (m == 1) = false := by simp [m1]
  have e2 : (m == 2) = false := by simp [m2]
  have e3 : (m == 3) = false := by simp [m3]
  rw [show nextM m ng od 2 = false by unfold nextM; rw [if_neg (by omega), if_neg m0, if_neg m1, if_neg m2, if_neg m3]]
  clear m0 m1 m2 m3
  go_enter Try.func9, Try.ntmps9
  go_wp2
  go_ret
  exact ⟨rfl, Below.refl _ _⟩
theorem ref13_next_2_0 (ng od : Bool) (w : World) : Calls Try.prog 9 #[.int .u8 0, .bool ng, .bool od, .int .i64 2] w fun e w' => e = .returned (.bool (nextM 0 ng od 2)) ∧ Below w.heap.size w w' := by
  go_enter Try.func9, Try.ntmps9
  go_wp2
  go_ret
  exact ⟨by simp [nextM], Below.refl _ _⟩
theorem ref13_next_2_1 (ng od : Bool) (w : World) : Calls Try.prog 9 #[.int .u8 1, .bool ng, .bool od, .int .i64 2] w fun e w' => e = .returned (.bool (nextM 1 ng od 2)) ∧ Below w.heap.size w w' := by
  go_enter Try.func9, Try.ntmps9
  go_wp2
  go_ret
  exact ⟨by simp [nextM], Below.refl _ _⟩
theorem ref13_next_2_2 (ng od : Bool) (w : World) : Calls Try.prog 9 #[.int .u8 2, .bool ng, .bool od, .int .i64 2] w fun e w' => e = .returned (.bool (nextM 2 ng od 2)) ∧ Below w.heap.size w w' := by
  go_enter Try.func9, Try.ntmps9
  go_wp2
  go_ret
  exact ⟨by simp [nextM], Below.refl _ _⟩
theorem ref13_next_2_3 (ng od : Bool) (w : World) : Calls Try.prog 9 #[.int .u8 3, .bool ng, .bool od, .int .i64 2] w fun e w' => e = .returned (.bool (nextM 3 ng od 2)) ∧ Below w.heap.size w w' := by
  go_enter Try.func9, Try.ntmps9
  go_wp2
  go_ret
  exact ⟨by simp [nextM], Below.refl _ _⟩
set_option maxHeartbeats 1000000 in
theorem ref13_next_3_o (m : Int) (ng od : Bool) (m0 : m ≠ 0) (m1 : m ≠ 1) (m2 : m ≠ 2) (m3 : m ≠ 3) (w : World) : Calls Try.prog 9 #[.int .u8 m, .bool ng, .bool od, .int .i64 3] w fun e w' => e = .returned (.bool (nextM m ng od 3)) ∧ Below w.heap.size w w' := by
  have e0 : (m == 0) = false := by simp [m0]
  have e1 : (m == 1) = false := by simp [m1]
  have e2 : (m == 2) = false := by simp [m2]
  have e3 : (m == 3) = false := by simp [m3]
  rw [show nextM m ng od 3 = false by unfold nextM; rw [if_neg (by omega), if_neg m0, if_neg m1, if_neg m2, if_neg m3]]
  clear m0 m1 m2 m3
  go_enter Try.func9, Try.ntmps9
  go_wp2
  go_ret
  exact ⟨rfl, Below.refl _ _⟩
theorem ref13_next_3_0 (ng od : Bool) (w : World) : Calls Try.prog 9 #[.int .u8 0, .bool ng, .bool od, .int .i64 3] w fun e w' => e = .returned (.bool (nextM 0 ng od 3)) ∧ Below w.heap.size w w' := by
  go_enter Try.func9, Try.ntmps9
  go_wp2
  go_ret
  exact ⟨by simp [nextM], Below.refl _ _⟩
theorem ref13_next_3_1 (ng od : Bool) (w : World) : Calls Try.prog 9 #[.int .u8 1, .bool ng, .bool od, .int .i64 3] w fun e w' => e = .returned (.bool (nextM 1 ng od 3)) ∧ Below w.heap.size w w' := by
  go_enter Try.func9, Try.ntmps9
  go_wp2
  go_ret
  exact ⟨by simp [nextM], Below.refl _ _⟩
theorem ref13_next_3_2 (ng od : Bool) (w : World) : Calls Try.prog 9 #[.int .u8 2, .bool ng, .bool od, .int .i64 3] w fun e w' => e = .returned (.bool (nextM 2 ng od 3)) ∧ Below w.heap.size w w' := by
  go_enter Try.func9, Try.ntmps9
  go_wp2
  go_ret
  exact ⟨by simp [nextM], Below.refl _ _⟩
theorem ref13_next_3_3 (ng od : Bool) (w : World) : Calls Try.prog 9 #[.int .u8 3, .bool ng, .bool od, .int .i64 3] w fun e w' => e = .returned (.bool (nextM 3 ng od 3)) ∧ Below w.heap.size w w' := by
  go_enter Try.func9, Try.ntmps9
  go_wp2
  go_ret
  exact ⟨by simp [nextM], Below.refl _ _⟩
set_option maxHeartbeats 4000000 in
theorem ref13_next (m : Int) (ng od : Bool) (r : Int) (w : World) : Calls Try.prog 9 #[.int .u8 m, .bool ng, .bool od, .int .i64 r] w fun e w' => e = .returned (.bool (nextM m ng od r)) ∧ Below w.heap.size w w' := by
  by_cases h1 : r < 1
  · have g1 : decide (r < 1) = true := by simp [h1]
    rw [show nextM m ng od r = false by unfold nextM; rw [if_pos (Or.inl h1)]]
    go_enter Try.func9, Try.ntmps9
    go_wp2
    go_ret
    exact ⟨rfl, Below.refl _ _⟩
  · have g1 : decide (r < 1) = false := by simp [h1]
    by_cases h3 : 3 < r
    · have g3 : decide (3 < r) = true := by simp [h3]
      rw [show nextM m ng od r = false by unfold nextM; rw [if_pos (Or.inr h3)]]
      go_enter Try.func9, Try.ntmps9
      go_wp2
      go_ret
      exact ⟨rfl, Below.refl _ _⟩
    · have g3 : decide (3 < r) = false := by simp [h3]
      have hr : r = 1 ∨ r = 2 ∨ r = 3 := by omega
      have hm : m = 0 ∨ m = 1 ∨ m = 2 ∨ m = 3 ∨ (m ≠ 0 ∧ m ≠ 1 ∧ m ≠ 2 ∧ m ≠ 3) := by omega
      clear h1 h3 g1 g3
      rcases hr with rfl | rfl | rfl <;> rcases hm with rfl | rfl | rfl | rfl | ⟨m0, m1, m2, m3⟩
      · exact ref13_next_1_0 ng od w
      · exact ref13_next_1_1 ng od w
      · exact ref13_next_1_2 ng od w
      · exact ref13_next_1_3 ng od w
      · exact ref13_next_1_o m ng od m0 m1 m2 m3 w
      · exact ref13_next_2_0 ng od w
      · exact ref13_next_2_1 ng od w
      · exact ref13_next_2_2 ng od w
      · exact ref13_next_2_3 ng od w
      · exact ref13_next_2_o m ng od m0 m1 m2 m3 w
      · exact ref13_next_3_0 ng od w
      · exact ref13_next_3_1 ng od w
      · exact ref13_next_3_2 ng od w
      · exact ref13_next_3_3 ng od w
      · exact ref13_next_3_o m ng od m0 m1 m2 m3 w
set_option maxHeartbeats 1000000 in
theorem ref13_inf (m : Int) (ng : Bool) (w : World) : Calls Try.prog 12 #[.int .u8 m, .bool ng] w fun e w' => e = .returned (.bool (infM m ng)) ∧ Below w.heap.size w w' := by
  have hm : m = 0 ∨ m = 1 ∨ m = 2 ∨ m = 3 ∨ (m ≠ 0 ∧ m ≠ 1 ∧ m ≠ 2 ∧ m ≠ 3) := by omega
  rcases hm with rfl | rfl | rfl | rfl | ⟨m0, m1, m2, m3⟩
  · cases ng
    · go_enter Try.func12, Try.ntmps12
      go_wp2
      go_ret
      exact ⟨rfl, Below.refl _ _⟩
    · go_enter Try.func12, Try.ntmps12
      go_wp2
      go_ret
      exact ⟨rfl, Below.refl _ _⟩
  · cases ng
    · go_enter Try.func12, Try.ntmps12
      go_wp2
      go_ret
      exact ⟨rfl, Below.refl _ _⟩
    · go_enter Try.func12, Try.ntmps12
      go_wp2
      go_ret
      exact ⟨rfl, Below.refl _ _⟩
  · cases ng
    · go_enter Try.func12, Try.ntmps12
      go_wp2
      go_ret
      exact ⟨rfl, Below.refl _ _⟩
    · go_enter Try.func12, Try.ntmps12
      go_wp2
      go_ret
      exact ⟨rfl, Below.refl _ _⟩
  · cases ng
    · go_enter Try.func12, Try.ntmps12
      go_wp2
      go_ret
      exact ⟨rfl, Below.refl _ _⟩
    · go_enter Try.func12, Try.ntmps12
      go_wp2
      go_ret
      exact ⟨rfl, Below.refl _ _⟩
  · have e0 : (m == 0) = false := by simp [m0]
    have e1 : (m == 1) = false := by simp [m1]
    have e2 : (m == 2) = false := by simp [m2]
    have e3 : (m == 3) = false := by simp [m3]
    rw [show infM m ng = false by unfold infM; simp [m0, m1, m2, m3]]
    clear m0 m1 m2 m3
    go_enter Try.func12, Try.ntmps12
    go_wp2
    go_ret
    exact ⟨rfl, Below.refl _ _⟩


end Go.Proofs.Ytjinnbfffalmkaa
