/-
  Rounding decisions: by definition; what the document asks of package mode.
-/
import Derived.Deep.DrawnRows
import Derived.Test.YtjinnbfffalmkaaGaA
set_option linter.unusedVariables false
set_option linter.unusedSimpArgs false
set_option maxRecDepth 100000
namespace Go.Proofs.Ytjinnbfffalmkaa
open Go.RowKit
attribute [local go_sem ↓] Go.wp_at_zero Go.wp_at_succ

/-- Rounding decisions, by definition. -/
def nextM (m : Int) (ng od : Bool) (r : Int) : Bool := if r < 1 ∨ 3 < r then false else if m = 0 then (decide (r = 3) || (decide (r = 2) && od)) else if m = 1 then decide (r ≠ 1) else if m = 2 then !ng else if m = 3 then ng else false
def infM (m : Int) (ng : Bool) : Bool := decide (m = 0) || decide (m = 1) || (decide (m = 2) && !ng) || (decide (m = 3) && ng)
def mirM (m : Int) : Int := if m = 2 then 3 else if m = 3 then 2 else m
def ofM (h b : Bool) : Int := if h then (if b then 3 else 2) else if b then 1 else 0

/-- What the document asks of package mode. -/
structure ModeOK : Prop where
  known : ∀ m, 0 ≤ m → m ≤ 255 → ∀ w, Calls Try.prog 10 #[.int .u8 m] w fun e w' => e = .returned (.bool (decide (m < 5))) ∧ Below w.heap.size w w'
  next : ∀ m ng od r, 0 ≤ m → m ≤ 255 → 0 ≤ r → r ≤ 255 → ∀ w, Calls Try.prog 8 #[.int .u8 m, .bool ng, .bool od, .int .u8 r] w fun e w' => e = .returned (.bool (nextM m ng od r)) ∧ Below w.heap.size w w'
  of : ∀ h b, ∀ w, Calls Try.prog 17 #[.bool h, .bool b] w fun e w' => e = .returned (.int .u8 (ofM h b)) ∧ Below w.heap.size w w'
  mirror : ∀ m, 0 ≤ m → m ≤ 255 → ∀ w, Calls Try.prog 16 #[.int .u8 m] w fun e w' => e = .returned (.int .u8 (mirM m)) ∧ Below w.heap.size w w'
  inf : ∀ m ng, 0 ≤ m → m ≤ 255 → ∀ w, Calls Try.prog 11 #[.int .u8 m, .bool ng] w fun e w' => e = .returned (.bool (infM m ng)) ∧ Below w.heap.size w w'

theorem next_mirror (m : Int) (od : Bool) (r : Int) : nextM (mirM m) false od r = nextM m true od r := by
  unfold nextM mirM
  by_cases h2 : m = 2
  · subst h2; simp
  · by_cases h3 : m = 3
    · subst h3; simp
    · simp [h2, h3]
theorem mir_mir (m : Int) : mirM (mirM m) = m := by unfold mirM; repeat' split <;> omega
theorem mir_known (m : Int) : decide (mirM m < 5) = decide (m < 5) := by
  unfold mirM; split
  · subst_vars; rfl
  · split
    · subst_vars; rfl
    · rfl
theorem mir_range {m : Int} (h0 : 0 ≤ m) (h1 : m ≤ 255) : 0 ≤ mirM m ∧ mirM m ≤ 255 := by unfold mirM; repeat' split <;> omega
theorem inf_mirror (m : Int) : infM (mirM m) false = infM m true := by
  unfold infM mirM
  by_cases h2 : m = 2
  · subst h2; rfl
  · by_cases h3 : m = 3
    · subst h3; rfl
    · simp [h2, h3]
theorem next_none (m : Int) (ng od : Bool) : nextM m ng od 0 = false := by unfold nextM; rw [if_pos (by omega)]
theorem next_zero (ng od : Bool) (r : Int) : nextM 4 ng od r = false := by unfold nextM; split <;> rfl
theorem next_up (ng od : Bool) {r : Int} (h0 : 0 ≤ r) (h : r < 4) : (nextM 2 ng od r != nextM 3 ng od r) = (r != 0) := by
  by_cases h1 : r = 0
  · subst h1; rfl
  · have e : ∀ m, nextM m ng od r = (if m = 0 then (decide (r = 3) || (decide (r = 2) && od)) else if m = 1 then decide (r ≠ 1) else if m = 2 then !ng else if m = 3 then ng else false) := fun m => by unfold nextM; rw [if_neg (by omega)]
    rw [e, e]
    have : (r != 0) = true := by simp [h1]
    rw [this]
    cases ng <;> rfl
theorem next_more (m : Int) (ng od : Bool) {r : Int} (h0 : 0 ≤ r) (h : r < 3) (hn : nextM m ng od r = true) : nextM m ng od (r + 1) = true := by
  unfold nextM at *
  by_cases h1 : r < 1
  · rw [if_pos (Or.inl h1)] at hn; cases hn
  · rw [if_neg (by omega)] at hn ⊢
    by_cases m0 : m = 0
    · rw [if_pos m0] at hn ⊢
      simp at hn ⊢
      omega
    · rw [if_neg m0] at hn ⊢
      by_cases m1 : m = 1
      · rw [if_pos m1] at hn ⊢; simp at hn ⊢; omega
      · rw [if_neg m1] at hn ⊢; exact hn


end Go.Proofs.Ytjinnbfffalmkaa
