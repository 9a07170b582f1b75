import Derived.Laws.EntriesVeiled
import Derived.Test.YtbighggnfkdncaaGreatDoorGtE
set_option linter.unusedVariables false
set_option linter.unusedSimpArgs false
set_option maxRecDepth 100000
namespace Go.Proofs.YtbighggnfkdncaaGreatDoor
open Go.RowKit
theorem inf_fields {f b : Int} (hf : f < 4) (c : clsF f b = 3) : expF f b = 2 * fE f + 1 ∧ fracF f b = 0 := by
  unfold clsF at c; rw [if_pos hf] at c
  split at c
  · split at c <;> omega
  · split at c
    · split at c
      · rename_i a' b' c'; exact ⟨b', c'⟩
      · split at c <;> omega
    · omega
def sizeF (f b : Int) : Prop := plainF f b ∨ b = infF f false
theorem sz_size {f b : Int} (f0 : 0 ≤ f) (hf : f < 4) (b0 : 0 ≤ b) (na : nanF f b = false) : sizeF f (szF f b) := by
  have c4 : clsF f b ≤ 3 := by unfold nanF at na; have := of_decide_eq_false na; omega
  by_cases c : clsF f b = 3
  · right
    obtain ⟨x, y⟩ := inf_fields hf c
    unfold szF infF; rw [x, y]
  · left; exact (sz_same f0 hf b0 (by omega)).1
theorem plain_inf {f b : Int} (f0 : 0 ≤ f) (hf : f < 4) (p : plainF f b) : b < infF f false := by
  obtain ⟨b0, b1, c, n, k⟩ := p
  obtain ⟨x0, x1, x2, x3⟩ := exp_range f0 hf b0
  have ms := make_split f0 hf b0
  rw [n, k] at ms
  have cr := cls_range f b
  have ne : expF f b ≠ 2 * fE f + 1 := by
    intro h; unfold clsF at c; rw [if_pos hf, if_neg (by omega), if_pos h] at c; split at c
    · omega
    · split at c <;> omega
  have := make_le_max (k := fracF f b) f0 hf x0 (show expF f b ≤ 2 * fE f by omega)
  rw [ms] at this
  rw [max_inf f0 hf]; omega
end Go.Proofs.YtbighggnfkdncaaGreatDoor
