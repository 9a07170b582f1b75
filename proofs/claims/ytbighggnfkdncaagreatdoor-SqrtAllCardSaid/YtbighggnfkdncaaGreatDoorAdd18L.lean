import Derived.Laws.EntriesVeiled
import Derived.Test.YtbighggnfkdncaaGreatDoorGdA
set_option linter.unusedVariables false
set_option linter.unusedSimpArgs false
set_option maxRecDepth 100000
namespace Go.Proofs.YtbighggnfkdncaaGreatDoor
open Go.RowKit
theorem inf_cut {f a : Int} (f0 : 0 ≤ f) (hf : f < 4) (a0 : 0 ≤ a) (c : clsF f a = 3) : infF f (negF f a) = cutF f a := by
  have ms := make_split f0 hf a0
  have : expF f a = 2 * fE f + 1 ∧ fracF f a = 0 := by
    unfold clsF at c; rw [if_pos hf] at c
    split at c
    · split at c <;> omega
    · split at c
      · split at c
        · rename_i a' b' c'; exact ⟨b', c'⟩
        · split at c <;> omega
      · omega
  rw [this.1, this.2] at ms; exact ms
end Go.Proofs.YtbighggnfkdncaaGreatDoor
