/-
  Contracts of the document's own numbers: Shr, Cut.
-/
import Derived.Test.YtkhcbioohoeegaaDoorNumG
set_option linter.unusedVariables false
set_option maxRecDepth 100000
namespace Go.Proofs.YtkhcbioohoeegaaDoor
open Go.RowKit

/-- Two digits of X beside one another, shifted. -/
theorem shr_digit {ds : List Int} (h : Digs ds) (q r k : Nat) (hr : r < 32) : ((ds.getD (q + k) 0 + ds.getD (q + k + 1) 0 * 4294967296) / 2 ^ r) % 4294967296 = num ds / bp q / 2 ^ r / bp k % 4294967296 := by
  obtain ⟨R, hR⟩ := num_digit h (q + k)
  obtain ⟨R2, hR2⟩ := num_digit h (q + k + 1)
  have e1 : num ds / bp (q + k + 1) = num ds / bp (q + k) / 4294967296 := by
    rw [bp_succ, Int.mul_comm, Int.ediv_ediv_of_nonneg (by have := bp_pos (q + k); omega)]
  have hd := getD_d32 h (q + k)
  have e2 : num ds / bp q / 2 ^ r / bp k = num ds / bp (q + k) / 2 ^ r := by
    have p1 := bp_pos q; have p2 := bp_pos k; have p3 := two_pow_pos r
    rw [bp_add, Int.ediv_ediv_of_nonneg (by omega), Int.ediv_ediv_of_nonneg (by have := Int.mul_pos p1 p3; omega), Int.ediv_ediv_of_nonneg (by have := Int.mul_pos p1 p2; omega)]
    congr 1
    simp only [Int.mul_assoc, Int.mul_comm (2 ^ r) (bp k)]
  rw [e2]
  rw [e1, hR] at hR2
  unfold D32 at hd
  have e3 : R = ds.getD (q + k + 1) 0 + 4294967296 * R2 := by omega
  rw [hR, e3]
  generalize ds.getD (q + k) 0 = x at *
  generalize ds.getD (q + k + 1) 0 = y at *
  have e4 : x + 4294967296 * (y + 4294967296 * R2) = (x + y * 4294967296) + 2 ^ r * (4294967296 * 2 ^ (32 - r) * R2) := by
    have e5 : (4294967296 : Int) = 2 ^ r * 2 ^ (32 - r) := by
      rw [← Int.pow_add, show r + (32 - r) = 32 from by omega]; rfl
    have e6 : (2 : Int) ^ r * (4294967296 * 2 ^ (32 - r) * R2) = 4294967296 * (4294967296 * R2) := by
      have e8 : (2 : Int) ^ r * (4294967296 * 2 ^ (32 - r) * R2) = 4294967296 * (2 ^ r * 2 ^ (32 - r) * R2) := by
        simp only [Int.mul_assoc, Int.mul_left_comm]
      rw [e8, ← e5]
    rw [e6]; omega
  rw [e4, Int.add_mul_ediv_left _ _ (by have := two_pow_pos r; omega)]
  have e7 : (4294967296 : Int) * 2 ^ (32 - r) * R2 = 4294967296 * (2 ^ (32 - r) * R2) := Int.mul_assoc ..
  rw [e7]; omega
theorem mod_step (X : Int) (k : Nat) : X % bp (k + 1) = X % bp k + bp k * (X / bp k % 4294967296) := by
  have p1 := bp_pos k
  have e1 := Int.emod_add_mul_ediv X (bp k)
  have e2 := Int.emod_add_mul_ediv (X / bp k) 4294967296
  have e3 := Int.emod_add_mul_ediv X (bp (k + 1))
  have e4 : X / bp (k + 1) = X / bp k / 4294967296 := by rw [bp_succ, Int.mul_comm, Int.ediv_ediv_of_nonneg (by omega)]
  rw [e4, bp_succ] at e3
  have e5 : 4294967296 * bp k * (X / bp k / 4294967296) = bp k * (4294967296 * (X / bp k / 4294967296)) := by rw [Int.mul_comm 4294967296, Int.mul_assoc]
  have e6 : bp k * (X / bp k) = bp k * (X / bp k % 4294967296) + bp k * (4294967296 * (X / bp k / 4294967296)) := by rw [← Int.mul_add, e2]
  rw [bp_succ]
  omega

theorem cell_new1 (w : World) (v : Value) (t : TypeId) : (w.alloc (.cells #[v] t)).cell? ⟨w.heap.size, 0, none⟩ = some v := by go_simp
/-- At the head of a round of Shr: k digits are out. -/
def ShrInv (w : World) (X : Int) (k : Nat) (v : Value) (wr : World) : Prop :=
  ∃ os : List Int, os.length = k ∧ Own wr w.heap.size v os ∧ num os = X % bp k ∧ Below w.heap.size w wr



end Go.Proofs.YtkhcbioohoeegaaDoor
