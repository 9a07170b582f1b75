/-
  Contracts of the document's own numbers: Len.
-/
import Derived.Test.YtidppeaianpojaaNumH
set_option linter.unusedVariables false
namespace Go.Proofs.Ytidppeaianpojaa
open Go.RowKit

/-- How many bits n has. -/
def blen (n : Int) : Nat := if n ≤ 0 then 0 else n.toNat.log2 + 1
theorem blen_of {n : Int} {j : Nat} (h0 : 2 ^ j ≤ n) (h1 : n < 2 ^ (j + 1)) : blen n = j + 1 := by
  have hp := two_pow_pos j
  obtain ⟨N, rfl⟩ := Int.eq_ofNat_of_zero_le (show 0 ≤ n by omega)
  unfold blen
  rw [if_neg (by omega), Int.toNat_natCast]
  have e0 : ((2 ^ j : Nat) : Int) = 2 ^ j := by simp
  have e1 : ((2 ^ (j + 1) : Nat) : Int) = 2 ^ (j + 1) := by simp
  have hN : N ≠ 0 := by omega
  have a1 : j ≤ N.log2 := (Nat.le_log2 hN).2 (by omega)
  have a2 : N.log2 < j + 1 := (Nat.log2_lt hN).2 (by omega)
  omega
theorem blen_zero : blen 0 = 0 := rfl
theorem blen_bounds {n : Int} (h : 0 < n) : ∃ j, blen n = j + 1 ∧ 2 ^ j ≤ n ∧ n < 2 ^ (j + 1) := by
  obtain ⟨N, rfl⟩ := Int.eq_ofNat_of_zero_le (show 0 ≤ n by omega)
  have hN : N ≠ 0 := by omega
  refine ⟨N.log2, ?_, ?_, ?_⟩
  · unfold blen; rw [if_neg (by omega), Int.toNat_natCast]
  · have e0 : ((2 ^ N.log2 : Nat) : Int) = 2 ^ N.log2 := by simp
    have := (Nat.le_log2 hN).1 (Nat.le_refl _)
    omega
  · have e1 : ((2 ^ (N.log2 + 1) : Nat) : Int) = 2 ^ (N.log2 + 1) := by simp
    have := (Nat.log2_lt hN).1 (Nat.lt_succ_self _)
    omega
theorem lt_blen (n : Int) (h : 0 ≤ n) : n < 2 ^ blen n := by
  by_cases h0 : n = 0
  · subst h0; decide
  · obtain ⟨j, e, _, h2⟩ := blen_bounds (show 0 < n by omega)
    rw [e]; exact h2
theorem len_top {ds : List Int} (h : Digs ds) {m s : Nat} (hm : ds.length = m + 1) (hs : s ≤ 31) (h1 : 2147483648 ≤ ds.getD m 0 * 2 ^ s) (h2 : ds.getD m 0 * 2 ^ s < 4294967296) : blen (num ds) = 32 * (m + 1) - s := by
  have e : num ds = num (ds.take m) + bp m * ds.getD m 0 := by
    have := num_take ds m
    rwa [List.take_of_length_le (by omega)] at this
  have h3 := num_nonneg (digs_take h m)
  have h4 := num_lt (digs_take h m)
  rw [List.length_take, Nat.min_eq_left (by omega)] at h4
  have hp := bp_pos m
  have hq := two_pow_pos s
  generalize ds.getD m 0 = d at *
  -- 2^(31 - s) ≤ d < 2^(32 - s)
  have p31 : (2147483648 : Int) = 2 ^ (31 - s) * 2 ^ s := by rw [← Int.pow_add, show 31 - s + s = 31 from by omega]; rfl
  have p32 : (4294967296 : Int) = 2 ^ (32 - s) * 2 ^ s := by rw [← Int.pow_add, show 32 - s + s = 32 from by omega]; rfl
  have d1 : 2 ^ (31 - s) ≤ d := by
    rw [p31] at h1; exact Int.le_of_mul_le_mul_right h1 hq
  have d2 : d < 2 ^ (32 - s) := by
    rw [p32] at h2; exact Int.lt_of_mul_lt_mul_right h2 (by omega)
  rw [show 32 * (m + 1) - s = (32 * m + (31 - s)) + 1 from by omega]
  refine blen_of ?_ ?_
  · rw [Int.pow_add, ← bp_two, e]
    have : bp m * 2 ^ (31 - s) ≤ bp m * d := Int.mul_le_mul_of_nonneg_left d1 (by omega)
    omega
  · rw [show 32 * m + (31 - s) + 1 = 32 * m + (32 - s) from by omega, Int.pow_add, ← bp_two, e]
    have : bp m * (d + 1) ≤ bp m * 2 ^ (32 - s) := Int.mul_le_mul_of_nonneg_left (by omega) (by omega)
    rw [Int.mul_add] at this
    omega


end Go.Proofs.Ytidppeaianpojaa
