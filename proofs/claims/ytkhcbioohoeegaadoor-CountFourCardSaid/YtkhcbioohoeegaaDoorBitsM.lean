/-
  Plain arithmetic of single bits: what Go's shifts and masks come to.
-/
import Derived.Laws.BitsAllLaws
import Derived.Test.YtkhcbioohoeegaaDoorMath
set_option linter.unusedVariables false
set_option maxRecDepth 100000
namespace Go.Proofs.YtkhcbioohoeegaaDoor

def bitI (n i : Int) : Bool := decide (0 ≤ i) && decide (i < 128) && (n / 2 ^ i.toNat % 2 == 1)

theorem and_one {v : Int} (h : U64 v) : bits .and .u64 v 1 = v % 2 := by
  rw [u64_and v 1 h.1 h.2 (by omega) (by omega)]
  have e : v.toNat &&& (1 : Int).toNat = v.toNat % 2 := nat_mask1 _
  rw [e]
  have := h.1
  omega
theorem two_pow_pos (k : Nat) : (0 : Int) < 2 ^ k := Int.pow_pos (by omega)
theorem two_pow_le {j k : Nat} (h : j ≤ k) : (2 : Int) ^ j ≤ 2 ^ k := by
  induction h with
  | refl => exact Int.le_refl _
  | step _ ih => rw [Int.pow_succ]; have := two_pow_pos ‹_›; omega
theorem div_pow_u {v : Int} (h : U64 v) (k : Nat) : U64 (v / 2 ^ k) := by
  have hp := two_pow_pos k
  refine ⟨Int.ediv_nonneg h.1 (by omega), ?_⟩
  have := Int.ediv_le_self (b := 2 ^ k) h.1 
  have := h.2
  omega
theorem bit_lo {h l i : Int} (ul : U64 l) (h0 : 0 ≤ i) (h1 : i < 64) : (bits .and .u64 (l / 2 ^ i.toNat) 1 == 1) = bitI (val h l) i := by
  rw [and_one (div_pow_u ul _)]
  obtain ⟨k, rfl⟩ := Int.eq_ofNat_of_zero_le h0
  simp only [Int.toNat_natCast, bitI]
  have hk : k < 64 := by omega
  have e : val h l = l + 2 ^ k * (h * 2 ^ (63 - k) * 2) := by
    have e2 : (18446744073709551616 : Int) = 2 ^ k * (2 ^ (63 - k) * 2) := by
      rw [← Int.pow_succ, ← Int.pow_add, show k + (63 - k + 1) = 64 from by omega]; rfl
    unfold val
    rw [e2, Int.add_comm, Int.mul_left_comm, Int.mul_assoc]
  rw [e, Int.add_mul_ediv_left _ _ (by have := two_pow_pos k; omega)]
  simp only [show decide (0 ≤ (k : Int)) = true from by simp, show decide ((k : Int) < 128) = true from by simp; omega, Bool.true_and]
  congr 1
  omega
theorem bit_hi {h l i : Int} (uh : U64 h) (ul : U64 l) (h0 : 64 ≤ i) (h1 : i ≤ 127) : (bits .and .u64 (h / 2 ^ (i - 64).toNat) 1 == 1) = bitI (val h l) i := by
  rw [and_one (div_pow_u uh _)]
  obtain ⟨k, hk⟩ := Int.eq_ofNat_of_zero_le (show 0 ≤ i - 64 by omega)
  have hi : i = ((64 + k : Nat) : Int) := by omega
  rw [hk, hi]
  simp only [Int.toNat_natCast, bitI]
  have e : val h l / 2 ^ (64 + k) = h / 2 ^ k := by
    rw [Int.pow_add, ← Int.ediv_ediv_of_nonneg (by decide)]
    congr 1
    unfold U64 at ul; unfold val
    show (h * 18446744073709551616 + l) / 18446744073709551616 = h
    omega
  rw [e]
  simp only [show decide (0 ≤ ((64 + k : Nat) : Int)) = true from by simp; omega, show decide (((64 + k : Nat) : Int) < 128) = true from by simp; omega, Bool.true_and]
theorem bit_out_lo {n i : Int} (h : i < 0) : bitI n i = false := by
  unfold bitI; simp [show ¬ 0 ≤ i from by omega]
theorem bit_out_hi {n i : Int} (h : 127 < i) : bitI n i = false := by
  unfold bitI; simp [show ¬ i < 128 from by omega]

end Go.Proofs.YtkhcbioohoeegaaDoor
