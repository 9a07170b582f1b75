/-
  Numbers of 128 bits, bit by bit, in two halves: and, or.
-/
import Derived.Test.YtfcffmihhpcjjaaDoorGsB
set_option linter.unusedVariables false
set_option maxRecDepth 100000
namespace Go.Proofs.YtfcffmihhpcjjaaDoor
open Go.RowKit

theorem hi_nat {N : Nat} (h : N < 340282366920938463463374607431768211456) : hiOf (N : Int) = ((N / 18446744073709551616 : Nat) : Int) := by unfold hiOf; omega
theorem lo_nat (N : Nat) : loOf (N : Int) = ((N % 18446744073709551616 : Nat) : Int) := by unfold loOf; omega
theorem and_nat_hl {A B : Nat} (hA : A < 340282366920938463463374607431768211456) (hB : B < 340282366920938463463374607431768211456) :
    bits .and .u64 (hiOf A) (hiOf B) = hiOf ((A &&& B : Nat) : Int) ∧ bits .and .u64 (loOf A) (loOf B) = loOf ((A &&& B : Nat) : Int) := by
  have hAB : A &&& B < 340282366920938463463374607431768211456 := Nat.lt_of_le_of_lt Nat.and_le_left hA
  rw [hi_nat hA, hi_nat hB, hi_nat hAB, lo_nat, lo_nat, lo_nat, u64_and_nat _ _ (by omega) (by omega), u64_and_nat _ _ (by omega) (by omega)]
  constructor
  · congr 1
    have := Nat.shiftRight_and_distrib (a := A) (b := B) (i := 64)
    simp only [Nat.shiftRight_eq_div_pow] at this
    exact this.symm
  · congr 1
    have := Nat.and_mod_two_pow (a := A) (b := B) (n := 64)
    exact this.symm
theorem or_nat_hl {A B : Nat} (hA : A < 340282366920938463463374607431768211456) (hB : B < 340282366920938463463374607431768211456) :
    bits .or .u64 (hiOf A) (hiOf B) = hiOf ((A ||| B : Nat) : Int) ∧ bits .or .u64 (loOf A) (loOf B) = loOf ((A ||| B : Nat) : Int) := by
  have hAB : A ||| B < 340282366920938463463374607431768211456 := Nat.or_lt_two_pow (n := 128) hA hB
  rw [hi_nat hA, hi_nat hB, hi_nat hAB, lo_nat, lo_nat, lo_nat, u64_or_nat _ _ (by omega) (by omega), u64_or_nat _ _ (by omega) (by omega)]
  constructor
  · congr 1
    have := Nat.shiftRight_or_distrib (a := A) (b := B) (i := 64)
    simp only [Nat.shiftRight_eq_div_pow] at this
    exact this.symm
  · congr 1
    have := Nat.or_mod_two_pow (a := A) (b := B) (n := 64)
    exact this.symm
/-- The lowest bits of a number. -/
theorem and_low (x : Int) (n : Nat) (hn : n ≤ 128) : bits .and .u64 (hiOf x) (hiOf (2 ^ n - 1)) = hiOf (x % full % 2 ^ n) ∧ bits .and .u64 (loOf x) (loOf (2 ^ n - 1)) = loOf (x % full % 2 ^ n) := by
  obtain ⟨m0, m1⟩ := mod_f x
  rw [← (hl_mod x).1, ← (hl_mod x).2]
  generalize x % full = y at *
  obtain ⟨Y, rfl⟩ := Int.eq_ofNat_of_zero_le m0
  have hY : Y < 340282366920938463463374607431768211456 := by unfold full at m1; omega
  have hp : 0 < 2 ^ n := Nat.two_pow_pos n
  have hp2 : (2 : Nat) ^ n ≤ 2 ^ 128 := Nat.pow_le_pow_right (by decide) hn
  have e1 : (2 ^ n - 1 : Int) = ((2 ^ n - 1 : Nat) : Int) := by rw [Int.ofNat_sub hp]; push_cast; rfl
  have e2 : ((Y : Int) % 2 ^ n) = ((Y &&& (2 ^ n - 1) : Nat) : Int) := by rw [Nat.and_two_pow_sub_one_eq_mod]; push_cast; rfl
  rw [e1, e2]
  exact and_nat_hl hY (by omega)
/-- A number of two parts that do not meet. -/
theorem or_sum {x y : Int} (k : Nat) (h0 : 0 ≤ x) (y0 : 0 ≤ y) (y1 : y < 2 ^ k) (h1 : x * 2 ^ k + y < full) :
    bits .or .u64 (hiOf (x * 2 ^ k)) (hiOf y) = hiOf (x * 2 ^ k + y) ∧ bits .or .u64 (loOf (x * 2 ^ k)) (loOf y) = loOf (x * 2 ^ k + y) := by
  obtain ⟨X, rfl⟩ := Int.eq_ofNat_of_zero_le h0
  obtain ⟨Y, rfl⟩ := Int.eq_ofNat_of_zero_le y0
  have hY : Y < 2 ^ k := by have : ((Y : Int)) < ((2 ^ k : Nat) : Int) := by rw [Int.natCast_pow]; exact y1
                            omega
  have e1 : (X : Int) * 2 ^ k = ((2 ^ k * X : Nat) : Int) := by rw [Nat.mul_comm]; push_cast; rfl
  have e2 : (X : Int) * 2 ^ k + (Y : Int) = ((2 ^ k * X ||| Y : Nat) : Int) := by rw [← Nat.two_pow_add_eq_or_of_lt hY, e1]; push_cast; rfl
  rw [e1] at h1
  have h2 : 2 ^ k * X < 340282366920938463463374607431768211456 := by unfold full at h1; omega
  have h3 : Y < 340282366920938463463374607431768211456 := by unfold full at h1; omega
  rw [e2, e1]
  exact or_nat_hl h2 h3
theorem ones_right (n : Nat) (hn : n ≤ 128) : (340282366920938463463374607431768211455 : Int) % full / 2 ^ (128 - n) = 2 ^ n - 1 := by
  have e : (2 : Int) ^ n * 2 ^ (128 - n) = 340282366920938463463374607431768211456 := by rw [← Int.pow_add, show n + (128 - n) = 128 by omega]; rfl
  have hp := two_pow_pos (128 - n)
  rw [show (340282366920938463463374607431768211455 : Int) % full = 340282366920938463463374607431768211455 from by decide +kernel]
  have h1 : (340282366920938463463374607431768211455 : Int) = (2 ^ (128 - n) - 1) + (2 ^ n - 1) * 2 ^ (128 - n) := by rw [Int.sub_mul, e]; omega
  rw [h1, Int.add_mul_ediv_right _ _ (by omega), Int.ediv_eq_zero_of_lt (by omega) (by omega), Int.zero_add]
theorem hl_small {x : Int} (h : U64 x) : hiOf x = 0 ∧ loOf x = x := by obtain ⟨h0, h1⟩ := h; unfold hiOf loOf; omega

end Go.Proofs.YtfcffmihhpcjjaaDoor
