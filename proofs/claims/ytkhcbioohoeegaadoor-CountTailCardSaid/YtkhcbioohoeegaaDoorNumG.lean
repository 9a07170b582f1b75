/-
  Contracts of the document's own numbers: Bit.
-/
import Derived.Test.YtkhcbioohoeegaaDoorNumF
set_option linter.unusedVariables false
set_option maxRecDepth 100000
namespace Go.Proofs.YtkhcbioohoeegaaDoor
open Go.RowKit

/-- Is bit i of n 1? -/
def bitN (n i : Int) : Bool := decide (0 ≤ i) && (n / 2 ^ i.toNat % 2 == 1)

theorem num_digit {ds : List Int} (h : Digs ds) (k : Nat) : ∃ r, num ds / bp k = ds.getD k 0 + 4294967296 * r := by
  by_cases hl : k < ds.length
  · refine ⟨num (ds.drop (k + 1)), ?_⟩
    have e : num ds = num (ds.take k) + bp k * (ds.getD k 0 + 4294967296 * num (ds.drop (k + 1))) := by
      have e2 : num ds = num (ds.take (k + 1)) + bp (k + 1) * num (ds.drop (k + 1)) := by
        conv => lhs; rw [← List.take_append_drop (k + 1) ds, num_append, List.length_take, Nat.min_eq_left (by omega)]
      rw [num_take, bp_succ] at e2
      rw [e2, Int.mul_add, ← Int.mul_assoc, Int.mul_comm (bp k) 4294967296]; omega
    have h1 := num_nonneg (digs_take h k)
    have h2 := num_lt (digs_take h k)
    rw [List.length_take, Nat.min_eq_left (by omega)] at h2
    rw [e, Int.add_mul_ediv_left _ _ (by have := bp_pos k; omega), Int.ediv_eq_zero_of_lt h1 h2]; omega
  · refine ⟨0, ?_⟩
    have h1 := num_nonneg h
    have h2 := num_lt h
    have h3 := bp_le (show ds.length ≤ k by omega)
    rw [Int.ediv_eq_zero_of_lt h1 (by omega), List.getD_eq_getElem?_getD, List.getElem?_eq_none (by omega)]
    rfl
theorem and_one32 {v : Int} (h : D32 v) : bits .and .u32 v 1 = v % 2 := by
  rw [u32_and v 1 h.1 h.2 (by omega) (by omega)]
  have e : v.toNat &&& (1 : Int).toNat = v.toNat % 2 := nat_mask1 _
  rw [e]
  have := h.1
  omega
theorem div_pow_d {v : Int} (h : D32 v) (k : Nat) : D32 (v / 2 ^ k) := by
  have hp := two_pow_pos k
  refine ⟨Int.ediv_nonneg h.1 (by omega), ?_⟩
  have := Int.ediv_le_self (b := 2 ^ k) h.1
  have := h.2
  omega
theorem bit_digit {ds : List Int} (h : Digs ds) (N q r : Nat) (hN : N = 32 * q + r) (hr : r < 32) : (bits .and .u32 (ds.getD q 0 / 2 ^ r) 1 == 1) = bitN (num ds) N := by
  rw [and_one32 (div_pow_d (getD_d32 h q) r)]
  unfold bitN
  simp only [Int.toNat_natCast, show decide (0 ≤ (N : Int)) = true from by simp, Bool.true_and]
  obtain ⟨R, hR⟩ := num_digit h q
  have e : num ds / 2 ^ N = (ds.getD q 0 + 4294967296 * R) / 2 ^ r := by
    rw [hN, Int.pow_add, ← Int.ediv_ediv_of_nonneg (by have := two_pow_pos (32 * q); omega), ← bp_two, hR]
  have e2 : ds.getD q 0 + 4294967296 * R = ds.getD q 0 + 2 ^ r * (2 ^ (31 - r) * 2 * R) := by
    have e3 : (4294967296 : Int) = 2 ^ r * (2 ^ (31 - r) * 2) := by
      rw [← Int.pow_succ, ← Int.pow_add, show r + (31 - r + 1) = 32 from by omega]; rfl
    rw [← Int.mul_assoc, ← e3]
  rw [e, e2, Int.add_mul_ediv_left _ _ (by have := two_pow_pos r; omega)]
  congr 1
  have e4 : (2 : Int) ^ (31 - r) * 2 * R = 2 * (2 ^ (31 - r) * R) := by
    rw [Int.mul_comm (2 ^ (31 - r)) 2, Int.mul_assoc]
  omega

set_option maxHeartbeats 1000000 in
theorem bit_ref {ao : Option Addr} {n c : Nat} {a : List Int} {w : World} (x : Dig w ao n c a) (i : Int) (i1 : -9223372036854775808 ≤ i) (i2 : i ≤ 9223372036854775807) :
    Calls Tryd.prog 46 #[.slice ao n c, .int .i64 i] w fun e w' => e = .returned (.bool (bitN (num a) i)) ∧ w = w' := by
  by_cases h0 : i < 0
  · have e : bitN (num a) i = false := by unfold bitN; simp [show ¬ 0 ≤ i from by omega]
    rw [e]
    have hd : decide (0 ≤ i) = false := by simp; omega
    clear x e i1 i2
    go_enter Tryd.func46, Tryd.ntmps46
    go_wp2_with fail
    go_ret
    exact ⟨rfl, rfl⟩
  · obtain ⟨N, rfl⟩ := Int.eq_ofNat_of_zero_le (show 0 ≤ i by omega)
    have hN : N = 32 * (N / 32) + N % 32 := by omega
    have e := bit_digit x.2.2.2.1 N (N / 32) (N % 32) hN (by omega)
    rw [← e]
    have cd := digit_any x ((N : Int) / 32) (N / 32) (by omega)
    have hd := getD_d32 x.2.2.2.1 (N / 32)
    have hr : (N : Int) % 32 = ((N % 32 : Nat) : Int) := by omega
    have hr2 : N % 32 < 32 := by omega
    generalize a.getD (N / 32) 0 = d at *
    generalize N % 32 = r at *
    have CD := Lib.hid cd
    obtain ⟨d0, d1⟩ := hd
    clear x e cd i1 hN
    go_enter Tryd.func46, Tryd.ntmps46
    go_wp2_with fail
    (with_reducible refine CD.out.mono ?_); rintro e w1 ⟨rfl, rfl⟩
    go_wp2_with fail
    go_ret
    exact ⟨rfl, rfl⟩
theorem bit_num {w : World} {v : Value} {n : Int} (x : IsNum w v n) (i : Int) (i1 : -9223372036854775808 ≤ i) (i2 : i ≤ 9223372036854775807) :
    Calls Tryd.prog 46 #[v, .int .i64 i] w fun e w' => e = .returned (.bool (bitN n i)) ∧ Below w.heap.size w w' := by
  obtain ⟨ao, k, cap, ds, rfl, h1, rfl, h3⟩ := x
  exact (bit_ref h1 i i1 i2).mono fun e w' ⟨he, hw⟩ => ⟨he, hw ▸ Below.refl _ _⟩
theorem bitN_I {n i : Int} (h : i < 128) : bitN n i = bitI n i := by
  unfold bitN bitI
  simp [h]
theorem zero_len {w : World} {ao : Option Addr} {k cap : Nat} {ds : List Int} (h : Dig w ao k cap ds) (hn : Norm ds) : k = 0 ↔ num ds = 0 := by
  have hl := h.1
  constructor
  · intro h0
    have : ds = [] := List.eq_nil_of_length_eq_zero (by omega)
    subst this; rfl
  · intro h0
    have := norm_len h.2.2.2.1 hn (k := 0) (by rw [h0]; decide)
    omega

end Go.Proofs.YtkhcbioohoeegaaDoor
