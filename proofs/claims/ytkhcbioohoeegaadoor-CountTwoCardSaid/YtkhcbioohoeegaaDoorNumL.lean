/-
  Contracts of the document's own numbers: Len.
-/
import Derived.Test.YtkhcbioohoeegaaDoorNumH
set_option linter.unusedVariables false
set_option maxRecDepth 100000
namespace Go.Proofs.YtkhcbioohoeegaaDoor
open Go.RowKit

/-- How many bits n has. -/
def blen (n : Int) : Nat := if n ≤ 0 then 0 else n.toNat.log2 + 1
theorem blen_of {n : Int} {j : Nat} (h0 : 2 ^ j ≤ n) (h1 : n < 2 ^ (j + 1)) : blen n = j + 1 := by
  have hp := two_pow_pos j
  obtain ⟨N, rfl⟩ := Int.eq_ofNat_of_zero_le (show 0 ≤ n by omega)
  unfold blen
  rw [if_neg (by omega), Int.toNat_natCast]
  have e0 : ((2 ^ j : Nat) : Int) = 2 ^ j := by simp
  have e1 : ((2 ^ (j + 1) : Nat) : Int) = 2 ^ (j + 1) := by simp
  have hN : N ≠ 0 := by omega
  have a1 : j ≤ N.log2 := (Nat.le_log2 hN).2 (by omega)
  have a2 : N.log2 < j + 1 := (Nat.log2_lt hN).2 (by omega)
  omega
theorem blen_zero : blen 0 = 0 := rfl
theorem blen_bounds {n : Int} (h : 0 < n) : ∃ j, blen n = j + 1 ∧ 2 ^ j ≤ n ∧ n < 2 ^ (j + 1) := by
  obtain ⟨N, rfl⟩ := Int.eq_ofNat_of_zero_le (show 0 ≤ n by omega)
  have hN : N ≠ 0 := by omega
  refine ⟨N.log2, ?_, ?_, ?_⟩
  · unfold blen; rw [if_neg (by omega), Int.toNat_natCast]
  · have e0 : ((2 ^ N.log2 : Nat) : Int) = 2 ^ N.log2 := by simp
    have := (Nat.le_log2 hN).1 (Nat.le_refl _)
    omega
  · have e1 : ((2 ^ (N.log2 + 1) : Nat) : Int) = 2 ^ (N.log2 + 1) := by simp
    have := (Nat.log2_lt hN).1 (Nat.lt_succ_self _)
    omega
theorem lt_blen (n : Int) (h : 0 ≤ n) : n < 2 ^ blen n := by
  by_cases h0 : n = 0
  · subst h0; decide
  · obtain ⟨j, e, _, h2⟩ := blen_bounds (show 0 < n by omega)
    rw [e]; exact h2
theorem len_top {ds : List Int} (h : Digs ds) {m s : Nat} (hm : ds.length = m + 1) (hs : s ≤ 31) (h1 : 2147483648 ≤ ds.getD m 0 * 2 ^ s) (h2 : ds.getD m 0 * 2 ^ s < 4294967296) : blen (num ds) = 32 * (m + 1) - s := by
  have e : num ds = num (ds.take m) + bp m * ds.getD m 0 := by
    have := num_take ds m
    rwa [List.take_of_length_le (by omega)] at this
  have h3 := num_nonneg (digs_take h m)
  have h4 := num_lt (digs_take h m)
  rw [List.length_take, Nat.min_eq_left (by omega)] at h4
  have hp := bp_pos m
  have hq := two_pow_pos s
  generalize ds.getD m 0 = d at *
  -- 2^(31 - s) ≤ d < 2^(32 - s)
  have p31 : (2147483648 : Int) = 2 ^ (31 - s) * 2 ^ s := by rw [← Int.pow_add, show 31 - s + s = 31 from by omega]; rfl
  have p32 : (4294967296 : Int) = 2 ^ (32 - s) * 2 ^ s := by rw [← Int.pow_add, show 32 - s + s = 32 from by omega]; rfl
  have d1 : 2 ^ (31 - s) ≤ d := by
    rw [p31] at h1; exact Int.le_of_mul_le_mul_right h1 hq
  have d2 : d < 2 ^ (32 - s) := by
    rw [p32] at h2; exact Int.lt_of_mul_lt_mul_right h2 (by omega)
  rw [show 32 * (m + 1) - s = (32 * m + (31 - s)) + 1 from by omega]
  refine blen_of ?_ ?_
  · rw [Int.pow_add, ← bp_two, e]
    have : bp m * 2 ^ (31 - s) ≤ bp m * d := Int.mul_le_mul_of_nonneg_left d1 (by omega)
    omega
  · rw [show 32 * m + (31 - s) + 1 = 32 * m + (32 - s) from by omega, Int.pow_add, ← bp_two, e]
    have : bp m * (d + 1) ≤ bp m * 2 ^ (32 - s) := Int.mul_le_mul_of_nonneg_left (by omega) (by omega)
    rw [Int.mul_add] at this
    omega

set_option maxHeartbeats 2000000 in
theorem len_ref {ao : Option Addr} {n c : Nat} {a : List Int} {w : World} (x : Dig w ao n c a) (hnorm : Norm a) :
    Calls Tryd.prog 14 #[.slice ao n c] w fun e w' => e = .returned (.int .i64 (blen (num a))) ∧ w = w' := by
  have hN := x.2.2.1
  by_cases h0 : n = 0
  · subst h0
    have e : a = [] := List.eq_nil_of_length_eq_zero x.1.symm
    subst e
    clear x hnorm
    go_enter Tryd.func14, Tryd.ntmps14
    go_wp2_with fail
    go_ret
    exact ⟨rfl, rfl⟩
  · obtain ⟨m, rfl⟩ : ∃ m, n = m + 1 := ⟨n - 1, by omega⟩
    obtain ⟨g, hao, hg, hc⟩ := x.2.2.2.2 (by omega)
    subst hao
    have ca := hc m (by omega)
    have hd := getD_d32 x.2.2.2.1 m
    have hge := norm_ge x.2.2.2.1 hnorm x.1.symm
    have top := fun s hs h1 h2 => len_top x.2.2.2.1 (m := m) (s := s) x.1.symm hs h1 h2
    have hpos : 1 ≤ a.getD m 0 := by
      have e : num a = num (a.take m) + bp m * a.getD m 0 := by
        have := num_take a m
        rwa [List.take_of_length_le (by have := x.1; omega)] at this
      have h4 := num_lt (digs_take x.2.2.2.1 m)
      rw [List.length_take, Nat.min_eq_left (by have := x.1; omega)] at h4
      rcases Int.lt_or_le 0 (a.getD m 0) with h | h
      · omega
      · have : a.getD m 0 = 0 := by unfold D32 at hd; omega
        rw [this, Int.mul_zero] at e; omega
    have T := Lib.hid top
    have hne : ((32 * ((m : Int) + 1)) == 0) = false := by simp; omega
    clear x hnorm hc hg hge top h0
    generalize a.getD m 0 = d at *
    obtain ⟨d0, d1⟩ := hd
    go_enter Tryd.func14, Tryd.ntmps14
    go_wp2_with fail
    go_loop [3, 4] (fun nv tv => ∃ s : Nat, s ≤ 31 ∧ d * 2 ^ s < 4294967296 ∧ nv = .int .i64 (32 * ((m : Int) + 1) - s) ∧ tv = .int .u32 (d * 2 ^ s)) (fun nv _ => (intOf nv).toNat)
    case atStart => exact ⟨0, by omega, by simpa using d1, by simp, by simp⟩
    case round =>
      obtain ⟨s, hs, hlt, rfl, rfl⟩ := hrel
      by_cases hgo : d * 2 ^ s < 2147483648
      · have e2 : d * 2 ^ s * 2 = d * 2 ^ (s + 1) := by rw [Int.pow_succ, Int.mul_assoc]
        have hs31 : s + 1 ≤ 31 := by
          rcases Nat.lt_or_ge s 31 with h | h
          · omega
          · obtain rfl : s = 31 := by omega
            have : (1 : Int) * 2 ^ 31 ≤ d * 2 ^ 31 := Int.mul_le_mul_of_nonneg_right hpos (by decide)
            simp at this; omega
        have E2 := Lib.hid e2
        have t0 : 0 ≤ d * 2 ^ s := Int.mul_nonneg d0 (by have := two_pow_pos s; omega)
        generalize hx : d * 2 ^ s = t at *
        clear hx e2
        go_wp2_with fail
        go_round
        case rel => exact ⟨s + 1, hs31, by rw [← E2.out]; omega, by go_num, by rw [E2.out]⟩
        case measure => simp [intOf]; omega
      · have e : ((blen (num a) : Nat) : Int) = 32 * ((m : Int) + 1) - s := by
          rw [T.out s hs (by omega) hlt]; omega
        have E := Lib.hid e
        generalize d * 2 ^ s = t at *
        clear e
        go_wp2_with fail
        go_ret
        exact ⟨by rw [E.out]; rfl, rfl⟩
theorem len_num {w : World} {v : Value} {n : Int} (x : IsNum w v n) :
    Calls Tryd.prog 14 #[v] w fun e w' => e = .returned (.int .i64 (blen n)) ∧ w = w' := by
  obtain ⟨ao, k, cap, ds, rfl, h1, rfl, h3⟩ := x
  exact len_ref h1 h3

end Go.Proofs.YtkhcbioohoeegaaDoor
