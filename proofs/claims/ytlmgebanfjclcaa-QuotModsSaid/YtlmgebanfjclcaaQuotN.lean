/-
  What the rounds of Div make is the quotient and the rest.
-/
import Derived.Test.YtlmgebanfjclcaaQuotD
set_option linter.unusedVariables false
set_option linter.unusedSimpArgs false
set_option maxRecDepth 100000
namespace Go.Proofs.Ytlmgebanfjclcaa
open Go.RowKit

def tup (x : Int) : Int × Int × Int × Int := (wd0 x, wd1 x, wd2 x, wd3 x)
theorem upLo_bit {p : Int} (hp : p = 0 ∨ p = 1) {m : Nat} (hm : m < 64) : upLo p m = p * 2 ^ m := by
  unfold upLo
  have h := two_pow_le (show m ≤ 63 by omega)
  have h0 := two_pow_pos m
  have e : (2 : Int) ^ 63 = 9223372036854775808 := rfl
  rcases hp with rfl | rfl
  · simp
  · rw [Int.one_mul]; omega
/-- A bit put into a digit whose lower bits, and that one, are 0. -/
theorem or_low {v p : Int} {m : Nat} (hm : m < 64) (hv : U64 v) (h : v % 2 ^ (m + 1) = 0) (hp : p = 0 ∨ p = 1) : bits .or .u64 v (upLo p m) = v + p * 2 ^ m ∧ U64 (v + p * 2 ^ m) := by
  rw [upLo_bit hp hm]
  have h0 := two_pow_pos m
  have e1 : (2 : Int) ^ (m + 1) = 2 * 2 ^ m := by rw [Int.pow_succ, Int.mul_comm]
  have e2 : (2 : Int) ^ (m + 1) * 2 ^ (64 - (m + 1)) = 18446744073709551616 := by rw [← Int.pow_add, show m + 1 + (64 - (m + 1)) = 64 by omega]; rfl
  have hd := Int.emod_add_mul_ediv v (2 ^ (m + 1))
  rw [h, Int.zero_add] at hd
  have k0 : 0 ≤ v / 2 ^ (m + 1) := Int.ediv_nonneg hv.1 (by omega)
  have k1 : v / 2 ^ (m + 1) < 2 ^ (64 - (m + 1)) := by
    refine Int.ediv_lt_of_lt_mul (by omega) ?_
    rw [Int.mul_comm, e2]; exact hv.2
  have q0 : 0 ≤ p * 2 ^ m ∧ p * 2 ^ m < 2 ^ (m + 1) := by rcases hp with rfl | rfl <;> simp <;> omega
  have key := or_add (p := m + 1) (by omega) k0 k1 q0.1 q0.2
  have sum := mul_add_lt (two_pow_pos (m + 1)) k0 k1 q0.1 q0.2
  rw [hd] at key sum
  rw [e2] at sum
  exact ⟨key, sum.1, sum.2⟩
theorem wd_low (Q : Int) (c m : Nat) (hm : m < 64) : 2 ^ (64 * c + m + 1) * Q / 18446744073709551616 ^ c % 18446744073709551616 % 2 ^ (m + 1) = 0 := by
  have e : (2 : Int) ^ (64 * c + m + 1) * Q = 18446744073709551616 ^ c * (2 ^ (m + 1) * Q) := by
    rw [show 64 * c + m + 1 = 64 * c + (m + 1) by omega, pow_64, Int.mul_comm (2 ^ (m + 1)), Int.mul_assoc]
  rw [e, Int.mul_ediv_cancel_left _ (by have : (0 : Int) < 18446744073709551616 ^ c := Int.pow_pos (by decide); omega)]
  have e2 : (18446744073709551616 : Int) = 2 ^ (m + 1) * 2 ^ (63 - m) := by rw [← Int.pow_add, show m + 1 + (63 - m) = 64 by omega]; rfl
  rw [e2, Int.mul_emod_mul_of_pos _ _ (two_pow_pos (m + 1))]
  exact Int.mul_emod_right ..
theorem orW_num (X Q p : Int) (k : Nat) (hk : k < 256) (hX : X = 2 ^ (k + 1) * Q) (h0 : 0 ≤ X) (h1 : X < wfull) (hp : p = 0 ∨ p = 1) : orW k p (tup X) = tup (X + p * 2 ^ k) := by
  obtain ⟨c, hc⟩ : ∃ c, k / 64 = c := ⟨_, rfl⟩
  obtain ⟨m, hm⟩ : ∃ m, k % 64 = m := ⟨_, rfl⟩
  have hm64 : m < 64 := by omega
  have hk2 : k = 64 * c + m := by omega
  have low := wd_low Q c m hm64
  rw [← hk2, ← hX] at low
  have ew : (2 : Int) ^ k = 2 ^ m * 18446744073709551616 ^ c := by rw [hk2, pow_64]
  have wv := wval_wd h0 h1
  have u0 := wd0_u X; have u1 := wd1_u X; have u2 := wd2_u X; have u3 := wd3_u X
  have e2 : (18446744073709551616 : Int) ^ 2 = 340282366920938463463374607431768211456 := by decide +kernel
  have e3 : (18446744073709551616 : Int) ^ 3 = 6277101735386680763835789423207666416102355444464034512896 := by decide +kernel
  unfold orW tup
  rw [hc, hm]
  obtain rfl | rfl | rfl | rfl : c = 0 ∨ c = 1 ∨ c = 2 ∨ c = 3 := by omega
  · rw [Int.pow_zero, Int.ediv_one] at low
    obtain ⟨a, b⟩ := or_low hm64 u0 low hp
    obtain ⟨d0, d1, d2, d3⟩ := wd_of (n := X + p * 2 ^ k) (c := 0) b u1 u2 u3 (by rw [ew, Int.pow_zero, Int.mul_one]; unfold wval at *; generalize p * 2 ^ m = z at *; omega)
    rw [if_pos rfl, d0, d1, d2, d3]
    dsimp only; rw [a]
  · rw [Int.pow_succ, Int.pow_zero, Int.one_mul] at low
    obtain ⟨a, b⟩ := or_low hm64 u1 low hp
    obtain ⟨d0, d1, d2, d3⟩ := wd_of (n := X + p * 2 ^ k) (c := 0) u0 b u2 u3 (by rw [ew, Int.pow_succ 18446744073709551616 0, Int.pow_zero, Int.one_mul, ← Int.mul_assoc]; unfold wval at *; generalize p * 2 ^ m = z at *; omega)
    rw [if_neg (by decide), if_pos rfl, d0, d1, d2, d3]
    dsimp only; rw [a]
  · rw [e2] at low
    obtain ⟨a, b⟩ := or_low hm64 u2 low hp
    obtain ⟨d0, d1, d2, d3⟩ := wd_of (n := X + p * 2 ^ k) (c := 0) u0 u1 b u3 (by rw [ew, e2, ← Int.mul_assoc]; unfold wval at *; generalize p * 2 ^ m = z at *; omega)
    rw [if_neg (by decide), if_neg (by decide), if_pos rfl, d0, d1, d2, d3]
    dsimp only; rw [a]
  · rw [e3] at low
    obtain ⟨a, b⟩ := or_low hm64 u3 low hp
    obtain ⟨d0, d1, d2, d3⟩ := wd_of (n := X + p * 2 ^ k) (c := 0) u0 u1 u2 b (by rw [ew, e3, ← Int.mul_assoc]; unfold wval at *; generalize p * 2 ^ m = z at *; omega)
    rw [if_neg (by decide), if_neg (by decide), if_neg (by decide), d0, d1, d2, d3]
    dsimp only; rw [a]

/-- The state behind j rounds: the bits from k = L - j up have been taken. -/
theorem stQ_top (n d : Int) (L : Nat) (hL : L ≤ 256) (hn : n % wfull < 2 ^ L) (hD : 0 < d % full) : ∀ j k : Nat, j + k = L →
    stQ n d (topL L j) = (tup (n % wfull / 2 ^ k / (d % full) * 2 ^ k), n % wfull / 2 ^ k % (d % full)) := by
  obtain ⟨N, hN⟩ : ∃ N, n % wfull = N := ⟨_, rfl⟩
  obtain ⟨D, hD2⟩ : ∃ D, d % full = D := ⟨_, rfl⟩
  have N0 : 0 ≤ N := hN ▸ (mod_w n).1
  have N1 : N < wfull := hN ▸ (mod_w n).2
  have D1 : D < full := hD2 ▸ (mod_f d).2
  rw [hN] at hn ⊢
  rw [hD2] at hD ⊢
  have bit : ∀ i : Nat, i < 256 → n / 2 ^ i % 2 = N / 2 ^ i % 2 := fun i hi => by
    rw [← hN]
    have e : wfull = 2 ^ i * (2 * 2 ^ (255 - i)) := by
      rw [← wfull_pow, ← Int.pow_succ', ← Int.pow_add, show i + (255 - i + 1) = 256 by omega]
    rw [Int.emod_def n wfull, e]
    have hp := two_pow_pos i
    generalize (2 : Int) ^ i = P at *
    generalize (2 : Int) ^ (255 - i) = R at *
    rw [Int.mul_assoc P, Int.sub_eq_add_neg, ← Int.mul_neg, Int.add_mul_ediv_left _ _ (by omega), Int.mul_assoc 2 R, ← Int.mul_neg]
    generalize -(R * _) = z
    omega
  intro j
  induction j with
  | zero =>
    intro k hk
    obtain rfl : k = L := by omega
    have z : N / 2 ^ k = 0 := Int.ediv_eq_zero_of_lt N0 hn
    rw [z]
    simp [topL, stQ, tup, wd0, wd1, wd2, wd3]
  | succ j ih =>
    intro k hk
    have h := ih (k + 1) (by omega)
    have kx : (Fin.ofNat 256 (L - 1 - j)).val = k := by show (L - 1 - j) % 256 = k; omega
    show stQ n d (topL L j ++ [_]) = _
    rw [stQ_snoc, h]
    unfold stepQ
    rw [kx, bit k (by omega)]
    obtain ⟨a1, a2, a3, a4, a5, a6⟩ := div_bit N D k N0 hD
    have em : N / 2 ^ (k + 1) % D % full = N / 2 ^ (k + 1) % D := Int.emod_eq_of_lt a3 (by omega)
    have pe : partN d (N / 2 ^ (k + 1) % D) (N / 2 ^ k % 2) = if 2 * (N / 2 ^ (k + 1) % D) + N / 2 ^ k % 2 < D then 0 else 1 := by unfold partN; rw [em, hD2]
    have re : restN d (N / 2 ^ (k + 1) % D) (N / 2 ^ k % 2) = N / 2 ^ k % D := by
      rw [a2]; unfold restN; rw [em, hD2]; split <;> omega
    have hq0 : 0 ≤ N / 2 ^ (k + 1) := Int.ediv_nonneg N0 (by have := two_pow_pos (k + 1); omega)
    have hq1 : 0 ≤ N / 2 ^ (k + 1) / D := Int.ediv_nonneg hq0 (by omega)
    have hX : N / 2 ^ (k + 1) / D * 2 ^ (k + 1) ≤ N := by
      have h1 : N / 2 ^ (k + 1) / D ≤ N / 2 ^ (k + 1) := Int.ediv_le_self _ hq0
      exact Int.le_trans (mul_le_of (by have := two_pow_pos (k + 1); omega) h1) (Int.ediv_mul_le _ (by have := two_pow_pos (k + 1); omega))
    dsimp only
    rw [re, pe]
    have key := orW_num (N / 2 ^ (k + 1) / D * 2 ^ (k + 1)) (N / 2 ^ (k + 1) / D) _ k (by omega) (Int.mul_comm _ _) (Int.mul_nonneg hq1 (by have := two_pow_pos (k + 1); omega)) (by omega) a6
    rw [key, a1]
    congr 2
    rw [Int.add_mul, Int.pow_succ]; congr 1; ac_rfl

/-- Div, by a divisor that is not 0. -/
theorem divQ (n d : Int) (hd : d % full ≠ 0) (w : World) :
    Calls Try.prog 10 #[.agg #[.int .u64 (wd0 n), .int .u64 (wd1 n), .int .u64 (wd2 n), .int .u64 (wd3 n)], .agg #[.int .u64 (hiOf d), .int .u64 (loOf d)]] w fun e w' =>
      e = .returned (.tuple #[.agg #[.int .u64 (wd0 (n % wfull / (d % full))), .int .u64 (wd1 (n % wfull / (d % full))), .int .u64 (wd2 (n % wfull / (d % full))), .int .u64 (wd3 (n % wfull / (d % full)))], .agg #[.int .u64 (hiOf (n % wfull % (d % full))), .int .u64 (loOf (n % wfull % (d % full)))], .bool true]) ∧ Below w.heap.size w w' := by
  have m := mod_w n
  have hL : n % wfull < 2 ^ blen (n % wfull) := by
    by_cases h0 : n % wfull = 0
    · rw [h0]; exact two_pow_pos _
    · obtain ⟨j, e, b0, b1⟩ := blen_bounds (show 0 < n % wfull by omega)
      rw [e]; exact b1
  have t := stQ_top n d (blen (n % wfull)) (blen_w m.1 m.2) hL (by have := (mod_f d).1; omega) (blen (n % wfull)) 0 (by omega)
  rw [Int.pow_zero, Int.ediv_one, Int.mul_one] at t
  have key := (callsIn_wide (n := 3)).1 (qdiv_in 3 (by omega) n d (by simpa using hd) w)
  rw [t] at key
  exact key

end Go.Proofs.Ytlmgebanfjclcaa
