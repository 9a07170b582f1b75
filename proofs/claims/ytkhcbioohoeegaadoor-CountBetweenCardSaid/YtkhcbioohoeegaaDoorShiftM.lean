/-
  Plain arithmetic of shifts: digits of a number times, or by, a power of 2. No Go in sight.
-/
import Derived.Test.YtkhcbioohoeegaaDoorBitsM
import Derived.Test.YtkhcbioohoeegaaDoorWideM
set_option linter.unusedVariables false
set_option maxRecDepth 100000
namespace Go.Proofs.YtkhcbioohoeegaaDoor

/-- Digit i of a number of four, of two digits; 0 beyond. -/
def dg4 (a0 a1 a2 a3 i : Int) : Int := if i = 0 then a0 else if i = 1 then a1 else if i = 2 then a2 else if i = 3 then a3 else 0
def dg2 (a0 a1 i : Int) : Int := if i = 0 then a0 else if i = 1 then a1 else 0
theorem dg4_u {a0 a1 a2 a3 : Int} (h0 : U64 a0) (h1 : U64 a1) (h2 : U64 a2) (h3 : U64 a3) (i : Int) : U64 (dg4 a0 a1 a2 a3 i) := by
  unfold dg4; split; exact h0; split; exact h1; split; exact h2; split; exact h3; exact ⟨by decide, by decide⟩
theorem dg2_u {a0 a1 : Int} (h0 : U64 a0) (h1 : U64 a1) (i : Int) : U64 (dg2 a0 a1 i) := by
  unfold dg2; split; exact h0; split; exact h1; exact ⟨by decide, by decide⟩

/-- What a digit gives to its own place, and to the next. -/
def upLo (x : Int) (p : Nat) : Int := x * 2 ^ p % 18446744073709551616
def upHi (x : Int) (p : Nat) : Int := x / 2 ^ (64 - p)
def dnLo (x : Int) (p : Nat) : Int := x / 2 ^ p
def dnHi (x : Int) (p : Nat) : Int := x * 2 ^ (64 - p) % 18446744073709551616
theorem pow_split {p : Nat} (h : p ≤ 64) : (2 : Int) ^ p * 2 ^ (64 - p) = 18446744073709551616 := by
  rw [← Int.pow_add, show p + (64 - p) = 64 by omega]; rfl
theorem up_eq (x : Int) {p : Nat} (h : p ≤ 64) : x * 2 ^ p = upLo x p + upHi x p * 18446744073709551616 := by
  unfold upLo upHi
  have e := pow_split h
  have hp := two_pow_pos p
  have h1 : x * 2 ^ p / 18446744073709551616 = x / 2 ^ (64 - p) := by
    rw [← e, Int.mul_comm x]; exact Int.mul_ediv_mul_of_pos _ _ hp
  have h2 := Int.emod_add_mul_ediv (x * 2 ^ p) 18446744073709551616
  rw [h1] at h2; omega
theorem upLo_mul (x : Int) {p : Nat} (h : p ≤ 64) : ∃ k, upLo x p = 2 ^ p * k ∧ 0 ≤ k ∧ k < 2 ^ (64 - p) := by
  unfold upLo
  rw [← pow_split h, Int.mul_comm x, Int.mul_emod_mul_of_pos _ _ (two_pow_pos p)]
  exact ⟨_, rfl, Int.emod_nonneg _ (by have := two_pow_pos (64 - p); omega), Int.emod_lt_of_pos _ (two_pow_pos _)⟩
theorem upHi_lt {x : Int} (hx : U64 x) {p : Nat} (h : p ≤ 64) : 0 ≤ upHi x p ∧ upHi x p < 2 ^ p := by
  unfold upHi
  have hp := two_pow_pos (64 - p)
  refine ⟨Int.ediv_nonneg hx.1 (by omega), ?_⟩
  rw [Int.ediv_lt_iff_lt_mul hp, pow_split h]
  exact hx.2
theorem mul_add_lt {k q P Q : Int} (hP : 0 < P) (hk : 0 ≤ k) (hkQ : k < Q) (hq0 : 0 ≤ q) (hq : q < P) : 0 ≤ P * k + q ∧ P * k + q < P * Q := by
  have h1 : 0 ≤ P * k := Int.mul_nonneg (by omega) hk
  have h2 : P * (k + 1) ≤ P * Q := Int.mul_le_mul_of_nonneg_left (by omega) (by omega)
  rw [Int.mul_add, Int.mul_one] at h2
  omega
theorem up_sum {x y : Int} (hy : U64 y) {p : Nat} (h : p ≤ 64) : U64 (upLo x p + upHi y p) := by
  obtain ⟨k, e, h0, h1⟩ := upLo_mul x h
  obtain ⟨g0, g1⟩ := upHi_lt hy h
  have := mul_add_lt (two_pow_pos p) h0 h1 g0 g1
  rw [pow_split h] at this
  rw [e]; exact this
theorem or_add {p : Nat} (hp : p ≤ 64) {k q : Int} (h0 : 0 ≤ k) (h1 : k < 2 ^ (64 - p)) (g0 : 0 ≤ q) (g1 : q < 2 ^ p) : bits .or .u64 (2 ^ p * k) q = 2 ^ p * k + q := by
  have b := mul_add_lt (two_pow_pos p) h0 h1 g0 g1
  rw [pow_split hp] at b
  have hk : 0 ≤ (2 : Int) ^ p * k := Int.mul_nonneg (by have := two_pow_pos p; omega) h0
  rw [u64_or _ _ hk (by omega) g0 (by omega)]
  obtain ⟨K, rfl⟩ := Int.eq_ofNat_of_zero_le h0
  obtain ⟨M, rfl⟩ := Int.eq_ofNat_of_zero_le g0
  have e : ((2 : Int) ^ p * (K : Int)).toNat = 2 ^ p * K := by
    have : (2 : Int) ^ p * (K : Int) = ((2 ^ p * K : Nat) : Int) := by push_cast; rfl
    rw [this, Int.toNat_natCast]
  have hM : M < 2 ^ p := by exact_mod_cast g1
  rw [e, Int.toNat_natCast, ← Nat.two_pow_add_eq_or_of_lt hM]
  push_cast; rfl
theorem up_or {x y : Int} (hy : U64 y) {p : Nat} (h : p ≤ 64) : bits .or .u64 (upLo x p) (upHi y p) = upLo x p + upHi y p := by
  obtain ⟨k, e, h0, h1⟩ := upLo_mul x h
  obtain ⟨g0, g1⟩ := upHi_lt hy h
  rw [e]; exact or_add h h0 h1 g0 g1
theorem or_comm64 {x y : Int} (hx : U64 x) (hy : U64 y) : bits .or .u64 x y = bits .or .u64 y x := by
  rw [u64_or _ _ hx.1 hx.2 hy.1 hy.2, u64_or _ _ hy.1 hy.2 hx.1 hx.2, Nat.or_comm]
theorem dn_or {x y : Int} (hx : U64 x) {p : Nat} (h : p ≤ 64) : bits .or .u64 (dnLo x p) (dnHi y p) = dnLo x p + dnHi y p := by
  have e : dnHi y p = upLo y (64 - p) := rfl
  have e2 : dnLo x p = upHi x (64 - p) := by unfold dnLo upHi; rw [show 64 - (64 - p) = p by omega]
  have h1 := up_or (x := y) hx (p := 64 - p) (by omega)
  rw [or_comm64, e, e2, h1, Int.add_comm]
  · exact div_pow_u hx p
  · unfold dnHi U64; omega
theorem dn_sum {x y : Int} (hx : U64 x) {p : Nat} (h : p ≤ 64) : U64 (dnLo x p + dnHi y p) := by
  have e : dnHi y p = upLo y (64 - p) := rfl
  have e2 : dnLo x p = upHi x (64 - p) := by unfold dnLo upHi; rw [show 64 - (64 - p) = p by omega]
  have h1 := up_sum (x := y) hx (p := 64 - p) (by omega)
  rw [e, e2, Int.add_comm]; exact h1
theorem dn_eq (x : Int) {p : Nat} (h : p ≤ 64) : x * 18446744073709551616 = dnHi x p * 2 ^ p + (dnLo x p * 18446744073709551616) * 2 ^ p := by
  have h1 := up_eq x (p := 64 - p) (by omega)
  have e2 : upHi x (64 - p) = dnLo x p := by unfold dnLo upHi; rw [show 64 - (64 - p) = p by omega]
  have e : upLo x (64 - p) = dnHi x p := rfl
  rw [e, e2] at h1
  rw [← Int.add_mul, ← h1, Int.mul_assoc, Int.mul_comm (2 ^ (64 - p)), pow_split h]

/-- Up by p < 64 bits. -/
theorem wd_up {a0 a1 a2 a3 : Int} (h0 : U64 a0) (h1 : U64 a1) (h2 : U64 a2) (h3 : U64 a3) {p : Nat} (hp : p ≤ 64) :
    wval a0 a1 a2 a3 * 2 ^ p = wval (upLo a0 p) (upLo a1 p + upHi a0 p) (upLo a2 p + upHi a1 p) (upLo a3 p + upHi a2 p) + upHi a3 p * wfull := by
  have e0 := up_eq a0 hp; have e1 := up_eq a1 hp; have e2 := up_eq a2 hp; have e3 := up_eq a3 hp
  have e : wval a0 a1 a2 a3 * 2 ^ p = wval (a0 * 2 ^ p) (a1 * 2 ^ p) (a2 * 2 ^ p) (a3 * 2 ^ p) := by
    unfold wval
    simp only [Int.add_mul]
    congr 1
    · congr 1
      · congr 1; ac_rfl
      · ac_rfl
    · ac_rfl
  rw [e, e0, e1, e2, e3]; unfold wval wfull; omega
theorem u_upLo (x : Int) (p : Nat) : U64 (upLo x p) := by unfold upLo U64; omega
theorem u_dnLo {x : Int} (hx : U64 x) (p : Nat) : U64 (dnLo x p) := div_pow_u hx p

end Go.Proofs.YtkhcbioohoeegaaDoor
