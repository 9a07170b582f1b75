/-
  Plain arithmetic of jamming shifts. No Go in sight.
-/
import Derived.Test.YtkhcbioohoeegaaDoorShiftG
set_option linter.unusedVariables false
set_option maxRecDepth 100000
namespace Go.Proofs.YtkhcbioohoeegaaDoor

theorem pow_pos' (k : Nat) : (2 : Int) ^ k ≠ 0 := by have := two_pow_pos k; omega
theorem jam_div (x : Int) (k m : Nat) : x / 2 ^ k / 2 ^ m = x / 2 ^ (k + m) := by
  rw [Int.pow_add, Int.ediv_ediv_of_nonneg (by have := two_pow_pos k; omega)]
/-- What falls off one way, and on. -/
theorem mod_split (x : Int) (k m : Nat) : x % 2 ^ (k + m) = x % 2 ^ k + 2 ^ k * (x / 2 ^ k % 2 ^ m) := by
  have e1 := Int.emod_add_mul_ediv x (2 ^ k)
  have e2 := Int.emod_add_mul_ediv (x / 2 ^ k) (2 ^ m)
  have b := mul_add_lt (two_pow_pos k) (Int.emod_nonneg (x / 2 ^ k) (pow_pos' m)) (Int.emod_lt_of_pos (x / 2 ^ k) (two_pow_pos m)) (Int.emod_nonneg x (pow_pos' k)) (Int.emod_lt_of_pos x (two_pow_pos k))
  rw [← Int.pow_add] at b
  have e3 : x = (2 ^ k * (x / 2 ^ k % 2 ^ m) + x % 2 ^ k) + 2 ^ (k + m) * (x / 2 ^ k / 2 ^ m) := by
    rw [Int.pow_add, Int.mul_assoc]
    have e4 : 2 ^ k * (x / 2 ^ k) = 2 ^ k * (x / 2 ^ k % 2 ^ m) + 2 ^ k * (2 ^ m * (x / 2 ^ k / 2 ^ m)) := by rw [← Int.mul_add, e2]
    omega
  have e5 : x % 2 ^ (k + m) = 2 ^ k * (x / 2 ^ k % 2 ^ m) + x % 2 ^ k := by
    conv => lhs; rw [e3]
    rw [Int.add_mul_emod_self_left, Int.emod_eq_of_lt b.1 b.2]
  rw [e5, Int.add_comm]
theorem lost_split (x : Int) (k m : Nat) : x % 2 ^ (k + m) = 0 ↔ (x % 2 ^ k = 0 ∧ x / 2 ^ k % 2 ^ m = 0) := by
  rw [mod_split]
  have h1 := Int.emod_nonneg x (pow_pos' k)
  have h2 := Int.emod_nonneg (x / 2 ^ k) (pow_pos' m)
  have h3 : 0 ≤ 2 ^ k * (x / 2 ^ k % 2 ^ m) := Int.mul_nonneg (by have := two_pow_pos k; omega) h2
  constructor
  · intro h
    have a : x % 2 ^ k = 0 := by omega
    have b : 2 ^ k * (x / 2 ^ k % 2 ^ m) = 0 := by omega
    exact ⟨a, (Int.mul_eq_zero.1 b).resolve_left (pow_pos' k)⟩
  · rintro ⟨a, b⟩; rw [a, b]; simp
theorem jam_range {x : Int} (h0 : 0 ≤ x) (k : Nat) : x / 2 ^ k ≤ jamN x k ∧ jamN x k ≤ x / 2 ^ k + 1 ∧ 0 ≤ jamN x k ∧ jamN x k ≤ x + (if x % 2 ^ k = 0 then 0 else 1) := by
  obtain ⟨q0, q1, q2, q3, q4⟩ := div_back x k h0
  unfold jamN
  split <;> omega
/-- The low bit of a jam, its rest over 2, and whether it is 0. -/
theorem jam_low (x : Int) (k : Nat) : jamN x k / 2 = x / 2 ^ k / 2 ∧ (jamN x k % 2 = 0 ↔ (x % 2 ^ k = 0 ∧ x / 2 ^ k % 2 = 0)) := by
  unfold jamN
  split
  · refine ⟨rfl, ?_⟩; simp [*]
  · refine ⟨by omega, ?_⟩; simp [*]
theorem pow_succ2 (m : Nat) : (2 : Int) ^ (m + 1) = 2 * 2 ^ m := by rw [Int.pow_succ, Int.mul_comm]
/-- A jam on a jam is the jam at once. -/
theorem jam_jam (x : Int) (k m : Nat) : jamN (jamN x k) m = jamN x (k + m) := by
  cases m with
  | zero =>
    show jamN (jamN x k) 0 = jamN x k
    generalize jamN x k = y
    unfold jamN; simp
  | succ m =>
    obtain ⟨e1, e2⟩ := jam_low x k
    have d1 : jamN x k / 2 ^ (m + 1) = x / 2 ^ (k + (m + 1)) := by
      rw [pow_succ2, ← Int.ediv_ediv_of_nonneg (by omega), e1, Int.ediv_ediv_of_nonneg (by omega), ← pow_succ2, jam_div]
    have d2 : jamN x k % 2 ^ (m + 1) = 0 ↔ x % 2 ^ (k + (m + 1)) = 0 := by
      have s : ∀ y : Int, y % 2 ^ (m + 1) = 0 ↔ (y % 2 = 0 ∧ y / 2 % 2 ^ m = 0) := fun y => by
        have h := lost_split y 1 m
        rw [Int.pow_one, Nat.add_comm] at h
        exact h
      rw [s, e1, e2, lost_split x k (m + 1), s (x / 2 ^ k)]
      constructor
      · rintro ⟨⟨a, b⟩, c⟩; exact ⟨a, b, c⟩
      · rintro ⟨a, b, c⟩; exact ⟨⟨a, b⟩, c⟩
    rw [show jamN (jamN x k) (m + 1) = if jamN x k % 2 ^ (m + 1) = 0 then jamN x k / 2 ^ (m + 1) else jamN x k / 2 ^ (m + 1) / 2 * 2 + 1 from rfl, d1]
    rw [show jamN x (k + (m + 1)) = if x % 2 ^ (k + (m + 1)) = 0 then x / 2 ^ (k + (m + 1)) else x / 2 ^ (k + (m + 1)) / 2 * 2 + 1 from rfl]
    by_cases h : x % 2 ^ (k + (m + 1)) = 0
    · rw [if_pos h, if_pos (d2.2 h)]
    · rw [if_neg h, if_neg (fun h' => h (d2.1 h'))]
theorem div_mono {x y : Int} (h : x ≤ y) (k : Nat) : x / 2 ^ k ≤ y / 2 ^ k := Int.ediv_le_ediv (two_pow_pos k) h
/-- Jams keep the order. -/
theorem jam_mono {x y : Int} (h : x ≤ y) (k : Nat) : jamN x k ≤ jamN y k := by
  have hd := div_mono h k
  have ex := Int.emod_add_mul_ediv x (2 ^ k); have ey := Int.emod_add_mul_ediv y (2 ^ k)
  have rx := Int.emod_nonneg x (pow_pos' k); have ry := Int.emod_nonneg y (pow_pos' k)
  have hq : x / 2 ^ k = y / 2 ^ k → x % 2 ^ k ≤ y % 2 ^ k := fun e => by
    rw [e] at ex; omega
  have hm : x % 2 ^ k ≠ 0 → y % 2 ^ k = 0 → x / 2 ^ k < y / 2 ^ k := fun a b => by
    rcases Int.lt_or_eq_of_le hd with g | g
    · exact g
    · have := hq g; omega
  unfold jamN
  by_cases a : x % 2 ^ k = 0 <;> by_cases b : y % 2 ^ k = 0
  · rw [if_pos a, if_pos b]; exact hd
  · rw [if_pos a, if_neg b]; omega
  · rw [if_neg a, if_pos b]; have := hm a b; omega
  · rw [if_neg a, if_neg b]; omega
theorem jam_zero {x : Int} (h0 : 0 ≤ x) (k : Nat) : jamN x k = 0 ↔ x = 0 := by
  unfold jamN
  have e := Int.emod_add_mul_ediv x (2 ^ k)
  constructor
  · intro h
    by_cases a : x % 2 ^ k = 0
    · rw [if_pos a] at h
      rw [a, h] at e; simp at e; omega
    · rw [if_neg a] at h
      have := (div_back x k h0).1
      omega
  · rintro rfl; simp
theorem jam_lt {x B : Int} (h0 : 0 ≤ x) (h1 : x < B) (hB : B % 2 = 0) (k : Nat) : 0 ≤ jamN x k ∧ jamN x k < B := by
  obtain ⟨q0, q1, q2, q3, q4⟩ := div_back x k h0
  unfold jamN
  split <;> omega
theorem wfull_even : wfull % 2 = 0 := by decide +kernel
theorem full_even : full % 2 = 0 := by decide +kernel
/-- Far shifts. -/
theorem pow_far {x : Int} {B : Int} {K : Nat} (hx : x < B) (hB : B = 2 ^ K) {k : Nat} (hk : K ≤ k) : x < 2 ^ k := by
  have := two_pow_le hk; omega
theorem div_far {x B : Int} {K : Nat} (h0 : 0 ≤ x) (hx : x < B) (hB : B = 2 ^ K) {k : Nat} (hk : K ≤ k) : x / 2 ^ k = 0 := Int.ediv_eq_zero_of_lt h0 (pow_far hx hB hk)
theorem mod_far {x B : Int} {K : Nat} (h0 : 0 ≤ x) (hx : x < B) (hB : B = 2 ^ K) {k : Nat} (hk : K ≤ k) : x % 2 ^ k = x := Int.emod_eq_of_lt h0 (pow_far hx hB hk)
theorem min_cases (k : Nat) : (min k 300 = k ∧ k ≤ 300) ∨ (min k 300 = 300 ∧ 300 ≤ k) := by omega
theorem div_near {x : Int} (h0 : 0 ≤ x) (hx : x < wfull) (k : Nat) : x / 2 ^ (min k 300) = x / 2 ^ k := by
  rcases min_cases k with ⟨e, _⟩ | ⟨e, h⟩
  · rw [e]
  · rw [e, div_far h0 hx (by decide +kernel : wfull = 2 ^ 256) (by omega : 256 ≤ 300), div_far h0 hx (by decide +kernel : wfull = 2 ^ 256) (by omega : 256 ≤ k)]
theorem mod_near {x : Int} (h0 : 0 ≤ x) (hx : x < wfull) (k : Nat) : x % 2 ^ (min k 300) = x % 2 ^ k := by
  rcases min_cases k with ⟨e, _⟩ | ⟨e, h⟩
  · rw [e]
  · rw [e, mod_far h0 hx (by decide +kernel : wfull = 2 ^ 256) (by omega : 256 ≤ 300), mod_far h0 hx (by decide +kernel : wfull = 2 ^ 256) (by omega : 256 ≤ k)]
theorem jam_near {x : Int} (h0 : 0 ≤ x) (hx : x < wfull) (k : Nat) : jamN x (min k 300) = jamN x k := by
  unfold jamN; rw [div_near h0 hx, mod_near h0 hx]
theorem pow_mod_w {k : Nat} (h : 256 ≤ k) : (2 : Int) ^ k % wfull = 0 := by
  rw [show k = 256 + (k - 256) by omega, Int.pow_add, show (2 : Int) ^ 256 = wfull from by decide +kernel]
  exact Int.mul_emod_right _ _
theorem mul_near (x : Int) (k : Nat) : x * 2 ^ (min k 300) % wfull = x * 2 ^ k % wfull := by
  rcases min_cases k with ⟨e, _⟩ | ⟨e, h⟩
  · rw [e]
  · rw [e, Int.mul_emod, pow_mod_w (by omega : 256 ≤ 300), Int.mul_emod x (2 ^ k), pow_mod_w (by omega : 256 ≤ k)]

end Go.Proofs.YtkhcbioohoeegaaDoor
