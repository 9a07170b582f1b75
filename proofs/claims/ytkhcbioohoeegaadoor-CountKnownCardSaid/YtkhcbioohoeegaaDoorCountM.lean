/-
  Plain arithmetic of lengths, zero bits at the end, and normalizing. No Go in sight.
-/
import Derived.Test.YtkhcbioohoeegaaDoorMath3
import Derived.Test.YtkhcbioohoeegaaDoorNumL
set_option linter.unusedVariables false
set_option maxRecDepth 100000
namespace Go.Proofs.YtkhcbioohoeegaaDoor

def tz : Nat → Int → Nat
  | 0, _ => 0
  | f + 1, x => if x % 2 = 1 then 0 else tz f (x / 2) + 1
/-- How many bits at the end are 0; 256 of 0. -/
def tailN (x : Int) : Nat := tz 256 x
/-- How far to normalize. -/
def upN (B : Nat) (x : Int) : Nat := if x = 0 then 0 else B - blen x

theorem tz_spec (f : Nat) : ∀ x : Int, (tz f x = f ∧ x % 2 ^ f = 0) ∨ (tz f x < f ∧ x % 2 ^ tz f x = 0 ∧ x / 2 ^ tz f x % 2 = 1) := by
  induction f with
  | zero => intro x; left; exact ⟨rfl, by rw [Int.pow_zero]; omega⟩
  | succ f ih =>
    intro x
    unfold tz
    by_cases h : x % 2 = 1
    · rw [if_pos h]; right; refine ⟨by omega, ?_, ?_⟩
      · rw [Int.pow_zero]; omega
      · rw [Int.pow_zero]; omega
    · rw [if_neg h]
      rcases ih (x / 2) with ⟨e, h1⟩ | ⟨e, h1, h2⟩
      · left
        refine ⟨by omega, ?_⟩
        rw [Nat.add_comm, lost_split, Int.pow_one]
        exact ⟨by omega, h1⟩
      · right
        refine ⟨by omega, ?_, ?_⟩
        · rw [Nat.add_comm (tz f (x / 2)) 1, lost_split, Int.pow_one]
          exact ⟨by omega, h1⟩
        · rw [Nat.add_comm (tz f (x / 2)) 1, ← jam_div, Int.pow_one]
          exact h2
theorem tail_le (x : Int) : tailN x ≤ 256 := by
  rcases tz_spec 256 x with ⟨e, _⟩ | ⟨e, _, _⟩ <;> (unfold tailN; omega)
theorem tail_zero : tailN 0 = 256 := by
  rcases tz_spec 256 0 with ⟨e, _⟩ | ⟨_, _, h⟩
  · exact e
  · simp at h
theorem tail_spec {x : Int} (h0 : 0 < x) (h1 : x < wfull) : tailN x < 256 ∧ x % 2 ^ tailN x = 0 ∧ x / 2 ^ tailN x % 2 = 1 := by
  rcases tz_spec 256 x with ⟨e, h⟩ | h
  · exfalso
    rw [Int.emod_eq_of_lt (by omega) (by rw [show (2 : Int) ^ 256 = wfull from by decide +kernel]; exact h1)] at h
    omega
  · exact h
theorem tail_unique {x : Int} {s t : Nat} (a1 : x % 2 ^ s = 0) (a2 : x / 2 ^ s % 2 = 1) (b1 : x % 2 ^ t = 0) (b2 : x / 2 ^ t % 2 = 1) : s = t := by
  have key : ∀ {s t : Nat}, x / 2 ^ s % 2 = 1 → x % 2 ^ t = 0 → ¬ s < t := fun {s t} a2 b1 h => by
    obtain ⟨d, rfl⟩ : ∃ d, t = s + (1 + d) := ⟨t - s - 1, by omega⟩
    have h1 := ((lost_split x s (1 + d)).1 b1).2
    have h2 := ((lost_split (x / 2 ^ s) 1 d).1 h1).1
    rw [Int.pow_one] at h2
    omega
  have h1 := key a2 b1; have h2 := key b2 a1
  omega
theorem tail_of {x : Int} {t : Nat} (h0 : 0 < x) (h1 : x < wfull) (b1 : x % 2 ^ t = 0) (b2 : x / 2 ^ t % 2 = 1) : tailN x = t :=
  tail_unique (tail_spec h0 h1).2.1 (tail_spec h0 h1).2.2 b1 b2
theorem blen_le {x : Int} {k : Nat} (h0 : 0 ≤ x) (h : x < 2 ^ k) : blen x ≤ k := by
  rcases Int.lt_or_eq_of_le h0 with g | g
  · obtain ⟨j, e, h1, h2⟩ := blen_bounds g
    rw [e]
    rcases Nat.lt_or_ge j k with r | r
    · omega
    · have := two_pow_le r; omega
  · rw [← g, blen_zero]; omega
theorem blen_pos {x : Int} (h0 : 0 < x) : 1 ≤ blen x := by
  obtain ⟨j, e, h1, h2⟩ := blen_bounds h0; omega
theorem blen_eq_zero {x : Int} (h0 : 0 ≤ x) : blen x = 0 ↔ x = 0 := by
  constructor
  · intro h
    rcases Int.lt_or_eq_of_le h0 with g | g
    · have := blen_pos g; omega
    · omega
  · rintro rfl; rfl
theorem blen_mono {x y : Int} (h0 : 0 ≤ x) (h : x ≤ y) : blen x ≤ blen y :=
  blen_le h0 (Int.lt_of_le_of_lt h (lt_blen y (by omega)))
theorem blen_low {x : Int} (h0 : 0 < x) : 2 ^ (blen x - 1) ≤ x := by
  obtain ⟨j, e, h1, h2⟩ := blen_bounds h0
  rw [e]; exact h1
theorem blen_shl {x : Int} (h0 : 0 < x) (k : Nat) : blen (x * 2 ^ k) = blen x + k := by
  obtain ⟨j, e, h1, h2⟩ := blen_bounds h0
  have hp := two_pow_pos k
  have := blen_of (n := x * 2 ^ k) (j := j + k) (by rw [Int.pow_add]; exact Int.mul_le_mul_of_nonneg_right h1 (by omega)) (by rw [show j + k + 1 = (j + 1) + k by omega, Int.pow_add]; exact Int.mul_lt_mul_of_pos_right h2 hp)
  rw [this, e]; omega
theorem blen_w {x : Int} (h0 : 0 ≤ x) (h1 : x < wfull) : blen x ≤ 256 := blen_le h0 (by rw [show (2 : Int) ^ 256 = wfull from by decide +kernel]; exact h1)
theorem blen_f {x : Int} (h0 : 0 ≤ x) (h1 : x < full) : blen x ≤ 128 := blen_le h0 (by rw [show (2 : Int) ^ 128 = full from by decide +kernel]; exact h1)
theorem mul_pow_div (x : Int) (k : Nat) : x * 2 ^ k / 2 ^ k = x := Int.mul_ediv_cancel _ (by have := two_pow_pos k; omega)
theorem tail_shl {x : Int} {k : Nat} (h0 : 0 < x) (h1 : x * 2 ^ k < wfull) : tailN (x * 2 ^ k) = tailN x + k := by
  have hp := two_pow_pos k
  have hx : x ≤ x * 2 ^ k := by have := Int.mul_le_mul_of_nonneg_left (show (1 : Int) ≤ 2 ^ k by omega) (show 0 ≤ x by omega); omega
  obtain ⟨s1, s2, s3⟩ := tail_spec h0 (by omega : x < wfull)
  refine tail_of (by omega) h1 ?_ ?_
  · rw [Nat.add_comm, lost_split, mul_pow_div]
    exact ⟨Int.mul_emod_left _ _, s2⟩
  · rw [Nat.add_comm, ← jam_div, mul_pow_div]
    exact s3
theorem shl_lt_w {x : Int} {k : Nat} (h0 : 0 < x) (h : blen x + k ≤ 256) : x * 2 ^ k < wfull := by
  have h1 := lt_blen x (by omega)
  have h2 : x * 2 ^ k < 2 ^ blen x * 2 ^ k := Int.mul_lt_mul_of_pos_right h1 (two_pow_pos k)
  rw [← Int.pow_add] at h2
  have h3 := two_pow_le h
  rw [show (2 : Int) ^ 256 = wfull from by decide +kernel] at h3
  omega
/-- What is normalized. -/
theorem up_spec {B : Nat} {x : Int} (h0 : 0 < x) (hB : blen x ≤ B) : 2 ^ (B - 1) ≤ x * 2 ^ upN B x ∧ x * 2 ^ upN B x < 2 ^ B := by
  have hb := blen_pos h0
  have e : upN B x = B - blen x := by unfold upN; rw [if_neg (by omega)]
  rw [e]
  have h1 := blen_low h0
  have h2 := lt_blen x (by omega)
  have hp := two_pow_pos (B - blen x)
  constructor
  · have := Int.mul_le_mul_of_nonneg_right h1 (show (0 : Int) ≤ 2 ^ (B - blen x) by omega)
    rw [← Int.pow_add, show blen x - 1 + (B - blen x) = B - 1 by omega] at this
    exact this
  · have := Int.mul_lt_mul_of_pos_right h2 hp
    rw [← Int.pow_add, show blen x + (B - blen x) = B by omega] at this
    exact this
theorem up_zero (B : Nat) : upN B 0 = 0 := by unfold upN; simp
theorem up_le (B : Nat) (x : Int) : upN B x ≤ B := by unfold upN; split <;> omega

end Go.Proofs.YtkhcbioohoeegaaDoor
