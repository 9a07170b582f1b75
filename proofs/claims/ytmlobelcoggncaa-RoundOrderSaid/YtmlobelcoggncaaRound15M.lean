/-
  Numbers rounded to their leading bits: by definition; what the document asks of package round.
-/
import Derived.Test.YtmlobelcoggncaaGmA
import Derived.Test.YtmlobelcoggncaaGsB
import Derived.Test.YtmlobelcoggncaaGnB
set_option linter.unusedVariables false
set_option linter.unusedSimpArgs false
set_option maxRecDepth 100000
namespace Go.Proofs.Ytmlobelcoggncaa
open Go.RowKit
attribute [local go_sem ↓] Go.wp_at_zero Go.wp_at_succ

/-- What a number by 2^n has beyond its floor, by category: also if there is something, less than one, beyond the number itself. -/
def restQ (q n : Int) (more : Bool) : Int :=
  if n ≤ 0 then (if more then 1 else 0)
  else if q % 2 ^ n.toNat = 0 ∧ more = false then 0
  else if q % 2 ^ n.toNat < 2 ^ (n.toNat - 1) then 1
  else if more = false ∧ q % 2 ^ n.toNat = 2 ^ (n.toNat - 1) then 2 else 3
def floorQ (q n : Int) : Int := if n ≤ 0 then q * 2 ^ (-n).toNat else q / 2 ^ n.toNat
/-- A number by 2^n, rounded. -/
def cutQ (q n : Int) (more : Bool) (m : Int) (ng : Bool) : Int := if nextM m ng (decide (floorQ q n % 2 = 1)) (restQ q n more) then floorQ q n + 1 else floorQ q n
/-- What package round answers. -/
def restB (x k : Int) : Int := if 0 ≤ k ∧ k ≤ 127 then restQ x (256 - k) false else 0
def cutB (x k m : Int) (ng : Bool) : Int := if (0 ≤ k ∧ k ≤ 127) ∧ m < 5 then cutQ x (256 - k) false m ng else 0
def cutX (x k m : Int) : Bool := decide ((0 ≤ k ∧ k ≤ 127) ∧ m < 5) && (restQ x (256 - k) false != 0)

/-- What the document asks of package round. -/
structure RoundOK : Prop where
  cut : ∀ x k m ng, 0 ≤ x → x < wfull → -9223372036854775808 ≤ k → k ≤ 9223372036854775807 → 0 ≤ m → m ≤ 255 → ∀ w, Calls Try.prog 9 #[.agg #[.int .u64 (wd0 (x)), .int .u64 (wd1 (x)), .int .u64 (wd2 (x)), .int .u64 (wd3 (x))], .int .i64 k, .int .u8 m, .bool ng] w fun e w' => e = .returned (.tuple #[.agg #[.int .u64 (hiOf (cutB x k m ng)), .int .u64 (loOf (cutB x k m ng))], .bool (cutX x k m)]) ∧ Below w.heap.size w w'
  rest : ∀ x k, 0 ≤ x → x < wfull → -9223372036854775808 ≤ k → k ≤ 9223372036854775807 → ∀ w, Calls Try.prog 10 #[.agg #[.int .u64 (wd0 (x)), .int .u64 (wd1 (x)), .int .u64 (wd2 (x)), .int .u64 (wd3 (x))], .int .i64 k] w fun e w' => e = .returned (.int .u8 (restB x k)) ∧ Below w.heap.size w w'

theorem rest_range (q n : Int) (more : Bool) : 0 ≤ restQ q n more ∧ restQ q n more ≤ 3 := by
  unfold restQ; repeat' split <;> omega
theorem cut_no {k m : Int} (h : ¬ ((0 ≤ k ∧ k ≤ 127) ∧ m < 5)) (x : Int) (ng : Bool) : cutB x k m ng = 0 ∧ cutX x k m = false := by
  unfold cutB cutX; rw [if_neg h]; exact ⟨rfl, by simp [h]⟩
theorem cut_yes {k m : Int} (h : (0 ≤ k ∧ k ≤ 127) ∧ m < 5) (x : Int) (ng : Bool) : cutB x k m ng = cutQ x (256 - k) false m ng ∧ cutX x k m = (restQ x (256 - k) false != 0) := by
  unfold cutB cutX; rw [if_pos h]; exact ⟨rfl, by simp [h]⟩
theorem rest_yes {k : Int} (h : 0 ≤ k ∧ k ≤ 127) (x : Int) : restB x k = restQ x (256 - k) false := by unfold restB; rw [if_pos h]
theorem rest_no {k : Int} (h : ¬ (0 ≤ k ∧ k ≤ 127)) (x : Int) : restB x k = 0 := by unfold restB; rw [if_neg h]
/-- The category by the bit of a half and what is below it. -/
theorem rest_of (x : Int) (j : Nat) : restQ x ((j : Int) + 1) false = ofM (decide (x / 2 ^ j % 2 = 1)) (x % 2 ^ j != 0) := by
  have e := mod_split x j 1
  have e0 : ((j : Int) + 1).toNat = j + 1 := by omega
  have r0 := Int.emod_nonneg x (pow_pos' j); have r1 := Int.emod_lt_of_pos x (two_pow_pos j)
  unfold restQ
  rw [if_neg (by omega), e0, e, Nat.add_sub_cancel, Int.pow_succ, Int.pow_zero, Int.one_mul]
  generalize x % 2 ^ j = r at *
  generalize (2 : Int) ^ j = H at *
  have hb : x / H % 2 = 0 ∨ x / H % 2 = 1 := by omega
  rcases hb with hb | hb
  · rw [hb, Int.mul_zero, Int.add_zero]
    by_cases z : r = 0
    · subst z; simp [ofM]
    · rw [if_neg (by simp [z]), if_pos r1]; simp [ofM, z]
  · rw [hb, Int.mul_one, if_neg (by omega), if_neg (by omega)]
    by_cases z : r = 0
    · subst z; simp [ofM]
    · rw [if_neg (by omega)]; simp [ofM, z]
/-- No rest: nothing beyond the floor. -/
theorem rest_zero {q n : Int} (h : 0 < n) : (restQ q n false = 0) ↔ q % 2 ^ n.toNat = 0 := by
  unfold restQ
  rw [if_neg (by omega)]
  constructor
  · intro e
    apply Classical.byContradiction; intro z
    rw [if_neg (by simp [z])] at e
    revert e; repeat' split <;> simp
  · intro z; rw [if_pos ⟨z, rfl⟩]
theorem floor_pos {q n : Int} (h : 0 < n) : floorQ q n = q / 2 ^ n.toNat := by unfold floorQ; rw [if_neg (by omega)]
theorem cut_floor (q n : Int) (more : Bool) (m : Int) (ng : Bool) : cutQ q n more m ng = floorQ q n ∨ cutQ q n more m ng = floorQ q n + 1 := by unfold cutQ; split <;> simp
/-- The floor of 256 bits that keeps k of them. -/
theorem floor_lt {x k : Int} (h0 : 0 ≤ x) (h1 : x < wfull) (k0 : 0 ≤ k) (k1 : k ≤ 127) : 0 ≤ floorQ x (256 - k) ∧ floorQ x (256 - k) < 2 ^ k.toNat ∧ (2 : Int) ^ k.toNat ≤ 2 ^ 127 := by
  rw [floor_pos (by omega)]
  refine ⟨Int.ediv_nonneg h0 (by have := two_pow_pos (256 - k).toNat; omega), ?_, two_pow_le (by omega)⟩
  apply Int.ediv_lt_of_lt_mul (two_pow_pos _)
  rw [← Int.pow_add, show k.toNat + (256 - k).toNat = 256 by omega, wfull_pow]
  exact h1
theorem p127 : (2 : Int) ^ 127 = 170141183460469231731687303715884105728 := by decide +kernel
theorem cut_full {x k : Int} (h0 : 0 ≤ x) (h1 : x < wfull) (k0 : 0 ≤ k) (k1 : k ≤ 127) (m : Int) (ng : Bool) : 0 ≤ cutQ x (256 - k) false m ng ∧ cutQ x (256 - k) false m ng < full := by
  obtain ⟨f0, f1, f2⟩ := floor_lt h0 h1 k0 k1
  rw [p127] at f2
  have : full = 340282366920938463463374607431768211456 := rfl
  rcases cut_floor x (256 - k) false m ng with h | h <;> rw [h] <;> omega


end Go.Proofs.Ytmlobelcoggncaa
