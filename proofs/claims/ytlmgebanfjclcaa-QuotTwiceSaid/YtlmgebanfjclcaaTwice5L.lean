/-
  QuotTwice over digits.
-/
import Derived.Test.YtlmgebanfjclcaaTwice5N
import Derived.Test.YtlmgebanfjclcaaTwice50
import Derived.Test.YtlmgebanfjclcaaTwice51
import Derived.Test.YtlmgebanfjclcaaTwice52
import Derived.Test.YtlmgebanfjclcaaTwice53
import Derived.Test.YtlmgebanfjclcaaTwice54
import Derived.Test.YtlmgebanfjclcaaTwice55
import Derived.Test.YtlmgebanfjclcaaGoes5L
set_option linter.unusedVariables false
set_option linter.unusedSimpArgs false
set_option maxRecDepth 100000
namespace Go.Proofs.Ytlmgebanfjclcaa
open Go.RowKit
attribute [local go_sem ↓] Go.wp_at_zero Go.wp_at_succ

theorem d0_t {y : Nat} (h : 0 < y) : decide ((0 : Int) < (y : Int)) = true := by simp; omega
theorem d0_f {y : Nat} (h : ¬ 0 < y) : decide ((0 : Int) < (y : Int)) = false := by simp; omega
theorem d128_t {y : Nat} (h : 128 < y) : decide ((128 : Int) < (y : Int)) = true := by simp; omega
theorem d128_f {y : Nat} (h : ¬ 128 < y) : decide ((128 : Int) < (y : Int)) = false := by simp; omega
set_option maxHeartbeats 1000000 in
theorem twice5_walk (r d n m : Int) (n0 : 0 ≤ n) (n1 : n ≤ 65535) (m0 : 0 ≤ m) (m1 : m ≤ 65535) (w : World) :
    Calls Try.prog 8 #[.agg #[.int .u64 (hiOf (r)), .int .u64 (loOf (r))], .int .u16 n, .int .u16 m, .agg #[.int .u64 (hiOf (d)), .int .u64 (loOf (d))]] w fun e w' => e = .returned (.bool true) ∧ Below w.heap.size w w' := by
  have G := Lib.hid goes5_any
  obtain ⟨x, hx⟩ : ∃ x : Nat, n % 3000 = x := ⟨(n % 3000).toNat, by omega⟩
  obtain ⟨y, hy⟩ : ∃ y : Nat, m % 3000 = y := ⟨(m % 3000).toNat, by omega⟩
  have x1 : x < 3000 := by omega
  have y1 : y < 3000 := by omega
  have hc := cmpB r d
  have c5 : decide (0 ≤ cmpI (r % full) (d % full)) = decide (d % full ≤ r % full) := by
    unfold cmpI; rw [decide_eq_decide]; split <;> (try split) <;> omega
  by_cases hb : d % full ≤ r % full
  · exact twice5_no _ _ _ _ n m x y _ (Lib.hid (modQ_no r d x (.inl hb))) (Lib.hid hc) G n0 n1 m0 m1 hx hy (by rw [c5]; simp [hb]) w
  · obtain ⟨r0, r1⟩ := mod_f r
    obtain ⟨d0, d1⟩ := mod_f d
    have gc : decide (0 ≤ cmpI (r % full) (d % full)) = false := by rw [c5]; simp; omega
    have hA := modQ r d x (by omega) (by omega)
    have hS := modQ r d (x + y) (by omega) (by omega)
    obtain ⟨R, hR⟩ : ∃ R, r % full = R := ⟨_, rfl⟩
    obtain ⟨D, hD⟩ : ∃ D, d % full = D := ⟨_, rfl⟩
    have hRD : R < D := by omega
    rw [hR, hD] at hA hS
    have b0 := Int.emod_nonneg (R * 2 ^ x) (show D ≠ 0 by omega)
    have b1 := Int.emod_lt_of_pos (R * 2 ^ x) (show 0 < D by omega)
    have aw : R * 2 ^ x % D % full = R * 2 ^ x % D := Int.emod_eq_of_lt b0 (by omega)
    have hB := modQ (R * 2 ^ x % D) d y (by omega) (by rw [aw, hD]; exact b1)
    rw [aw, hD] at hB
    -- to go on is to go at once
    have e1 : R * 2 ^ (x + y) = R * 2 ^ x % D * 2 ^ y + D * (R * 2 ^ x / D * 2 ^ y) := by
      rw [Int.pow_add, ← Int.mul_assoc, ← Int.mul_assoc D, ← Int.add_mul, Int.emod_add_mul_ediv]
    have e2 : R * 2 ^ (x + y) % D = R * 2 ^ x % D * 2 ^ y % D := by rw [e1, Int.add_mul_emod_self_left]
    have e3 : R * 2 ^ (x + y) / D = R * 2 ^ x % D * 2 ^ y / D + R * 2 ^ x / D * 2 ^ y := by rw [e1, Int.add_mul_ediv_left _ _ (by omega)]
    rw [e2, e3] at hS
    have hs := Lib.hid (show IntKind.i64.wrap ((x : Int) + (y : Int)) = ((x + y : Nat) : Int) by rw [IntWalk.i64_in _ (by omega)]; push_cast; rfl)
    have hs2 := Lib.hid (show wrap64 ((x : Int) + (y : Int)) = ((x + y : Nat) : Int) by unfold wrap64; push_cast; omega)
    have par := Lib.hid (show 0 < y → decide ((R * 2 ^ x % D * 2 ^ y / D + R * 2 ^ x / D * 2 ^ y) % 2 = 1) = decide (R * 2 ^ x % D * 2 ^ y / D % 2 = 1) from fun hy => by
      have : R * 2 ^ x / D * 2 ^ y = 2 * (R * 2 ^ x / D * 2 ^ (y - 1)) := by
        rw [show y = (y - 1) + 1 by omega, Int.pow_succ, show y - 1 + 1 - 1 = y - 1 by omega, ← Int.mul_assoc]; omega
      rw [this]
      generalize R * 2 ^ x / D * 2 ^ (y - 1) = t
      generalize R * 2 ^ x % D * 2 ^ y / D = s
      congr 1; rw [eq_iff_iff]; omega)
    clear e1 e2 e3
    by_cases hf : 128 < x
    · by_cases hp : 0 < y
      · rw [par.out hp] at hS
        exact twice5_y_far _ _ _ _ _ _ _ _ n m x y _ _ _ _ (Lib.hid hA) (Lib.hid hc) (Lib.hid hB) (Lib.hid hS) G n0 n1 m0 m1 hx hy gc hs.out hs2.out (d0_t hp) (d128_t hf) w
      · exact twice5_n_far _ _ _ _ _ _ _ _ n m x y _ _ _ _ _ (Lib.hid hA) (Lib.hid hc) (Lib.hid hB) (Lib.hid hS) G n0 n1 m0 m1 hx hy gc hs.out hs2.out (d0_f hp) (d128_t hf) w
    · have hO := ofW r
      rw [(wd_small r).1, (wd_small r).2.1, (wd_small r).2.2.1, (wd_small r).2.2.2] at hO
      have hL := wleftW (r % full) x (by omega) (by omega)
      rw [(wd_small r).1, (wd_small r).2.1, (wd_small r).2.2.1, (wd_small r).2.2.2, Int.toNat_natCast, hR] at hL
      have X0 : 0 ≤ R * 2 ^ x := Int.mul_nonneg (by omega) (by have := two_pow_pos x; omega)
      have X1 : R * 2 ^ x < wfull := by
        have h1 := two_pow_le (show x ≤ 128 by omega)
        rw [full_pow] at h1
        have h2 : R * 2 ^ x ≤ R * full := Int.mul_le_mul_of_nonneg_left h1 (by omega)
        have h3 : R * full ≤ (full - 1) * full := mul_le_of (by decide) (by omega)
        have h4 : (full - 1) * full < wfull := by decide +kernel
        omega
      have hV := divQ (R * 2 ^ x) d (by rw [hD]; omega)
      rw [hD, Int.emod_eq_of_lt X0 X1] at hV
      by_cases hn : 0 < x
      · have an : bits .and .u64 (wd0 (R * 2 ^ x / D)) 1 = R * 2 ^ x / D % 2 := by rw [and_one (wd0_u _)]; unfold wd0; omega
        have ho : (R * 2 ^ x / D % 2 == 1) = decide (R * 2 ^ x / D % 2 = 1) := by rw [Bool.eq_iff_iff, beq_iff_eq, decide_eq_true_eq]
        by_cases hp : 0 < y
        · rw [par.out hp] at hS
          exact twice5_y_x _ _ _ _ _ _ _ _ n m x y _ _ _ _ _ _ _ _ _ _ _ _ _ (Lib.hid hA) (Lib.hid hc) (Lib.hid hB) (Lib.hid hS) (Lib.hid hO) (Lib.hid hL) (Lib.hid hV) G n0 n1 m0 m1 hx hy gc hs.out hs2.out (d0_t hp) (d128_f hf) (d0_t hn) an ho w
        · exact twice5_n_x _ _ _ _ _ _ _ _ n m x y _ _ _ _ _ _ _ _ _ _ _ _ _ _ (Lib.hid hA) (Lib.hid hc) (Lib.hid hB) (Lib.hid hS) (Lib.hid hO) (Lib.hid hL) (Lib.hid hV) G n0 n1 m0 m1 hx hy gc hs.out hs2.out (d0_f hp) (d128_f hf) (d0_t hn) an ho w
      · obtain rfl : x = 0 := by omega
        have ho : decide (R * 2 ^ 0 / D % 2 = 1) = false := by
          rw [Int.pow_zero, Int.mul_one, Int.ediv_eq_zero_of_lt (by omega) (by omega)]; rfl
        by_cases hp : 0 < y
        · rw [par.out hp] at hS
          exact twice5_y_nil _ _ _ _ _ _ _ _ n m 0 y _ _ _ _ _ _ _ _ _ _ _ _ (Lib.hid hA) (Lib.hid hc) (Lib.hid hB) (Lib.hid hS) (Lib.hid hO) (Lib.hid hL) (Lib.hid hV) G n0 n1 m0 m1 hx hy gc hs.out hs2.out (d0_t hp) (d128_f hf) (d0_f hn) ho w
        · exact twice5_n_nil _ _ _ _ _ _ _ _ n m 0 y _ _ _ _ _ _ _ _ _ _ _ _ _ (Lib.hid hA) (Lib.hid hc) (Lib.hid hB) (Lib.hid hS) (Lib.hid hO) (Lib.hid hL) (Lib.hid hV) G n0 n1 m0 m1 hx hy gc hs.out hs2.out (d0_f hp) (d128_f hf) (d0_f hn) ho w
theorem twice5_law (rh rl n m dh dl : Int) (urh : U64 rh) (url : U64 rl) (un : 0 ≤ n ∧ n ≤ 65535) (um : 0 ≤ m ∧ m ≤ 65535) (udh : U64 dh) (udl : U64 dl) (w : World) :
    Calls Try.prog 8 #[.agg #[.int .u64 rh, .int .u64 rl], .int .u16 n, .int .u16 m, .agg #[.int .u64 dh, .int .u64 dl]] w fun e w' => e = .returned (.bool true) ∧ Below w.heap.size w w' := by
  have h := twice5_walk (val rh rl) (val dh dl) n m un.1 un.2 um.1 um.2 w
  rw [(hl_val urh url).1, (hl_val urh url).2, (hl_val udh udl).1, (hl_val udh udl).2] at h
  exact h


end Go.Proofs.Ytlmgebanfjclcaa
