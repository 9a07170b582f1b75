/-
  The document's answers of stage 2 in the form in which the statements ask them.
-/
import Derived.Test.YthoffjogpmkjkaaRef2
import Derived.Test.YthoffjogpmkjkaaArith2
set_option linter.unusedVariables false
namespace Go.Proofs.Ythoffjogpmkjkaa
open Go.RowKit

theorem small_w (n : Int) : Small (n % wfull) := small_wide (by have := (mod_wfull n).2; have h : wfull ≤ wfull * wfull := by decide +kernel
                                                                omega)
theorem small_b (n : Int) : Small (n % full) := small_wide (by have := (mod_full n).2; have h : full ≤ wfull * wfull := by decide +kernel
                                                               omega)
theorem small_2w {n : Int} (h : n ≤ 2 * wfull) : Small n := small_wide (by have h1 : 2 * wfull ≤ wfull * wfull := by decide +kernel
                                                                           omega)
theorem ref2_addN (n m : Int) (w : World) : Calls Try.prog 18 #[.agg #[.int .u64 (wd0 n), .int .u64 (wd1 n), .int .u64 (wd2 n), .int .u64 (wd3 n)], .agg #[.int .u64 (wd0 m), .int .u64 (wd1 m), .int .u64 (wd2 m), .int .u64 (wd3 m)]] w fun e w' =>
    e = .returned (.tuple #[.agg #[.int .u64 (wd0 (n + m)), .int .u64 (wd1 (n + m)), .int .u64 (wd2 (n + m)), .int .u64 (wd3 (n + m))], .bool (decide (wfull ≤ n % wfull + m % wfull))]) ∧ Below w.heap.size w w' :=
  (ref2_add n m (small_w n) (small_w m) w).mono fun e w' ⟨he, hb⟩ => ⟨he.trans (by
    obtain ⟨h0, h1, h2, h3⟩ := wd_add_mod n m
    have hg := blen_gt (n := n % wfull + m % wfull) (by have := (mod_wfull n).1; have := (mod_wfull m).1; omega) 256
    rw [wfull_pow] at hg
    rw [h0, h1, h2, h3, ← hg]; rfl), hb⟩
theorem ref2_subN (n m : Int) (w : World) : Calls Try.prog 20 #[.agg #[.int .u64 (wd0 n), .int .u64 (wd1 n), .int .u64 (wd2 n), .int .u64 (wd3 n)], .agg #[.int .u64 (wd0 m), .int .u64 (wd1 m), .int .u64 (wd2 m), .int .u64 (wd3 m)]] w fun e w' =>
    e = .returned (.tuple #[.agg #[.int .u64 (wd0 (n - m)), .int .u64 (wd1 (n - m)), .int .u64 (wd2 (n - m)), .int .u64 (wd3 (n - m))], .bool (decide (n % wfull < m % wfull))]) ∧ Below w.heap.size w w' := by
  have hn := mod_wfull n; have hm := mod_wfull m
  have CM : ∀ w v v', IsNum w v (n % wfull) → IsNum w v' (m % wfull) → Calls Try.prog 23 #[v, v'] w fun e w' => e = .returned (.int .i64 (cmpI (n % wfull) (m % wfull))) ∧ Below w.heap.size w w' := fun w v v' x y => cmp_num x y
  have cl := cmpI_lt (n % wfull) (m % wfull)
  by_cases h : n % wfull < m % wfull
  · refine (ref2_sub_yes n m _ CM (by rw [cl]; simp [h]) (small_w n) (small_2w (by unfold wfull; omega)) (small_2w (by omega)) (by omega : m % wfull ≤ n % wfull + wfull) w).mono fun e w' ⟨he, hb⟩ => ⟨he.trans ?_, hb⟩
    obtain ⟨h0, h1, h2, h3⟩ := wd_congr (n := n % wfull + wfull - m % wfull) (m := n - m) (by
      rw [show n % wfull + wfull - m % wfull = n % wfull - m % wfull + wfull by omega, Int.add_emod_right, ← Int.sub_emod])
    rw [h0, h1, h2, h3, decide_eq_true h]
  · refine (ref2_sub_no n m _ CM (by rw [cl]; simp; omega) (small_w n) (by omega : m % wfull ≤ n % wfull) w).mono fun e w' ⟨he, hb⟩ => ⟨he.trans ?_, hb⟩
    obtain ⟨h0, h1, h2, h3⟩ := wd_sub_mod n m
    rw [h0, h1, h2, h3, decide_eq_false h]
theorem ref2_mulN (n m : Int) (w : World) : Calls Try.prog 30 #[.agg #[.int .u64 (hiOf n), .int .u64 (loOf n)], .agg #[.int .u64 (hiOf m), .int .u64 (loOf m)]] w fun e w' =>
    e = .returned (.agg #[.int .u64 (wd0 (n % full * (m % full))), .int .u64 (wd1 (n % full * (m % full))), .int .u64 (wd2 (n % full * (m % full))), .int .u64 (wd3 (n % full * (m % full)))]) ∧ Below w.heap.size w w' := ref2_mul n m (small_b n) (small_b m) w
theorem shl128 {w : World} {v : Value} {n : Int} (x : IsNum w v n) (hn : Small n) : Calls Try.prog 27 #[v, .int .i64 128] w (RetNum w (n * full)) := by
  have h := shl_num x hn 128 (by omega)
  rw [full_pow] at h; exact h
theorem shr128 {w : World} {v : Value} {n : Int} (x : IsNum w v n) : Calls Try.prog 35 #[v, .int .i64 128] w (RetNum w (n / full)) := by
  have h := shr_num x 128 (by decide)
  rw [full_pow] at h; exact h
theorem bits_hi {k : Int} {w : World} {v : Value} (x : IsNum w v (k % wfull / full)) : Calls Try.prog 34 #[v] w fun e w' => e = .returned (.agg #[.int .u64 (hiOf (k / full)), .int .u64 (loOf (k / full))]) ∧ Below w.heap.size w w' :=
  (bits_num2 x).mono fun e w' ⟨he, hb⟩ => ⟨he.trans (by
    obtain ⟨h0, h1⟩ := hl_congr (n := k % wfull / full) (m := k / full) (by unfold wfull full; omega)
    rw [h0, h1]), hb⟩
theorem bits_lo {k : Int} {w : World} {v : Value} (x : IsNum w v (k % wfull)) : Calls Try.prog 34 #[v] w fun e w' => e = .returned (.agg #[.int .u64 (hiOf k), .int .u64 (loOf k)]) ∧ Below w.heap.size w w' :=
  (bits_num2 x).mono fun e w' ⟨he, hb⟩ => ⟨he.trans (by
    obtain ⟨h0, h1⟩ := hl_congr (n := k % wfull) (m := k) (by unfold wfull full; omega)
    rw [h0, h1]), hb⟩
theorem len_zero {w : World} {ao : Option Addr} {k cap : Nat} {n : Int} (x : IsNum w (.slice ao k cap) n) : ((k : Int) == 0) = (n == 0) := by
  obtain ⟨ao', k', cap', ds, e, h1, h2, h3⟩ := x
  cases e
  have hl := h1.1
  rw [Bool.eq_iff_iff]; simp only [beq_iff_eq]
  constructor
  · intro h
    have : ds = [] := List.eq_nil_of_length_eq_zero (by omega)
    subst this; rw [← h2]; rfl
  · intro h
    have := norm_len h1.2.2.2.1 h3 (k := 0) (by rw [h2, h]; decide)
    omega

end Go.Proofs.Ythoffjogpmkjkaa
