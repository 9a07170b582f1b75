/-
  The statement WideOrder over its digits.
-/
import Derived.Test.YthoffjogpmkjkaaOrder2
set_option linter.unusedVariables false
namespace Go.Proofs.Ythoffjogpmkjkaa
open Go.RowKit

theorem wd_inj {n m : Int} (h0 : wd0 n = wd0 m) (h1 : wd1 n = wd1 m) (h2 : wd2 n = wd2 m) (h3 : wd3 n = wd3 m) : n % wfull = m % wfull := by
  rw [← wval_wd_mod, ← wval_wd_mod, h0, h1, h2, h3]
theorem eqw_of {n m : Int} (b : Bool) (h : decide (n % wfull = m % wfull) = b) (w : World) : (binOp .eql 24 (.agg #[.int .u64 (wd0 n), .int .u64 (wd1 n), .int .u64 (wd2 n), .int .u64 (wd3 n)]) (.agg #[.int .u64 (wd0 m), .int .u64 (wd1 m), .int .u64 (wd2 m), .int .u64 (wd3 m)])).run Try.prog w = .ok (.bool b) w := by
  rw [eql_wide, ← h]
  congr 2
  rw [decide_eq_decide]
  exact ⟨fun ⟨h0, h1, h2, h3⟩ => wd_inj h0 h1 h2 h3, fun h => by obtain ⟨h0, h1, h2, h3⟩ := wd_congr h; exact ⟨h0, h1, h2, h3⟩⟩

theorem order2_walk (n m k x y : Int) (w : World) :
    Calls Try.prog 8 #[.agg #[.int .u64 (wd0 n), .int .u64 (wd1 n), .int .u64 (wd2 n), .int .u64 (wd3 n)], .agg #[.int .u64 (wd0 m), .int .u64 (wd1 m), .int .u64 (wd2 m), .int .u64 (wd3 m)], .agg #[.int .u64 (wd0 k), .int .u64 (wd1 k), .int .u64 (wd2 k), .int .u64 (wd3 k)], .agg #[.int .u64 (hiOf x), .int .u64 (loOf x)], .agg #[.int .u64 (hiOf y), .int .u64 (loOf y)]] w fun e w' => e = .returned (.bool true) ∧ Below w.heap.size w w' := by
  have h1 := cmpW n m
  have h2 := cmpW m n
  have h3 := cmpW m k
  have h4 := subW n m
  have h5 := cmpW n k
  have h6 := cmpW (x % full) (y % full)
  obtain ⟨a0, a1, a2, a3⟩ := wd_small x
  obtain ⟨b0, b1, b2, b3⟩ := wd_small y
  have sm : ∀ z : Int, z % full % wfull = z % full := fun z => Int.emod_eq_of_lt (Int.emod_nonneg z (by decide)) (Int.lt_trans (Int.emod_lt_of_pos z (by decide)) (by decide))
  rw [a0, a1, a2, a3, b0, b1, b2, b3, sm, sm] at h6
  have h7 := cmpB x y
  have c1 := cmpI_cases (n % wfull) (m % wfull); have c2 := cmpI_cases (m % wfull) (n % wfull); have c3 := cmpI_cases (m % wfull) (k % wfull); have c4 := cmpI_cases (n % wfull) (k % wfull)
  have le_of : ∀ {a b : Int}, decide (cmpI a b ≤ 0) = decide (a ≤ b) := fun {a b} => by
    have c := cmpI_cases a b
    rw [decide_eq_decide]
    rcases Int.lt_trichotomy a b with h | h | h
    · rw [c.1 h]; simp; omega
    · rw [c.2.2 h]; simp; omega
    · rw [c.2.1 h]; simp; omega
  have gt_of : ∀ {a b : Int}, decide (0 < cmpI a b) = decide (b < a) := fun {a b} => by
    have c := cmpI_cases a b
    rw [decide_eq_decide]
    rcases Int.lt_trichotomy a b with h | h | h
    · rw [c.1 h]; simp; omega
    · rw [c.2.2 h]; simp; omega
    · rw [c.2.1 h]; simp; omega
  rcases Int.lt_trichotomy (n % wfull) (m % wfull) with h | h | h
  · rw [c1.1 h] at h1; rw [c2.2.1 h] at h2; rw [decide_eq_true h] at h4
    have E := eqw_of (n := n) (m := m) false (by simp; omega)
    by_cases hr : m % wfull ≤ k % wfull
    · exact order2_lt_yes _ _ _ _ _ _ _ _ _ _ _ _ _ _ _ _ _ _ _ _ _ _ _ h1 h2 h3 h4 h5 h6 h7 E (by rw [le_of]; simp [hr]) (by rw [gt_of]; simp; omega) w
    · exact order2_lt_no _ _ _ _ _ _ _ _ _ _ _ _ _ _ _ _ _ _ _ _ _ 0 _ h1 h2 h3 h4 h6 h7 E (by rw [le_of]; simp; omega) w
  · rw [c1.2.2 h] at h1; rw [c2.2.2 h.symm] at h2; rw [decide_eq_false (by omega)] at h4
    have E := eqw_of (n := n) (m := m) true (by simp [h])
    by_cases hr : m % wfull ≤ k % wfull
    · exact order2_eq_yes _ _ _ _ _ _ _ _ _ _ _ _ _ _ _ _ _ _ _ _ _ _ _ h1 h2 h3 h4 h5 h6 h7 E (by rw [le_of]; simp [hr]) (by rw [gt_of]; simp; omega) w
    · exact order2_eq_no _ _ _ _ _ _ _ _ _ _ _ _ _ _ _ _ _ _ _ _ _ 0 _ h1 h2 h3 h4 h6 h7 E (by rw [le_of]; simp; omega) w
  · rw [c1.2.1 h] at h1; rw [c2.1 h] at h2; rw [decide_eq_false (by omega)] at h4
    have E := eqw_of (n := n) (m := m) false (by simp; omega)
    exact order2_gt _ _ _ _ _ _ _ _ _ _ _ _ _ _ _ _ _ _ _ _ _ 0 _ h1 h2 h3 h4 h6 h7 E w

theorem order2_law (a0 a1 a2 a3 b0 b1 b2 b3 c0 c1 c2 c3 xh xl yh yl : Int) (ua0 : U64 a0) (ua1 : U64 a1) (ua2 : U64 a2) (ua3 : U64 a3) (ub0 : U64 b0) (ub1 : U64 b1) (ub2 : U64 b2) (ub3 : U64 b3) (uc0 : U64 c0) (uc1 : U64 c1) (uc2 : U64 c2) (uc3 : U64 c3) (u1 : U64 xh) (u2 : U64 xl) (u3 : U64 yh) (u4 : U64 yl) (w : World) :
    Calls Try.prog 8 #[.agg #[.int .u64 a0, .int .u64 a1, .int .u64 a2, .int .u64 a3], .agg #[.int .u64 b0, .int .u64 b1, .int .u64 b2, .int .u64 b3], .agg #[.int .u64 c0, .int .u64 c1, .int .u64 c2, .int .u64 c3], .agg #[.int .u64 xh, .int .u64 xl], .agg #[.int .u64 yh, .int .u64 yl]] w fun e w' => e = .returned (.bool true) ∧ Below w.heap.size w w' := by
  have h := order2_walk (wval a0 a1 a2 a3) (wval b0 b1 b2 b3) (wval c0 c1 c2 c3) (val xh xl) (val yh yl) w
  obtain ⟨e0, e1, e2, e3⟩ := wd_wval ua0 ua1 ua2 ua3
  obtain ⟨f0, f1, f2, f3⟩ := wd_wval ub0 ub1 ub2 ub3
  obtain ⟨g0, g1, g2, g3⟩ := wd_wval uc0 uc1 uc2 uc3
  rw [e0, e1, e2, e3, f0, f1, f2, f3, g0, g1, g2, g3, (hl_val u1 u2).1, (hl_val u1 u2).2, (hl_val u3 u4).1, (hl_val u3 u4).2] at h
  exact h

end Go.Proofs.Ythoffjogpmkjkaa
