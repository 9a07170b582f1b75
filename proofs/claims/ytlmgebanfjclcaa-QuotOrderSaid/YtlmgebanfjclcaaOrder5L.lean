/-
  QuotOrder over digits.
-/
import Derived.Test.YtlmgebanfjclcaaOrder50
import Derived.Test.YtlmgebanfjclcaaOrder51
import Derived.Test.YtlmgebanfjclcaaOrder52
import Derived.Test.YtlmgebanfjclcaaOrder53
import Derived.Test.YtlmgebanfjclcaaGoes5L
set_option linter.unusedVariables false
set_option linter.unusedSimpArgs false
set_option maxRecDepth 100000
namespace Go.Proofs.Ytlmgebanfjclcaa
open Go.RowKit
attribute [local go_sem ↓] Go.wp_at_zero Go.wp_at_succ

theorem cmp5_gt (x y : Int) : decide (0 < cmpI x y) = decide (y < x) := by
  unfold cmpI; rw [decide_eq_decide]; split <;> (try split) <;> omega
theorem cmp5_le (x y : Int) : decide (cmpI x y ≤ 0) = decide (x ≤ y) := by
  unfold cmpI; rw [decide_eq_decide]; split <;> (try split) <;> omega
/-- What quotients of two numbers by two divisors are to one another. -/
theorem quot_mono {A B P Q : Int} (a0 : 0 ≤ A) (ab : A ≤ B) (p0 : 0 < P) (pq : P ≤ Q) : A / P ≤ B / P ∧ A / Q ≤ A / P := by
  refine ⟨Int.ediv_le_ediv p0 ab, ?_⟩
  refine (Int.le_ediv_iff_mul_le p0).2 ?_
  have h1 : A / Q * P ≤ A / Q * Q := Int.mul_le_mul_of_nonneg_left pq (Int.ediv_nonneg a0 (by omega))
  exact Int.le_trans h1 (Int.ediv_mul_le _ (by omega))
theorem quot_w {A P : Int} (a0 : 0 ≤ A) (a1 : A < wfull) (p0 : 0 < P) : A / P % wfull = A / P := Int.emod_eq_of_lt (Int.ediv_nonneg a0 (by omega)) (by have := Int.ediv_le_self P a0; omega)
theorem order5_case0 (n m d e : Int) (hA : n % wfull ≤ m % wfull) (hP : d % full ≤ e % full) (w : World) :
    Calls Try.prog 7 #[.agg #[.int .u64 (wd0 (n)), .int .u64 (wd1 (n)), .int .u64 (wd2 (n)), .int .u64 (wd3 (n))], .agg #[.int .u64 (wd0 (m)), .int .u64 (wd1 (m)), .int .u64 (wd2 (m)), .int .u64 (wd3 (m))], .agg #[.int .u64 (hiOf (d)), .int .u64 (loOf (d))], .agg #[.int .u64 (hiOf (e)), .int .u64 (loOf (e))]] w fun e w' => e = .returned (.bool true) ∧ Below w.heap.size w w' := by
  have G := Lib.hid goes5_any
  have h0 := cmpW n m
  have h1 := cmpB d e
  have h2 := zeroB d
  obtain ⟨a0, a1⟩ := mod_w n
  obtain ⟨b0, b1⟩ := mod_w m
  obtain ⟨p0, p1⟩ := mod_f d
  obtain ⟨q0, q1⟩ := mod_f e
  have g1 : decide (0 < cmpI (n % wfull) (m % wfull)) = false := by rw [cmp5_gt]; simp; omega
  have g2 : decide (0 < cmpI (d % full) (e % full)) = false := by rw [cmp5_gt]; simp; omega
  by_cases hz : d % full = 0
  · rw [hz, show ((0 : Int) == 0) = true from rfl] at h2
    exact order5_0_zero _ _ _ _ _ _ _ _ _ _ _ _ _ _ (Lib.hid h0) (Lib.hid h1) (Lib.hid h2) G g1 g2 w
  · rw [show (d % full == 0) = false by simp [hz]] at h2
    have h3 := divQ n d hz
    have h4 := divQ m d hz
    have h5 := divQ n e (by omega)
    have h6 := cmpW (n % wfull / (d % full)) (m % wfull / (d % full))
    have h7 := cmpW (n % wfull / (e % full)) (n % wfull / (d % full))
    obtain ⟨k1, k2⟩ := quot_mono (A := n % wfull) (B := m % wfull) (P := d % full) (Q := e % full) a0 (by omega) (by omega) (by omega)
    rw [quot_w a0 a1 (by omega), quot_w b0 b1 (by omega)] at h6
    rw [quot_w a0 a1 (by omega), quot_w a0 a1 (by omega)] at h7
    exact order5_0_div _ _ _ _ _ _ _ _ _ _ _ _ _ _ _ _ _ _ _ _ _ _ _ _ _ _ _ _ _ _ _ _ _ _ _ _ _ (Lib.hid h0) (Lib.hid h1) (Lib.hid h2) (Lib.hid h3) (Lib.hid h4) (Lib.hid h5) (Lib.hid h6) (Lib.hid h7) G g1 g2 (by rw [cmp5_le]; simp [k1]) (by rw [cmp5_le]; simp [k2]) w
theorem order5_case1 (n m d e : Int) (hA : n % wfull ≤ m % wfull) (hP : e % full < d % full) (w : World) :
    Calls Try.prog 7 #[.agg #[.int .u64 (wd0 (n)), .int .u64 (wd1 (n)), .int .u64 (wd2 (n)), .int .u64 (wd3 (n))], .agg #[.int .u64 (wd0 (m)), .int .u64 (wd1 (m)), .int .u64 (wd2 (m)), .int .u64 (wd3 (m))], .agg #[.int .u64 (hiOf (d)), .int .u64 (loOf (d))], .agg #[.int .u64 (hiOf (e)), .int .u64 (loOf (e))]] w fun e w' => e = .returned (.bool true) ∧ Below w.heap.size w w' := by
  have G := Lib.hid goes5_any
  have h0 := cmpW n m
  have h1 := cmpB d e
  have h2 := zeroB e
  obtain ⟨a0, a1⟩ := mod_w n
  obtain ⟨b0, b1⟩ := mod_w m
  obtain ⟨p0, p1⟩ := mod_f e
  obtain ⟨q0, q1⟩ := mod_f d
  have g1 : decide (0 < cmpI (n % wfull) (m % wfull)) = false := by rw [cmp5_gt]; simp; omega
  have g2 : decide (0 < cmpI (d % full) (e % full)) = true := by rw [cmp5_gt]; simp; omega
  by_cases hz : e % full = 0
  · rw [hz, show ((0 : Int) == 0) = true from rfl] at h2
    exact order5_1_zero _ _ _ _ _ _ _ _ _ _ _ _ _ _ (Lib.hid h0) (Lib.hid h1) (Lib.hid h2) G g1 g2 w
  · rw [show (e % full == 0) = false by simp [hz]] at h2
    have h3 := divQ n e hz
    have h4 := divQ m e hz
    have h5 := divQ n d (by omega)
    have h6 := cmpW (n % wfull / (e % full)) (m % wfull / (e % full))
    have h7 := cmpW (n % wfull / (d % full)) (n % wfull / (e % full))
    obtain ⟨k1, k2⟩ := quot_mono (A := n % wfull) (B := m % wfull) (P := e % full) (Q := d % full) a0 (by omega) (by omega) (by omega)
    rw [quot_w a0 a1 (by omega), quot_w b0 b1 (by omega)] at h6
    rw [quot_w a0 a1 (by omega), quot_w a0 a1 (by omega)] at h7
    exact order5_1_div _ _ _ _ _ _ _ _ _ _ _ _ _ _ _ _ _ _ _ _ _ _ _ _ _ _ _ _ _ _ _ _ _ _ _ _ _ (Lib.hid h0) (Lib.hid h1) (Lib.hid h2) (Lib.hid h3) (Lib.hid h4) (Lib.hid h5) (Lib.hid h6) (Lib.hid h7) G g1 g2 (by rw [cmp5_le]; simp [k1]) (by rw [cmp5_le]; simp [k2]) w
theorem order5_case2 (n m d e : Int) (hA : m % wfull < n % wfull) (hP : d % full ≤ e % full) (w : World) :
    Calls Try.prog 7 #[.agg #[.int .u64 (wd0 (n)), .int .u64 (wd1 (n)), .int .u64 (wd2 (n)), .int .u64 (wd3 (n))], .agg #[.int .u64 (wd0 (m)), .int .u64 (wd1 (m)), .int .u64 (wd2 (m)), .int .u64 (wd3 (m))], .agg #[.int .u64 (hiOf (d)), .int .u64 (loOf (d))], .agg #[.int .u64 (hiOf (e)), .int .u64 (loOf (e))]] w fun e w' => e = .returned (.bool true) ∧ Below w.heap.size w w' := by
  have G := Lib.hid goes5_any
  have h0 := cmpW n m
  have h1 := cmpB d e
  have h2 := zeroB d
  obtain ⟨a0, a1⟩ := mod_w m
  obtain ⟨b0, b1⟩ := mod_w n
  obtain ⟨p0, p1⟩ := mod_f d
  obtain ⟨q0, q1⟩ := mod_f e
  have g1 : decide (0 < cmpI (n % wfull) (m % wfull)) = true := by rw [cmp5_gt]; simp; omega
  have g2 : decide (0 < cmpI (d % full) (e % full)) = false := by rw [cmp5_gt]; simp; omega
  by_cases hz : d % full = 0
  · rw [hz, show ((0 : Int) == 0) = true from rfl] at h2
    exact order5_2_zero _ _ _ _ _ _ _ _ _ _ _ _ _ _ (Lib.hid h0) (Lib.hid h1) (Lib.hid h2) G g1 g2 w
  · rw [show (d % full == 0) = false by simp [hz]] at h2
    have h3 := divQ m d hz
    have h4 := divQ n d hz
    have h5 := divQ m e (by omega)
    have h6 := cmpW (m % wfull / (d % full)) (n % wfull / (d % full))
    have h7 := cmpW (m % wfull / (e % full)) (m % wfull / (d % full))
    obtain ⟨k1, k2⟩ := quot_mono (A := m % wfull) (B := n % wfull) (P := d % full) (Q := e % full) a0 (by omega) (by omega) (by omega)
    rw [quot_w a0 a1 (by omega), quot_w b0 b1 (by omega)] at h6
    rw [quot_w a0 a1 (by omega), quot_w a0 a1 (by omega)] at h7
    exact order5_2_div _ _ _ _ _ _ _ _ _ _ _ _ _ _ _ _ _ _ _ _ _ _ _ _ _ _ _ _ _ _ _ _ _ _ _ _ _ (Lib.hid h0) (Lib.hid h1) (Lib.hid h2) (Lib.hid h3) (Lib.hid h4) (Lib.hid h5) (Lib.hid h6) (Lib.hid h7) G g1 g2 (by rw [cmp5_le]; simp [k1]) (by rw [cmp5_le]; simp [k2]) w
theorem order5_case3 (n m d e : Int) (hA : m % wfull < n % wfull) (hP : e % full < d % full) (w : World) :
    Calls Try.prog 7 #[.agg #[.int .u64 (wd0 (n)), .int .u64 (wd1 (n)), .int .u64 (wd2 (n)), .int .u64 (wd3 (n))], .agg #[.int .u64 (wd0 (m)), .int .u64 (wd1 (m)), .int .u64 (wd2 (m)), .int .u64 (wd3 (m))], .agg #[.int .u64 (hiOf (d)), .int .u64 (loOf (d))], .agg #[.int .u64 (hiOf (e)), .int .u64 (loOf (e))]] w fun e w' => e = .returned (.bool true) ∧ Below w.heap.size w w' := by
  have G := Lib.hid goes5_any
  have h0 := cmpW n m
  have h1 := cmpB d e
  have h2 := zeroB e
  obtain ⟨a0, a1⟩ := mod_w m
  obtain ⟨b0, b1⟩ := mod_w n
  obtain ⟨p0, p1⟩ := mod_f e
  obtain ⟨q0, q1⟩ := mod_f d
  have g1 : decide (0 < cmpI (n % wfull) (m % wfull)) = true := by rw [cmp5_gt]; simp; omega
  have g2 : decide (0 < cmpI (d % full) (e % full)) = true := by rw [cmp5_gt]; simp; omega
  by_cases hz : e % full = 0
  · rw [hz, show ((0 : Int) == 0) = true from rfl] at h2
    exact order5_3_zero _ _ _ _ _ _ _ _ _ _ _ _ _ _ (Lib.hid h0) (Lib.hid h1) (Lib.hid h2) G g1 g2 w
  · rw [show (e % full == 0) = false by simp [hz]] at h2
    have h3 := divQ m e hz
    have h4 := divQ n e hz
    have h5 := divQ m d (by omega)
    have h6 := cmpW (m % wfull / (e % full)) (n % wfull / (e % full))
    have h7 := cmpW (m % wfull / (d % full)) (m % wfull / (e % full))
    obtain ⟨k1, k2⟩ := quot_mono (A := m % wfull) (B := n % wfull) (P := e % full) (Q := d % full) a0 (by omega) (by omega) (by omega)
    rw [quot_w a0 a1 (by omega), quot_w b0 b1 (by omega)] at h6
    rw [quot_w a0 a1 (by omega), quot_w a0 a1 (by omega)] at h7
    exact order5_3_div _ _ _ _ _ _ _ _ _ _ _ _ _ _ _ _ _ _ _ _ _ _ _ _ _ _ _ _ _ _ _ _ _ _ _ _ _ (Lib.hid h0) (Lib.hid h1) (Lib.hid h2) (Lib.hid h3) (Lib.hid h4) (Lib.hid h5) (Lib.hid h6) (Lib.hid h7) G g1 g2 (by rw [cmp5_le]; simp [k1]) (by rw [cmp5_le]; simp [k2]) w
theorem order5_walk (n m d e : Int) (w : World) : Calls Try.prog 7 #[.agg #[.int .u64 (wd0 (n)), .int .u64 (wd1 (n)), .int .u64 (wd2 (n)), .int .u64 (wd3 (n))], .agg #[.int .u64 (wd0 (m)), .int .u64 (wd1 (m)), .int .u64 (wd2 (m)), .int .u64 (wd3 (m))], .agg #[.int .u64 (hiOf (d)), .int .u64 (loOf (d))], .agg #[.int .u64 (hiOf (e)), .int .u64 (loOf (e))]] w fun e w' => e = .returned (.bool true) ∧ Below w.heap.size w w' := by
  by_cases h : m % wfull < n % wfull
  · by_cases g : e % full < d % full
    · exact order5_case3 n m d e h g w
    · exact order5_case2 n m d e h (by omega) w
  · by_cases g : e % full < d % full
    · exact order5_case1 n m d e (by omega) g w
    · exact order5_case0 n m d e (by omega) (by omega) w
theorem order5_law (n0 n1 n2 n3 m0 m1 m2 m3 dh dl eh el : Int) (un0 : U64 n0) (un1 : U64 n1) (un2 : U64 n2) (un3 : U64 n3) (um0 : U64 m0) (um1 : U64 m1) (um2 : U64 m2) (um3 : U64 m3) (udh : U64 dh) (udl : U64 dl) (ueh : U64 eh) (uel : U64 el) (w : World) :
    Calls Try.prog 7 #[.agg #[.int .u64 n0, .int .u64 n1, .int .u64 n2, .int .u64 n3], .agg #[.int .u64 m0, .int .u64 m1, .int .u64 m2, .int .u64 m3], .agg #[.int .u64 dh, .int .u64 dl], .agg #[.int .u64 eh, .int .u64 el]] w fun e w' => e = .returned (.bool true) ∧ Below w.heap.size w w' := by
  have h := order5_walk (wval n0 n1 n2 n3) (wval m0 m1 m2 m3) (val dh dl) (val eh el) w
  obtain ⟨e0, e1, e2, e3⟩ := wd_wval un0 un1 un2 un3
  obtain ⟨f0, f1, f2, f3⟩ := wd_wval um0 um1 um2 um3
  rw [e0, e1, e2, e3, f0, f1, f2, f3, (hl_val udh udl).1, (hl_val udh udl).2, (hl_val ueh uel).1, (hl_val ueh uel).2] at h
  exact h


end Go.Proofs.Ytlmgebanfjclcaa
