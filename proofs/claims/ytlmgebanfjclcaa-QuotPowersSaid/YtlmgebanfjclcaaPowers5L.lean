/-
  QuotPowers over digits.
-/
import Derived.Test.YtlmgebanfjclcaaPowers5
import Derived.Test.YtlmgebanfjclcaaGoes5L
set_option linter.unusedVariables false
set_option linter.unusedSimpArgs false
set_option maxRecDepth 100000
namespace Go.Proofs.Ytlmgebanfjclcaa
open Go.RowKit
attribute [local go_sem ↓] Go.wp_at_zero Go.wp_at_succ

theorem powers5_walk (n c : Int) (hc0 : 0 ≤ c) (hc1 : c ≤ 255) (w : World) :
    Calls Try.prog 6 #[.agg #[.int .u64 (wd0 (n)), .int .u64 (wd1 (n)), .int .u64 (wd2 (n)), .int .u64 (wd3 (n))], .int .u8 c] w fun e w' => e = .returned (.bool true) ∧ Below w.heap.size w w' := by
  have G := Lib.hid goes5_any
  obtain ⟨k, hk⟩ : ∃ k : Nat, c % 128 = k := ⟨(c % 128).toNat, by omega⟩
  have k1 : k < 128 := by omega
  have m := mod_w n
  have pk := two_pow_pos k
  have pl : (2 : Int) ^ k < full := by
    have := two_pow_le (show k + 1 ≤ 128 by omega)
    rw [full_pow, Int.pow_succ] at this; omega
  have hp : (2 : Int) ^ k % full = 2 ^ k := Int.emod_eq_of_lt (by omega) pl
  have h0 := leftB 1 k (by omega) (by omega)
  rw [Int.toNat_natCast, Int.one_mul, show hiOf 1 = 0 from rfl, show loOf 1 = 1 from rfl] at h0
  have h1 := divQ n (2 ^ k) (by rw [hp]; omega)
  rw [hp] at h1
  obtain ⟨q, hq⟩ : ∃ q, n % wfull / 2 ^ k = q := ⟨_, rfl⟩
  obtain ⟨r, hr⟩ : ∃ r, n % wfull % 2 ^ k = r := ⟨_, rfl⟩
  rw [hq, hr] at h1
  have h2 := wleftW q k (by omega) (by omega)
  have h3 := subW n (q * 2 ^ k)
  have h4 := wrightW n k (by omega) (by omega)
  rw [Int.toNat_natCast] at h2 h4
  rw [hq] at h4
  have h7 := lostW n k (by omega) (by omega)
  rw [Int.toNat_natCast, hr] at h7
  have de := Int.emod_add_mul_ediv (n % wfull) (2 ^ k)
  rw [hq, hr, Int.mul_comm] at de
  have r0 : 0 ≤ r := hr ▸ Int.emod_nonneg _ (by omega)
  have r1 : r < 2 ^ k := hr ▸ Int.emod_lt_of_pos _ pk
  have q0 : 0 ≤ q * 2 ^ k := Int.mul_nonneg (hq ▸ Int.ediv_nonneg m.1 (by omega)) (by omega)
  have ew : (n - q * 2 ^ k) % wfull = r % wfull := by
    rw [Int.sub_emod, ← Int.emod_emod_of_dvd n (Int.dvd_refl wfull), ← Int.sub_emod]; congr 1; omega
  obtain ⟨y0, y1, y2, y3⟩ := wd_congr ew
  rw [y0, y1, y2, y3, Int.emod_eq_of_lt q0 (by omega), show decide (n % wfull < q * 2 ^ k) = false by simp; omega] at h3
  have h5 := ofW r
  have h6 := zeroB r
  rw [Int.emod_eq_of_lt r0 (by omega)] at h5 h6
  by_cases hz : r = 0
  · rw [show (r == 0) = true by simp [hz]] at h6
    rw [show (r != 0) = false by simp [hz]] at h7
    exact powers5_exact _ _ _ _ _ _ _ _ _ _ _ _ _ _ _ _ _ _ _ _ c k (Lib.hid h0) (Lib.hid h1) (Lib.hid h2) (Lib.hid h3) (Lib.hid h4) (Lib.hid h5) (Lib.hid h6) (Lib.hid h7) G hc0 hc1 hk w
  · rw [show (r == 0) = false by simp [hz]] at h6
    rw [show (r != 0) = true by simp [hz]] at h7
    exact powers5_lost _ _ _ _ _ _ _ _ _ _ _ _ _ _ _ _ _ _ _ _ c k (Lib.hid h0) (Lib.hid h1) (Lib.hid h2) (Lib.hid h3) (Lib.hid h4) (Lib.hid h5) (Lib.hid h6) (Lib.hid h7) G hc0 hc1 hk w
theorem powers5_law (n0 n1 n2 n3 c : Int) (un0 : U64 n0) (un1 : U64 n1) (un2 : U64 n2) (un3 : U64 n3) (uc : 0 ≤ c ∧ c ≤ 255) (w : World) :
    Calls Try.prog 6 #[.agg #[.int .u64 n0, .int .u64 n1, .int .u64 n2, .int .u64 n3], .int .u8 c] w fun e w' => e = .returned (.bool true) ∧ Below w.heap.size w w' := by
  have h := powers5_walk (wval n0 n1 n2 n3) c uc.1 uc.2 w
  obtain ⟨e0, e1, e2, e3⟩ := wd_wval un0 un1 un2 un3
  rw [e0, e1, e2, e3] at h
  exact h


end Go.Proofs.Ytlmgebanfjclcaa
