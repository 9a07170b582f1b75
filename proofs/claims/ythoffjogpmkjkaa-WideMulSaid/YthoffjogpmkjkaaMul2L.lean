/-
  The statement WideMul over its digits.
-/
import Derived.Test.YthoffjogpmkjkaaMul2
set_option linter.unusedVariables false
namespace Go.Proofs.Ythoffjogpmkjkaa
open Go.RowKit

theorem mod_full (n : Int) : 0 ≤ n % full ∧ n % full < full := ⟨Int.emod_nonneg n (by decide), Int.emod_lt_of_pos n (by decide)⟩
theorem mod_wfull (n : Int) : 0 ≤ n % wfull ∧ n % wfull < wfull := ⟨Int.emod_nonneg n (by decide), Int.emod_lt_of_pos n (by decide)⟩
theorem val_mod {h l : Int} (uh : U64 h) (ul : U64 l) : val h l % full = val h l := Int.emod_eq_of_lt (val_range uh ul).1 (val_range uh ul).2
theorem mul_one_wd (n : Int) : wd0 (n % full * (1 % full)) = loOf n ∧ wd1 (n % full * (1 % full)) = hiOf n ∧ wd2 (n % full * (1 % full)) = 0 ∧ wd3 (n % full * (1 % full)) = 0 := by
  rw [show (1 : Int) % full = 1 from by decide +kernel, Int.mul_one]; exact wd_small n
theorem mul_two64_wd (n : Int) : wd0 (n % full * (18446744073709551616 % full)) = 0 ∧ wd1 (n % full * (18446744073709551616 % full)) = loOf n ∧ wd2 (n % full * (18446744073709551616 % full)) = hiOf n ∧ wd3 (n % full * (18446744073709551616 % full)) = 0 := by
  rw [show (18446744073709551616 : Int) % full = 18446744073709551616 from by decide +kernel]
  unfold wd0 wd1 wd2 wd3 loOf hiOf full; omega
theorem join_zero_wd (n : Int) : wd0 (n % full * full) = 0 ∧ wd1 (n % full * full) = 0 ∧ wd2 (n % full * full) = loOf n ∧ wd3 (n % full * full) = hiOf n := by
  have h := wd_join n 0
  rw [show (0 : Int) % full = 0 from by decide +kernel, Int.add_zero, show loOf 0 = 0 from by decide +kernel, show hiOf 0 = 0 from by decide +kernel] at h
  exact h

theorem mul2_walk (n m k : Int) (w : World) :
    Calls Try.prog 6 #[.agg #[.int .u64 (hiOf n), .int .u64 (loOf n)], .agg #[.int .u64 (hiOf m), .int .u64 (loOf m)], .agg #[.int .u64 (hiOf k), .int .u64 (loOf k)]] w fun e w' => e = .returned (.bool true) ∧ Below w.heap.size w w' := by
  have h1 := addB m k
  have h2 := mulW n m
  have h3 := mulW n k
  have h4 := addW (n % full * (m % full)) (n % full * (k % full))
  have h5 := mulW n (m + k)
  have h6 := mulW m n
  rw [Int.mul_comm] at h6
  have h7 := mulW n 1
  obtain ⟨e0, e1, e2, e3⟩ := mul_one_wd n
  rw [e0, e1, e2, e3, show hiOf 1 = 0 from by decide +kernel, show loOf 1 = 1 from by decide +kernel] at h7
  have h8 := mulW n 18446744073709551616
  obtain ⟨f0, f1, f2, f3⟩ := mul_two64_wd n
  rw [f0, f1, f2, f3, show hiOf 18446744073709551616 = 1 from by decide +kernel, show loOf 18446744073709551616 = 0 from by decide +kernel] at h8
  have hm := mod_full m; have hk := mod_full k
  by_cases hc : full ≤ m % full + k % full
  · rw [decide_eq_true hc] at h1
    have h9 := addW (n % full * ((m + k) % full)) (n % full * full)
    have hs : (m + k) % full = m % full + k % full - full := by
      rw [Int.add_emod, ← Int.sub_emod_right]
      exact Int.emod_eq_of_lt (by omega) (by omega)
    have he : n % full * ((m + k) % full) + n % full * full = n % full * (m % full) + n % full * (k % full) := by
      rw [hs, ← Int.mul_add, ← Int.mul_add]; congr 1; omega
    rw [he] at h9
    obtain ⟨g0, g1, g2, g3⟩ := join_zero_wd n
    rw [g0, g1, g2, g3] at h9
    exact mul2_carry _ _ _ _ _ _ _ _ _ _ _ _ _ _ _ _ _ _ _ _ _ _ _ _ _ _ h1 h2 h3 h4 h5 h9 h6 h7 h8 w
  · rw [decide_eq_false hc] at h1
    have hs : (m + k) % full = m % full + k % full := by
      rw [Int.add_emod]
      exact Int.emod_eq_of_lt (by omega) (by omega)
    rw [hs, Int.mul_add] at h5
    exact mul2_plain _ _ _ _ _ _ _ _ _ _ _ _ _ _ _ _ _ _ _ _ _ h1 h2 h3 h4 h5 h6 h7 h8 w

theorem mul2_law (ah al bh bl ch cl : Int) (u1 : U64 ah) (u2 : U64 al) (u3 : U64 bh) (u4 : U64 bl) (u5 : U64 ch) (u6 : U64 cl) (w : World) :
    Calls Try.prog 6 #[.agg #[.int .u64 ah, .int .u64 al], .agg #[.int .u64 bh, .int .u64 bl], .agg #[.int .u64 ch, .int .u64 cl]] w fun e w' => e = .returned (.bool true) ∧ Below w.heap.size w w' := by
  have h := mul2_walk (val ah al) (val bh bl) (val ch cl) w
  rw [(hl_val u1 u2).1, (hl_val u1 u2).2, (hl_val u3 u4).1, (hl_val u3 u4).2, (hl_val u5 u6).1, (hl_val u5 u6).2] at h
  exact h

end Go.Proofs.Ythoffjogpmkjkaa
