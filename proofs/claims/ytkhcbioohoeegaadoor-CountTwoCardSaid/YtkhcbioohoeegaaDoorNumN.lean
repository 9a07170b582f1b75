/-
  The document's own numbers over whole numbers: Wide, Big, Full, Len, as callers take them.
-/
import Derived.Test.YtkhcbioohoeegaaDoorWideN
import Derived.Test.YtkhcbioohoeegaaDoorNumW
import Derived.Test.YtkhcbioohoeegaaDoorNumL
import Derived.Test.YtkhcbioohoeegaaDoorNumH
set_option linter.unusedVariables false
set_option maxRecDepth 100000
namespace Go.Proofs.YtkhcbioohoeegaaDoor
open Go.RowKit
theorem wfull_pow : (2 : Int) ^ 256 = wfull := by decide +kernel
theorem full_pow : (2 : Int) ^ 128 = full := by decide +kernel

theorem wideN (n : Int) (w : World) : Calls Tryd.prog 17 #[.agg #[.int .u64 (wd0 n), .int .u64 (wd1 n), .int .u64 (wd2 n), .int .u64 (wd3 n)]] w (RetNum w (n % wfull)) := by
  have h := wide_num _ _ _ _ (wd0_u n) (wd1_u n) (wd2_u n) (wd3_u n) w
  rw [wval_wd_mod] at h; exact h
theorem bigN (n : Int) (w : World) : Calls Tryd.prog 10 #[.agg #[.int .u64 (hiOf n), .int .u64 (loOf n)]] w (RetNum w (n % full)) := by
  have h := big_num _ _ (hiOf_u n) (loOf_u n) w
  rw [val_hiLo_mod] at h; exact h
theorem lenN {w : World} {v : Value} {n : Int} (x : IsNum w v n) :
    Calls Tryd.prog 14 #[v] w fun e w' => e = .returned (.int .i64 (blen n)) ∧ Below w.heap.size w w' :=
  (len_num x).mono fun e w' ⟨he, hw⟩ => ⟨he, hw ▸ Below.refl _ _⟩
theorem small_wide {n : Int} (h : n ≤ wfull * wfull) : Small n := small_of (k := 20) (by
  have h1 : wfull * wfull < bp 20 := by decide +kernel
  omega) (by omega)
theorem pow2_le {i j : Nat} (h : i ≤ j) : (2 : Int) ^ i ≤ 2 ^ j := by
  have h1 := Nat.pow_le_pow_right (n := 2) (by decide) h
  exact_mod_cast h1
theorem blen_gt {n : Int} (h : 0 ≤ n) (k : Nat) : decide ((k : Int) < (blen n : Int)) = decide (2 ^ k ≤ n) := by
  rw [decide_eq_decide]
  by_cases h0 : n = 0
  · subst h0
    rw [blen_zero]
    have : (0 : Int) < 2 ^ k := Int.pow_pos (by decide)
    constructor
    · intro h; omega
    · intro h; omega
  · obtain ⟨j, e, h1, h2⟩ := blen_bounds (show 0 < n by omega)
    rw [e]
    constructor
    · intro h
      have : (2 : Int) ^ k ≤ 2 ^ j := pow2_le (by omega)
      omega
    · intro h
      rcases Nat.lt_or_ge k (j + 1) with g | g
      · omega
      · exfalso
        have : (2 : Int) ^ (j + 1) ≤ 2 ^ k := pow2_le g
        omega

end Go.Proofs.YtkhcbioohoeegaaDoor
