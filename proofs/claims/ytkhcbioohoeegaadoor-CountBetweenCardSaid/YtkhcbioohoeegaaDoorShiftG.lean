/-
  Contracts of package shift over plain numbers.
-/
import Derived.Test.YtkhcbioohoeegaaDoorShiftF
import Derived.Test.YtkhcbioohoeegaaDoorWideN
set_option linter.unusedVariables false
set_option maxRecDepth 100000
namespace Go.Proofs.YtkhcbioohoeegaaDoor
open Go.RowKit

/-- A number shifted right, its lowest bit 1 if something fell off. -/
def jamN (x : Int) (k : Nat) : Int := if x % 2 ^ k = 0 then x / 2 ^ k else x / 2 ^ k / 2 * 2 + 1

theorem or_one {v : Int} (h : U64 v) : bits .or .u64 v 1 = v / 2 * 2 + 1 := by
  have h0 := h.1; have h1 := h.2
  rw [u64_or _ _ h0 h1 (by decide) (by decide)]
  obtain ⟨V, rfl⟩ := Int.eq_ofNat_of_zero_le h0
  rw [Int.toNat_natCast]
  have e : V ||| (1 : Int).toNat = V / 2 * 2 + 1 := by
    have e1 : (1 : Int).toNat = 1 := rfl
    rw [e1]
    have a1 := Nat.two_pow_add_eq_or_of_lt (i := 1) (b := V % 2) (by omega) (V / 2)
    have a2 := Nat.two_pow_add_eq_or_of_lt (i := 1) (b := 1) (by omega) (V / 2)
    have a3 : V = 2 ^ 1 * (V / 2) + V % 2 := by omega
    rw [a1] at a3
    have a4 : V ||| 1 = 2 ^ 1 * (V / 2) ||| 1 := by
      have : (V % 2 ||| 1) = 1 := by rcases Nat.mod_two_eq_zero_or_one V with h | h <;> rw [h] <;> rfl
      conv => lhs; rw [a3]
      rw [Nat.or_assoc, this]
    rw [a4, ← a2]; omega
  rw [e]; push_cast; omega

theorem split_sum (n : Nat) : 64 * (n / 64) + n % 64 = n := by omega
theorem wd_mul_mod (x y : Int) : wd0 (x % wfull * y) = wd0 (x * y) ∧ wd1 (x % wfull * y) = wd1 (x * y) ∧ wd2 (x % wfull * y) = wd2 (x * y) ∧ wd3 (x % wfull * y) = wd3 (x * y) :=
  wd_congr (by rw [Int.mul_emod, Int.emod_emod_of_dvd x (Int.dvd_refl _), ← Int.mul_emod])
theorem lft_wd (x : Int) (k : Nat) : ∀ (j : Int), j = 0 ∨ j = 1 ∨ j = 2 ∨ j = 3 →
    lft (wd0 x) (wd1 x) (wd2 x) (wd3 x) ((k / 64 : Nat) : Int) (k % 64) j = (if j = 0 then wd0 (x * 2 ^ k) else if j = 1 then wd1 (x * 2 ^ k) else if j = 2 then wd2 (x * 2 ^ k) else wd3 (x * 2 ^ k)) := by
  have h := left_wd (wd0_u x) (wd1_u x) (wd2_u x) (wd3_u x) (k / 64) (p := k % 64) (by omega)
  rw [split_sum, wval_wd_mod] at h
  obtain ⟨m0, m1, m2, m3⟩ := wd_mul_mod x (2 ^ k)
  rw [m0, m1, m2, m3] at h
  obtain ⟨g0, g1, g2, g3⟩ := h
  rintro j (rfl | rfl | rfl | rfl)
  · exact g0
  · exact g1
  · exact g2
  · exact g3
theorem rgt_wd (x : Int) (k : Nat) : ∀ (j : Int), j = 0 ∨ j = 1 ∨ j = 2 ∨ j = 3 →
    rgt (wd0 x) (wd1 x) (wd2 x) (wd3 x) ((k / 64 : Nat) : Int) (k % 64) j = (if j = 0 then wd0 (x % wfull / 2 ^ k) else if j = 1 then wd1 (x % wfull / 2 ^ k) else if j = 2 then wd2 (x % wfull / 2 ^ k) else wd3 (x % wfull / 2 ^ k)) := by
  have h := right_wd (wd0_u x) (wd1_u x) (wd2_u x) (wd3_u x) (k / 64) (p := k % 64) (by omega)
  rw [split_sum, wval_wd_mod] at h
  obtain ⟨g0, g1, g2, g3⟩ := h
  rintro j (rfl | rfl | rfl | rfl)
  · exact g0
  · exact g1
  · exact g2
  · exact g3
theorem wd_full (x : Int) : wd0 (x % full) = loOf x ∧ wd1 (x % full) = hiOf x ∧ wd2 (x % full) = 0 ∧ wd3 (x % full) = 0 := by
  unfold wd0 wd1 wd2 wd3 loOf hiOf full; omega
theorem wd_lo01 (x : Int) : wd0 x = loOf x ∧ wd1 x = hiOf x := ⟨rfl, rfl⟩
theorem hl_mul_mod (x y : Int) : hiOf (x % full * y) = hiOf (x * y) ∧ loOf (x % full * y) = loOf (x * y) :=
  hl_congr (by rw [Int.mul_emod, Int.emod_emod_of_dvd x (Int.dvd_refl _), ← Int.mul_emod])
theorem lft2_hl (x : Int) (k : Nat) : lft2 (loOf x) (hiOf x) ((k / 64 : Nat) : Int) (k % 64) 0 = loOf (x * 2 ^ k) ∧ lft2 (loOf x) (hiOf x) ((k / 64 : Nat) : Int) (k % 64) 1 = hiOf (x * 2 ^ k) := by
  obtain ⟨f0, f1, f2, f3⟩ := wd_full x
  have h0 := lft_wd (x % full) k 0 (by simp); have h1 := lft_wd (x % full) k 1 (by simp)
  rw [f0, f1, f2, f3] at h0 h1
  rw [lft2_eq, lft2_eq, h0, h1]
  exact ⟨(hl_mul_mod x _).2, (hl_mul_mod x _).1⟩
theorem mod_full_w (x : Int) : x % full % wfull = x % full := by unfold full wfull; omega
theorem rgt2_hl (x : Int) (k : Nat) : rgt2 (loOf x) (hiOf x) ((k / 64 : Nat) : Int) (k % 64) 0 = loOf (x % full / 2 ^ k) ∧ rgt2 (loOf x) (hiOf x) ((k / 64 : Nat) : Int) (k % 64) 1 = hiOf (x % full / 2 ^ k) := by
  obtain ⟨f0, f1, f2, f3⟩ := wd_full x
  have h0 := rgt_wd (x % full) k 0 (by simp); have h1 := rgt_wd (x % full) k 1 (by simp)
  rw [f0, f1, f2, f3, mod_full_w] at h0 h1
  rw [rgt2_eq, rgt2_eq, h0, h1]
  exact ⟨rfl, rfl⟩

theorem div_back (y : Int) (k : Nat) (h0 : 0 ≤ y) : 0 ≤ y / 2 ^ k ∧ y / 2 ^ k ≤ y ∧ 0 ≤ y / 2 ^ k * 2 ^ k ∧ y / 2 ^ k * 2 ^ k ≤ y ∧ (y / 2 ^ k * 2 ^ k = y ↔ y % 2 ^ k = 0) := by
  have hp := two_pow_pos k
  have e := Int.emod_add_mul_ediv y (2 ^ k)
  have r := Int.emod_nonneg y (show (2 : Int) ^ k ≠ 0 by omega)
  have q := Int.ediv_nonneg h0 (show (0 : Int) ≤ 2 ^ k by omega)
  have q2 : y / 2 ^ k ≤ 2 ^ k * (y / 2 ^ k) := by
    have := Int.mul_le_mul_of_nonneg_right (show (1 : Int) ≤ 2 ^ k by omega) q
    omega
  rw [Int.mul_comm (y / 2 ^ k)]
  have q3 : 0 ≤ 2 ^ k * (y / 2 ^ k) := Int.mul_nonneg (by omega) q
  generalize 2 ^ k * (y / 2 ^ k) = z at *
  omega
theorem wd_inj {x y : Int} (h0 : 0 ≤ x) (h1 : x < wfull) (g0 : 0 ≤ y) (g1 : y < wfull) : (wd0 x = wd0 y ∧ wd1 x = wd1 y ∧ wd2 x = wd2 y ∧ wd3 x = wd3 y) ↔ x = y := by
  constructor
  · rintro ⟨e0, e1, e2, e3⟩
    rw [← wval_wd h0 h1, ← wval_wd g0 g1, e0, e1, e2, e3]
  · rintro rfl; exact ⟨rfl, rfl, rfl, rfl⟩
theorem hl_inj {x y : Int} (h0 : 0 ≤ x) (h1 : x < full) (g0 : 0 ≤ y) (g1 : y < full) : (loOf x = loOf y ∧ hiOf x = hiOf y) ↔ x = y := by
  constructor
  · rintro ⟨e0, e1⟩
    rw [← val_hiLo h0 h1, ← val_hiLo g0 g1, e0, e1]
  · rintro rfl; exact ⟨rfl, rfl⟩
theorem mod_w (x : Int) : 0 ≤ x % wfull ∧ x % wfull < wfull := by unfold wfull; omega
theorem mod_f (x : Int) : 0 ≤ x % full ∧ x % full < full := by unfold full; omega

/-! ### 256 bits -/
section
variable (x n : Int) (n0 : -9223372036854775808 ≤ n) (n1 : n ≤ 9223372036854775807)
include n0 n1

theorem leftG (w : World) : Calls Tryd.prog 48 #[.agg #[.int .u64 (wd0 x), .int .u64 (wd1 x), .int .u64 (wd2 x), .int .u64 (wd3 x)], .int .i64 n] w fun e w' =>
    e = .returned (.agg #[.int .u64 (wd0 (x * 2 ^ n.toNat)), .int .u64 (wd1 (x * 2 ^ n.toNat)), .int .u64 (wd2 (x * 2 ^ n.toNat)), .int .u64 (wd3 (x * 2 ^ n.toNat))]) ∧ Below w.heap.size w w' := by
  have h := left4_any (wd0 x) (wd1 x) (wd2 x) (wd3 x) n (wd0_u x) (wd1_u x) (wd2_u x) (wd3_u x) n0 n1 w
  rw [lft_wd x n.toNat 0 (by simp), lft_wd x n.toNat 1 (by simp), lft_wd x n.toNat 2 (by simp), lft_wd x n.toNat 3 (by simp)] at h
  exact h
theorem rightG (w : World) : Calls Tryd.prog 54 #[.agg #[.int .u64 (wd0 x), .int .u64 (wd1 x), .int .u64 (wd2 x), .int .u64 (wd3 x)], .int .i64 n] w fun e w' =>
    e = .returned (.agg #[.int .u64 (wd0 (x % wfull / 2 ^ n.toNat)), .int .u64 (wd1 (x % wfull / 2 ^ n.toNat)), .int .u64 (wd2 (x % wfull / 2 ^ n.toNat)), .int .u64 (wd3 (x % wfull / 2 ^ n.toNat))]) ∧ Below w.heap.size w w' := by
  have h := right4_any (wd0 x) (wd1 x) (wd2 x) (wd3 x) n (wd0_u x) (wd1_u x) (wd2_u x) (wd3_u x) n0 n1 w
  rw [rgt_wd x n.toNat 0 (by simp), rgt_wd x n.toNat 1 (by simp), rgt_wd x n.toNat 2 (by simp), rgt_wd x n.toNat 3 (by simp)] at h
  exact h
theorem lostG (w : World) : Calls Tryd.prog 53 #[.agg #[.int .u64 (wd0 x), .int .u64 (wd1 x), .int .u64 (wd2 x), .int .u64 (wd3 x)], .int .i64 n] w fun e w' =>
    e = .returned (.bool (x % wfull % 2 ^ n.toNat != 0)) ∧ Below w.heap.size w w' := by
  obtain ⟨m0, m1⟩ := mod_w x
  obtain ⟨q0, q1, b0, b1, b2⟩ := div_back (x % wfull) n.toNat m0
  refine lost4_core (wd0 x) (wd1 x) (wd2 x) (wd3 x) _ _ _ _ _ _ _ _ n _ (Lib.hid (rightG x n n0 n1)) (Lib.hid (leftG (x % wfull / 2 ^ n.toNat) n n0 n1)) (fun w => ?_) w
  have h := neq_of_eql (eql_wide (wd0 (x % wfull / 2 ^ n.toNat * 2 ^ n.toNat)) (wd1 (x % wfull / 2 ^ n.toNat * 2 ^ n.toNat)) (wd2 (x % wfull / 2 ^ n.toNat * 2 ^ n.toNat)) (wd3 (x % wfull / 2 ^ n.toNat * 2 ^ n.toNat)) (wd0 x) (wd1 x) (wd2 x) (wd3 x) w)
  rw [h]
  obtain ⟨e0, e1, e2, e3⟩ := wd_mod x
  have hi := wd_inj b0 (show x % wfull / 2 ^ n.toNat * 2 ^ n.toNat < wfull by omega) m0 m1
  rw [e0, e1, e2, e3, b2] at hi
  congr 2
  rw [Bool.eq_iff_iff]
  simp only [Bool.not_eq_true', decide_eq_false_iff_not, bne_iff_ne, ne_eq, hi]
theorem wleftW (w : World) : Calls Tryd.prog 25 #[.agg #[.int .u64 (wd0 x), .int .u64 (wd1 x), .int .u64 (wd2 x), .int .u64 (wd3 x)], .int .i64 n] w fun e w' =>
    e = .returned (.agg #[.int .u64 (wd0 (x * 2 ^ n.toNat)), .int .u64 (wd1 (x * 2 ^ n.toNat)), .int .u64 (wd2 (x * 2 ^ n.toNat)), .int .u64 (wd3 (x * 2 ^ n.toNat))]) ∧ Below w.heap.size w w' :=
  xwideleft_core _ _ _ _ _ _ _ _ n (Lib.hid (leftG x n n0 n1)) w
theorem wrightW (w : World) : Calls Tryd.prog 33 #[.agg #[.int .u64 (wd0 x), .int .u64 (wd1 x), .int .u64 (wd2 x), .int .u64 (wd3 x)], .int .i64 n] w fun e w' =>
    e = .returned (.agg #[.int .u64 (wd0 (x % wfull / 2 ^ n.toNat)), .int .u64 (wd1 (x % wfull / 2 ^ n.toNat)), .int .u64 (wd2 (x % wfull / 2 ^ n.toNat)), .int .u64 (wd3 (x % wfull / 2 ^ n.toNat))]) ∧ Below w.heap.size w w' :=
  xwideright_core _ _ _ _ _ _ _ _ n (Lib.hid (rightG x n n0 n1)) w
theorem lostW (w : World) : Calls Tryd.prog 32 #[.agg #[.int .u64 (wd0 x), .int .u64 (wd1 x), .int .u64 (wd2 x), .int .u64 (wd3 x)], .int .i64 n] w fun e w' =>
    e = .returned (.bool (x % wfull % 2 ^ n.toNat != 0)) ∧ Below w.heap.size w w' :=
  xlost_core _ _ _ _ n _ (Lib.hid (lostG x n n0 n1)) w

/-! ### 128 bits -/
theorem leftD (w : World) : Calls Tryd.prog 55 #[.agg #[.int .u64 (loOf x), .int .u64 (hiOf x)], .int .i64 n] w fun e w' =>
    e = .returned (.agg #[.int .u64 (loOf (x * 2 ^ n.toNat)), .int .u64 (hiOf (x * 2 ^ n.toNat))]) ∧ Below w.heap.size w w' := by
  have h := left2_any (loOf x) (hiOf x) n (loOf_u x) (hiOf_u x) n0 n1 w
  rw [(lft2_hl x n.toNat).1, (lft2_hl x n.toNat).2] at h
  exact h
theorem rightD (w : World) : Calls Tryd.prog 51 #[.agg #[.int .u64 (loOf x), .int .u64 (hiOf x)], .int .i64 n] w fun e w' =>
    e = .returned (.agg #[.int .u64 (loOf (x % full / 2 ^ n.toNat)), .int .u64 (hiOf (x % full / 2 ^ n.toNat))]) ∧ Below w.heap.size w w' := by
  have h := right2_any (loOf x) (hiOf x) n (loOf_u x) (hiOf_u x) n0 n1 w
  rw [(rgt2_hl x n.toNat).1, (rgt2_hl x n.toNat).2] at h
  exact h
theorem leftB (w : World) : Calls Tryd.prog 38 #[.agg #[.int .u64 (hiOf x), .int .u64 (loOf x)], .int .i64 n] w fun e w' =>
    e = .returned (.agg #[.int .u64 (hiOf (x * 2 ^ n.toNat)), .int .u64 (loOf (x * 2 ^ n.toNat))]) ∧ Below w.heap.size w w' :=
  xleft_core _ _ n _ _ (Lib.hid (leftD x n n0 n1)) w
theorem rightB (w : World) : Calls Tryd.prog 29 #[.agg #[.int .u64 (hiOf x), .int .u64 (loOf x)], .int .i64 n] w fun e w' =>
    e = .returned (.agg #[.int .u64 (hiOf (x % full / 2 ^ n.toNat)), .int .u64 (loOf (x % full / 2 ^ n.toNat))]) ∧ Below w.heap.size w w' :=
  xright_core _ _ n _ _ (Lib.hid (rightD x n n0 n1)) w
end

end Go.Proofs.YtkhcbioohoeegaaDoor
