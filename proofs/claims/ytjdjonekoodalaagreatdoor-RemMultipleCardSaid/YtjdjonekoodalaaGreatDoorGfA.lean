import Derived.Test.YtjdjonekoodalaaGreatDoorGcA
import Derived.Test.YtjdjonekoodalaaGreatDoorGwA
set_option maxHeartbeats 4000000
set_option linter.unusedVariables false
set_option maxRecDepth 100000
namespace Go.Proofs.YtjdjonekoodalaaGreatDoor
open Go.RowKit
theorem hi_nat {N : Nat} (h : N < 340282366920938463463374607431768211456) : hiOf (N : Int) = ((N / 18446744073709551616 : Nat) : Int) := by unfold hiOf; omega
theorem lo_nat (N : Nat) : loOf (N : Int) = ((N % 18446744073709551616 : Nat) : Int) := by unfold loOf; omega
theorem and_nat_hl {A B : Nat} (hA : A < 340282366920938463463374607431768211456) (hB : B < 340282366920938463463374607431768211456) :
    bits .and .u64 (hiOf A) (hiOf B) = hiOf ((A &&& B : Nat) : Int) ∧ bits .and .u64 (loOf A) (loOf B) = loOf ((A &&& B : Nat) : Int) := by
  have hAB : A &&& B < 340282366920938463463374607431768211456 := Nat.lt_of_le_of_lt Nat.and_le_left hA
  rw [hi_nat hA, hi_nat hB, hi_nat hAB, lo_nat, lo_nat, lo_nat, u64_and_nat _ _ (by omega) (by omega), u64_and_nat _ _ (by omega) (by omega)]
  constructor
  · congr 1
    have := Nat.shiftRight_and_distrib (a := A) (b := B) (i := 64)
    simp only [Nat.shiftRight_eq_div_pow] at this
    exact this.symm
  · congr 1
    have := Nat.and_mod_two_pow (a := A) (b := B) (n := 64)
    exact this.symm
theorem or_nat_hl {A B : Nat} (hA : A < 340282366920938463463374607431768211456) (hB : B < 340282366920938463463374607431768211456) :
    bits .or .u64 (hiOf A) (hiOf B) = hiOf ((A ||| B : Nat) : Int) ∧ bits .or .u64 (loOf A) (loOf B) = loOf ((A ||| B : Nat) : Int) := by
  have hAB : A ||| B < 340282366920938463463374607431768211456 := Nat.or_lt_two_pow (n := 128) hA hB
  rw [hi_nat hA, hi_nat hB, hi_nat hAB, lo_nat, lo_nat, lo_nat, u64_or_nat _ _ (by omega) (by omega), u64_or_nat _ _ (by omega) (by omega)]
  constructor
  · congr 1
    have := Nat.shiftRight_or_distrib (a := A) (b := B) (i := 64)
    simp only [Nat.shiftRight_eq_div_pow] at this
    exact this.symm
  · congr 1
    have := Nat.or_mod_two_pow (a := A) (b := B) (n := 64)
    exact this.symm
theorem and_low (x : Int) (n : Nat) (hn : n ≤ 128) : bits .and .u64 (hiOf x) (hiOf (2 ^ n - 1)) = hiOf (x % full % 2 ^ n) ∧ bits .and .u64 (loOf x) (loOf (2 ^ n - 1)) = loOf (x % full % 2 ^ n) := by
  obtain ⟨m0, m1⟩ := mod_f x
  rw [← (hl_mod x).1, ← (hl_mod x).2]
  generalize x % full = y at *
  obtain ⟨Y, rfl⟩ := Int.eq_ofNat_of_zero_le m0
  have hY : Y < 340282366920938463463374607431768211456 := by unfold full at m1; omega
  have hp : 0 < 2 ^ n := Nat.two_pow_pos n
  have hp2 : (2 : Nat) ^ n ≤ 2 ^ 128 := Nat.pow_le_pow_right (by decide) hn
  have e1 : (2 ^ n - 1 : Int) = ((2 ^ n - 1 : Nat) : Int) := by rw [Int.ofNat_sub hp]; push_cast; rfl
  have e2 : ((Y : Int) % 2 ^ n) = ((Y &&& (2 ^ n - 1) : Nat) : Int) := by rw [Nat.and_two_pow_sub_one_eq_mod]; push_cast; rfl
  rw [e1, e2]
  exact and_nat_hl hY (by omega)
theorem or_sum {x y : Int} (k : Nat) (h0 : 0 ≤ x) (y0 : 0 ≤ y) (y1 : y < 2 ^ k) (h1 : x * 2 ^ k + y < full) :
    bits .or .u64 (hiOf (x * 2 ^ k)) (hiOf y) = hiOf (x * 2 ^ k + y) ∧ bits .or .u64 (loOf (x * 2 ^ k)) (loOf y) = loOf (x * 2 ^ k + y) := by
  obtain ⟨X, rfl⟩ := Int.eq_ofNat_of_zero_le h0
  obtain ⟨Y, rfl⟩ := Int.eq_ofNat_of_zero_le y0
  have hY : Y < 2 ^ k := by have : ((Y : Int)) < ((2 ^ k : Nat) : Int) := by rw [Int.natCast_pow]; exact y1
                            omega
  have e1 : (X : Int) * 2 ^ k = ((2 ^ k * X : Nat) : Int) := by rw [Nat.mul_comm]; push_cast; rfl
  have e2 : (X : Int) * 2 ^ k + (Y : Int) = ((2 ^ k * X ||| Y : Nat) : Int) := by rw [← Nat.two_pow_add_eq_or_of_lt hY, e1]; push_cast; rfl
  rw [e1] at h1
  have h2 : 2 ^ k * X < 340282366920938463463374607431768211456 := by unfold full at h1; omega
  have h3 : Y < 340282366920938463463374607431768211456 := by unfold full at h1; omega
  rw [e2, e1]
  exact or_nat_hl h2 h3
theorem ones_right (n : Nat) (hn : n ≤ 128) : (340282366920938463463374607431768211455 : Int) % full / 2 ^ (128 - n) = 2 ^ n - 1 := by
  have e : (2 : Int) ^ n * 2 ^ (128 - n) = 340282366920938463463374607431768211456 := by rw [← Int.pow_add, show n + (128 - n) = 128 by omega]; rfl
  have hp := two_pow_pos (128 - n)
  rw [show (340282366920938463463374607431768211455 : Int) % full = 340282366920938463463374607431768211455 from by decide +kernel]
  have h1 : (340282366920938463463374607431768211455 : Int) = (2 ^ (128 - n) - 1) + (2 ^ n - 1) * 2 ^ (128 - n) := by rw [Int.sub_mul, e]; omega
  rw [h1, Int.add_mul_ediv_right _ _ (by omega), Int.ediv_eq_zero_of_lt (by omega) (by omega), Int.zero_add]
theorem hl_small {x : Int} (h : U64 x) : hiOf x = 0 ∧ loOf x = x := by obtain ⟨h0, h1⟩ := h; unfold hiOf loOf; omega
end Go.Proofs.YtjdjonekoodalaaGreatDoor
set_option linter.unusedSimpArgs false
namespace Go.Proofs.YtjdjonekoodalaaGreatDoor
open Go.RowKit
def fW (f : Int) : Nat := if f = 0 then 16 else if f = 1 then 32 else if f = 2 then 64 else if f = 3 then 128 else 0
def fP (f : Int) : Nat := if f = 0 then 11 else if f = 1 then 24 else if f = 2 then 53 else if f = 3 then 113 else 0
def fE (f : Int) : Nat := if f = 0 then 15 else if f = 1 then 127 else if f = 2 then 1023 else if f = 3 then 16383 else 0
def cutF (f b : Int) : Int := b % 2 ^ fW f
def negF (f b : Int) : Bool := decide (b / 2 ^ (fW f - 1) % 2 = 1) && decide (f < 4)
def expF (f b : Int) : Int := if f < 4 then b % 2 ^ (fW f - 1) / 2 ^ (fP f - 1) else 0
def fracF (f b : Int) : Int := if f < 4 then b % 2 ^ (fP f - 1) else 0
def expOf (f e : Int) : Int := if e < 0 ∨ 1048576 < e then 0 else e % 2 ^ (fW f - fP f)
def makeF (f : Int) (neg : Bool) (e frac : Int) : Int := if f < 4 then expOf f e * 2 ^ (fP f - 1) + frac % 2 ^ (fP f - 1) + (if neg then 2 ^ (fW f - 1) else 0) else 0
def infF (f : Int) (neg : Bool) : Int := makeF f neg (2 * fE f + 1) 0
def maxF (f : Int) (neg : Bool) : Int := makeF f neg (2 * fE f) (2 ^ (fP f - 1) - 1)
theorem f_cases {f : Int} (h0 : 0 ≤ f) (h : f < 4) : f = 0 ∨ f = 1 ∨ f = 2 ∨ f = 3 := by omega
theorem fW_no {f : Int} (h : ¬ f < 4) : fW f = 0 := by unfold fW; rw [if_neg (by omega), if_neg (by omega), if_neg (by omega), if_neg (by omega)]
theorem fP_no {f : Int} (h : ¬ f < 4) : fP f = 0 := by unfold fP; rw [if_neg (by omega), if_neg (by omega), if_neg (by omega), if_neg (by omega)]
theorem fE_no {f : Int} (h : ¬ f < 4) : fE f = 0 := by unfold fE; rw [if_neg (by omega), if_neg (by omega), if_neg (by omega), if_neg (by omega)]
theorem f_nums {f : Int} (h0 : 0 ≤ f) (h : f < 4) : 11 ≤ fP f ∧ fP f < fW f ∧ fW f ≤ 128 ∧ fW f - fP f ≤ 15 ∧ 5 ≤ fW f - fP f ∧ (2 : Int) ^ (fW f - fP f) = 2 * fE f + 2 ∧ fE f ≤ 16383 ∧ 15 ≤ fE f ∧ fP f ≤ 113 := by
  rcases f_cases h0 h with rfl | rfl | rfl | rfl <;> decide +kernel
theorem pow_split2 {a b : Nat} (h : a ≤ b) : (2 : Int) ^ b = 2 ^ a * 2 ^ (b - a) := by rw [← Int.pow_add, show a + (b - a) = b by omega]
theorem expOf_range {f : Int} (h0 : 0 ≤ f) (h : f < 4) (e : Int) : 0 ≤ expOf f e ∧ expOf f e < 2 ^ (fW f - fP f) := by
  have hp := two_pow_pos (fW f - fP f)
  unfold expOf
  split
  · omega
  · exact ⟨Int.emod_nonneg _ (by omega), Int.emod_lt_of_pos _ hp⟩
theorem make_parts {f : Int} (h0 : 0 ≤ f) (h : f < 4) (neg : Bool) (e frac : Int) :
    0 ≤ frac % 2 ^ (fP f - 1) ∧ frac % 2 ^ (fP f - 1) < 2 ^ (fP f - 1) ∧
    0 ≤ expOf f e * 2 ^ (fP f - 1) + frac % 2 ^ (fP f - 1) ∧ expOf f e * 2 ^ (fP f - 1) + frac % 2 ^ (fP f - 1) < 2 ^ (fW f - 1) ∧
    0 ≤ makeF f neg e frac ∧ makeF f neg e frac < 2 ^ fW f := by
  obtain ⟨e0, e1⟩ := expOf_range h0 h e
  obtain ⟨p0, p1, p2, _⟩ := f_nums h0 h
  have hp := two_pow_pos (fP f - 1)
  have r0 := Int.emod_nonneg frac (show (2 : Int) ^ (fP f - 1) ≠ 0 by omega)
  have r1 := Int.emod_lt_of_pos frac hp
  have s : (2 : Int) ^ (fW f - 1) = 2 ^ (fP f - 1) * 2 ^ (fW f - fP f) := by rw [← Int.pow_add, show fP f - 1 + (fW f - fP f) = fW f - 1 by omega]
  have sum := mul_add_lt hp e0 e1 r0 r1
  rw [Int.mul_comm _ (expOf f e), ← s] at sum
  have sW : (2 : Int) ^ fW f = 2 * 2 ^ (fW f - 1) := by rw [← Int.pow_succ', show fW f - 1 + 1 = fW f by omega]
  refine ⟨r0, r1, sum.1, sum.2, ?_, ?_⟩
  · unfold makeF; rw [if_pos h]; have := two_pow_pos (fW f - 1); split <;> omega
  · unfold makeF; rw [if_pos h]; have := two_pow_pos (fW f - 1); split <;> omega
theorem makeF_zero {f : Int} (h : ¬ f < 4) (neg : Bool) (e frac : Int) : makeF f neg e frac = 0 := by unfold makeF; rw [if_neg h]
end Go.Proofs.YtjdjonekoodalaaGreatDoor
namespace Go.Proofs.YtjdjonekoodalaaGreatDoor
open Go.RowKit
def FTab (w : World) : Prop := ∀ k, k < 12 → w.cell? ⟨0, k, none⟩ = some (.int .i64 ([16, 11, 15, 32, 24, 127, 64, 53, 1023, 128, 113, 16383].getD k 0))
theorem FTab.later {w w' : World} (h : FTab w) (hb : Below w.heap.size w w') : FTab w' := fun j hj => cL hb (h j hj)
end Go.Proofs.YtjdjonekoodalaaGreatDoor
namespace Go.Proofs.YtjdjonekoodalaaGreatDoor
open Go.RowKit
attribute [local go_sem ↓] Go.wp_at_zero Go.wp_at_succ
theorem fW_le (f : Int) : fW f ≤ 128 := by unfold fW; split <;> (try split) <;> (try split) <;> (try split) <;> omega
theorem mod_mod_pow (x : Int) {a b : Nat} (h : a ≤ b) : x % 2 ^ b % 2 ^ a = x % 2 ^ a := Int.emod_emod_of_dvd x (by rw [pow_split2 h]; exact Int.dvd_mul_right ..)
theorem mod_bit (x : Int) (k : Nat) : x % 2 ^ (k + 1) / 2 ^ k % 2 = x / 2 ^ k % 2 := by
  have hp := two_pow_pos k
  rw [Int.pow_succ, Int.emod_def x (2 ^ k * 2), Int.mul_assoc, Int.sub_eq_add_neg, ← Int.mul_neg, Int.add_mul_ediv_left _ _ (by omega)]
  generalize x / 2 ^ k = y
  rw [← Int.mul_neg]
  generalize -(x / (2 ^ k * 2)) = z
  omega
theorem mod_lt_self {x : Int} (h : 0 ≤ x) (k : Nat) : 0 ≤ x % 2 ^ k ∧ x % 2 ^ k ≤ x ∧ x % 2 ^ k < 2 ^ k := by
  have hp := two_pow_pos k
  have e := Int.emod_add_mul_ediv x (2 ^ k)
  have : 0 ≤ 2 ^ k * (x / 2 ^ k) := Int.mul_nonneg (by omega) (Int.ediv_nonneg h (by omega))
  exact ⟨Int.emod_nonneg _ (by omega), by omega, Int.emod_lt_of_pos _ hp⟩
theorem exp_range {f B : Int} (h0 : 0 ≤ f) (h : f < 4) (hB : 0 ≤ B) : 0 ≤ expF f B ∧ expF f B < 2 ^ (fW f - fP f) ∧ expF f B ≤ 2 * fE f + 1 ∧ expF f B ≤ 32767 := by
  obtain ⟨p0, p1, p2, p3, p4, p5, p6, _⟩ := f_nums h0 h
  obtain ⟨r0, r1, r2⟩ := mod_lt_self hB (fW f - 1)
  have hp := two_pow_pos (fP f - 1)
  have e : (2 : Int) ^ (fW f - 1) = 2 ^ (fP f - 1) * 2 ^ (fW f - fP f) := by rw [← Int.pow_add, show fP f - 1 + (fW f - fP f) = fW f - 1 by omega]
  have x0 : 0 ≤ B % 2 ^ (fW f - 1) / 2 ^ (fP f - 1) := Int.ediv_nonneg r0 (by omega)
  have x1 : B % 2 ^ (fW f - 1) / 2 ^ (fP f - 1) < 2 ^ (fW f - fP f) := Int.ediv_lt_of_lt_mul hp (by rw [Int.mul_comm, ← e]; exact r2)
  unfold expF; rw [if_pos h]
  omega
theorem hl_zero : hiOf 0 = 0 ∧ loOf 0 = 0 := ⟨rfl, rfl⟩
theorem fE_le (f : Int) : fE f ≤ 16383 := by unfold fE; split <;> (try split) <;> (try split) <;> (try split) <;> omega
end Go.Proofs.YtjdjonekoodalaaGreatDoor
namespace Go.Proofs.YtjdjonekoodalaaGreatDoor
open Go.RowKit
attribute [local go_sem ↓] Go.wp_at_zero Go.wp_at_succ
structure FormOK : Prop where
  known : ∀ f, 0 ≤ f → f ≤ 255 → ∀ w, FTab w → Calls Tryz.prog 15 #[.int .u8 f] w fun e w' => e = .returned (.bool (decide (f < 4))) ∧ Below w.heap.size w w'
  width : ∀ f, 0 ≤ f → f ≤ 255 → ∀ w, FTab w → Calls Tryz.prog 57 #[.int .u8 f] w fun e w' => e = .returned (.int .i64 (fW f)) ∧ Below w.heap.size w w'
  prec : ∀ f, 0 ≤ f → f ≤ 255 → ∀ w, FTab w → Calls Tryz.prog 105 #[.int .u8 f] w fun e w' => e = .returned (.int .i64 (fP f)) ∧ Below w.heap.size w w'
  emax : ∀ f, 0 ≤ f → f ≤ 255 → ∀ w, FTab w → Calls Tryz.prog 26 #[.int .u8 f] w fun e w' => e = .returned (.int .i64 (fE f)) ∧ Below w.heap.size w w'
  cut : ∀ f b, 0 ≤ f → f ≤ 255 → ∀ w, FTab w → Calls Tryz.prog 20 #[.int .u8 f, .agg #[.int .u64 (hiOf (b)), .int .u64 (loOf (b))]] w fun e w' => e = .returned (.agg #[.int .u64 (hiOf (cutF f (b % full))), .int .u64 (loOf (cutF f (b % full)))]) ∧ Below w.heap.size w w'
  split : ∀ f b, 0 ≤ f → f ≤ 255 → ∀ w, FTab w → Calls Tryz.prog 45 #[.int .u8 f, .agg #[.int .u64 (hiOf (b)), .int .u64 (loOf (b))]] w fun e w' => e = .returned (.tuple #[.bool (negF f (b % full)), .int .i64 (expF f (b % full)), .agg #[.int .u64 (hiOf (fracF f (b % full))), .int .u64 (loOf (fracF f (b % full)))]]) ∧ Below w.heap.size w w'
  make : ∀ f ng ex b, 0 ≤ f → f ≤ 255 → -9223372036854775808 ≤ ex → ex ≤ 9223372036854775807 → ∀ w, FTab w → Calls Tryz.prog 25 #[.int .u8 f, .bool ng, .int .i64 ex, .agg #[.int .u64 (hiOf (b)), .int .u64 (loOf (b))]] w fun e w' => e = .returned (.agg #[.int .u64 (hiOf (makeF f ng ex (b % full))), .int .u64 (loOf (makeF f ng ex (b % full)))]) ∧ Below w.heap.size w w'
  inf : ∀ f ng, 0 ≤ f → f ≤ 255 → ∀ w, FTab w → Calls Tryz.prog 28 #[.int .u8 f, .bool ng] w fun e w' => e = .returned (.agg #[.int .u64 (hiOf (infF f ng)), .int .u64 (loOf (infF f ng))]) ∧ Below w.heap.size w w'
  max : ∀ f ng, 0 ≤ f → f ≤ 255 → ∀ w, FTab w → Calls Tryz.prog 203 #[.int .u8 f, .bool ng] w fun e w' => e = .returned (.agg #[.int .u64 (hiOf (maxF f ng)), .int .u64 (loOf (maxF f ng))]) ∧ Below w.heap.size w w'
  nought : ∀ f ng, 0 ≤ f → f ≤ 255 → ∀ w, FTab w → Calls Tryz.prog 24 #[.int .u8 f, .bool ng] w fun e w' => e = .returned (.agg #[.int .u64 (hiOf (makeF f ng 0 0)), .int .u64 (loOf (makeF f ng 0 0))]) ∧ Below w.heap.size w w'
theorem cut_range {f b : Int} (h0 : 0 ≤ f) (hb : 0 ≤ b) : 0 ≤ cutF f b ∧ cutF f b ≤ b ∧ cutF f b < 2 ^ fW f := mod_lt_self hb (fW f)
theorem neg_cut {f : Int} (h0 : 0 ≤ f) (h : f < 4) (b : Int) : negF f (cutF f b) = negF f b := by
  obtain ⟨p0, p1, p2, _⟩ := f_nums h0 h
  unfold negF cutF
  have t := mod_bit b (fW f - 1)
  rw [show fW f - 1 + 1 = fW f by omega] at t
  rw [t]
theorem exp_cut {f : Int} (h0 : 0 ≤ f) (h : f < 4) (b : Int) : expF f (cutF f b) = expF f b := by
  obtain ⟨p0, p1, p2, _⟩ := f_nums h0 h
  unfold expF cutF; rw [if_pos h, if_pos h, mod_mod_pow b (by omega)]
theorem frac_cut {f : Int} (h0 : 0 ≤ f) (h : f < 4) (b : Int) : fracF f (cutF f b) = fracF f b := by
  obtain ⟨p0, p1, p2, _⟩ := f_nums h0 h
  unfold fracF cutF; rw [if_pos h, if_pos h, mod_mod_pow b (by omega)]
theorem frac_range {f b : Int} (h0 : 0 ≤ f) (h : f < 4) : 0 ≤ fracF f b ∧ fracF f b < 2 ^ (fP f - 1) := by
  have hp := two_pow_pos (fP f - 1)
  unfold fracF; rw [if_pos h]
  exact ⟨Int.emod_nonneg _ (by omega), Int.emod_lt_of_pos _ hp⟩
theorem expOf_id {f e : Int} (h0 : 0 ≤ f) (h : f < 4) (e0 : 0 ≤ e) (e1 : e < 2 ^ (fW f - fP f)) : expOf f e = e := by
  obtain ⟨p0, p1, p2, p3, p4, p5, p6, p7, p8⟩ := f_nums h0 h
  unfold expOf; rw [if_neg (by omega), Int.emod_eq_of_lt e0 e1]
theorem make_split {f b : Int} (h0 : 0 ≤ f) (h : f < 4) (hb : 0 ≤ b) : makeF f (negF f b) (expF f b) (fracF f b) = cutF f b := by
  obtain ⟨p0, p1, p2, p3, p4, p5, p6, p7, p8⟩ := f_nums h0 h
  obtain ⟨x0, x1, x2, x3⟩ := exp_range h0 h hb
  obtain ⟨r0, r1⟩ := frac_range (b := b) h0 h
  unfold makeF; rw [if_pos h, expOf_id h0 h x0 x1, Int.emod_eq_of_lt r0 r1]
  have hp := two_pow_pos (fP f - 1)
  have hw := two_pow_pos (fW f - 1)
  have e1 : expF f b * 2 ^ (fP f - 1) + fracF f b = b % 2 ^ (fW f - 1) := by
    unfold expF fracF; rw [if_pos h, if_pos h]
    have := Int.emod_add_mul_ediv (b % 2 ^ (fW f - 1)) (2 ^ (fP f - 1))
    rw [mod_mod_pow b (by omega), Int.mul_comm] at this
    omega
  rw [e1]
  have e2 := Int.emod_add_mul_ediv (b % 2 ^ (fW f - 1 + 1)) (2 ^ (fW f - 1))
  rw [mod_mod_pow b (Nat.le_succ _)] at e2
  have e3 := mod_bit b (fW f - 1)
  have e4 : 0 ≤ b % 2 ^ (fW f - 1 + 1) / 2 ^ (fW f - 1) := Int.ediv_nonneg (mod_lt_self hb _).1 (by omega)
  have e5 : b % 2 ^ (fW f - 1 + 1) / 2 ^ (fW f - 1) < 2 := Int.ediv_lt_of_lt_mul hw (by have := (mod_lt_self hb (fW f - 1 + 1)).2.2; rw [Int.pow_succ] at this; rw [Int.mul_comm]; exact this)
  have c : cutF f b = b % 2 ^ (fW f - 1 + 1) := by unfold cutF; rw [show fW f - 1 + 1 = fW f by omega]
  rw [c, ← e2]
  unfold negF
  rw [show decide (f < 4) = true by simp [h], Bool.and_true]
  generalize b % 2 ^ (fW f - 1 + 1) / 2 ^ (fW f - 1) = s at *
  generalize b / 2 ^ (fW f - 1) = t at *
  by_cases hs : t % 2 = 1
  · rw [show decide (t % 2 = 1) = true by simp [hs], if_pos rfl, show s = 1 by omega, Int.mul_one]
  · rw [show decide (t % 2 = 1) = false by simp [hs], if_neg (by decide), show s = 0 by omega, Int.mul_zero]
theorem fW_full (f : Int) : (2 : Int) ^ fW f ≤ full := by have := two_pow_le (fW_le f); rwa [full_pow] at this
theorem make_full {f : Int} (h0 : 0 ≤ f) (ng : Bool) (e m : Int) : 0 ≤ makeF f ng e m ∧ makeF f ng e m < full := by
  by_cases h : f < 4
  · have := make_parts h0 h ng e m; have := fW_full f; omega
  · rw [makeF_zero h]; exact ⟨Int.le_refl _, by decide⟩
theorem inf_val {f : Int} (h0 : 0 ≤ f) (h : f < 4) (ng : Bool) : infF f ng = (2 * fE f + 1) * 2 ^ (fP f - 1) + (if ng then 2 ^ (fW f - 1) else 0) := by
  obtain ⟨p0, p1, p2, p3, p4, p5, p6, p7, p8⟩ := f_nums h0 h
  unfold infF makeF; rw [if_pos h, expOf_id h0 h (by omega) (by omega), Int.zero_emod, Int.add_zero]
theorem max_val {f : Int} (h0 : 0 ≤ f) (h : f < 4) (ng : Bool) : maxF f ng = 2 * fE f * 2 ^ (fP f - 1) + (2 ^ (fP f - 1) - 1) + (if ng then 2 ^ (fW f - 1) else 0) := by
  obtain ⟨p0, p1, p2, p3, p4, p5, p6, p7, p8⟩ := f_nums h0 h
  have hp := two_pow_pos (fP f - 1)
  unfold maxF makeF; rw [if_pos h, expOf_id h0 h (by omega) (by omega), Int.emod_eq_of_lt (a := 2 ^ (fP f - 1) - 1) (by omega) (by omega)]
theorem nought_val {f : Int} (h0 : 0 ≤ f) (h : f < 4) (ng : Bool) : makeF f ng 0 0 = if ng then 2 ^ (fW f - 1) else 0 := by
  obtain ⟨p0, p1, p2, p3, p4, p5, p6, p7, p8⟩ := f_nums h0 h
  unfold makeF; rw [if_pos h, expOf_id h0 h (by omega) (by omega), Int.zero_emod, Int.zero_mul]; omega
end Go.Proofs.YtjdjonekoodalaaGreatDoor
namespace Go.Proofs.YtjdjonekoodalaaGreatDoor
open Go.RowKit
attribute [local go_sem ↓] Go.wp_at_zero Go.wp_at_succ
theorem width_core (f wi p em : Int)
    (h0 : Hid (∀ w, FTab w → Ca 61 #[.int .u8 f] w (.agg #[.int .i64 wi, .int .i64 p, .int .i64 em]))) (w : World) (ft : FTab w) :
    Ca 57 #[.int .u8 f] w (.int .i64 wi) := by
  simp only [Ca] at *
  go_enter Tryz.func57, Tryz.ntmps57
  go_wp2_with fail
  refine vM (h0.out _ (ft.later bR)) fun w1 b1 => ?_
  have hfd1 : ∀ w : World, (Instr.field 95 (.agg #[.int .i64 wi, .int .i64 p, .int .i64 em]) 0).run Tryz.prog w = .ok (.int .i64 wi) w := fun _ => by kernel_rfl
  go_wp2_with fail
  go_ret
  exact ⟨rfl, b1⟩
theorem prec_core (f wi p em : Int)
    (h0 : Hid (∀ w, FTab w → Ca 61 #[.int .u8 f] w (.agg #[.int .i64 wi, .int .i64 p, .int .i64 em]))) (w : World) (ft : FTab w) :
    Ca 105 #[.int .u8 f] w (.int .i64 p) := by
  simp only [Ca] at *
  go_enter Tryz.func105, Tryz.ntmps105
  go_wp2_with fail
  refine vM (h0.out _ (ft.later bR)) fun w1 b1 => ?_
  have hfd1 : ∀ w : World, (Instr.field 95 (.agg #[.int .i64 wi, .int .i64 p, .int .i64 em]) 1).run Tryz.prog w = .ok (.int .i64 p) w := fun _ => by kernel_rfl
  go_wp2_with fail
  go_ret
  exact ⟨rfl, b1⟩
theorem emax_core (f wi p em : Int)
    (h0 : Hid (∀ w, FTab w → Ca 61 #[.int .u8 f] w (.agg #[.int .i64 wi, .int .i64 p, .int .i64 em]))) (w : World) (ft : FTab w) :
    Ca 26 #[.int .u8 f] w (.int .i64 em) := by
  simp only [Ca] at *
  go_enter Tryz.func26, Tryz.ntmps26
  go_wp2_with fail
  refine vM (h0.out _ (ft.later bR)) fun w1 b1 => ?_
  have hfd1 : ∀ w : World, (Instr.field 95 (.agg #[.int .i64 wi, .int .i64 p, .int .i64 em]) 2).run Tryz.prog w = .ok (.int .i64 em) w := fun _ => by kernel_rfl
  go_wp2_with fail
  go_ret
  exact ⟨rfl, b1⟩
theorem ones_any
     (w : World) :
    Ca 115 #[] w (U2 18446744073709551615 18446744073709551615) := by
  simp only [Ca, U2] at *
  go_enter Tryz.func115, Tryz.ntmps115
  go_wp2_with fail
  refine bodyPost_ret (v := .agg #[.int .u64 18446744073709551615, .int .u64 18446744073709551615]) ?_ rfl ⟨rfl, (bA bR _)⟩
  simp [results, Tryz.results115, go_sem]
theorem lowest_core (bh bl n m mh ml rh rl : Int)
    (h0 : Hid (∀ w, FTab w → Ca 115 #[] w (U2 18446744073709551615 18446744073709551615)))
    (h1 : Hid (∀ w, Ca 85 #[U2 18446744073709551615 18446744073709551615, .int .i64 m] w (U2 mh ml))) (w1 : IntKind.i64.wrap (128 - n) = m) (a1 : bits .and .u64 bh mh = rh) (a2 : bits .and .u64 bl ml = rl) (w : World) (ft : FTab w) :
    Ca 56 #[U2 bh bl, .int .i64 n] w (U2 rh rl) := by
  simp only [Ca, U2] at *
  go_enter Tryz.func56, Tryz.ntmps56
  go_wp2_with fail
  refine vM (h0.out _ (ft.later (bA (bA bR _) _))) fun w1 b1 => ?_
  have gX1 : w.heap.size ≤ w.heap.size + 1 := by omega
  have X0 := ((HB.newAt (b := w.heap.size) (by simp) _ _).alloc _).later b1
  have X1 := (HB.newAt (b := w.heap.size + 1) (by simp) _ _).later b1
  go_wp2_with fail
  refine vM (h1.out _) fun w2 b2 => ?_
  replace X0 := X0.later b2
  have oX0 := X0.o
  replace X1 := X1.later b2
  have oX1 := X1.o
  have mX0_X1 : ¬ (w.heap.size = w.heap.size + 1) := by omega
  have mX1_X0 : ¬ (w.heap.size + 1 = w.heap.size) := by omega
  go_wp2_with fail
  refine bodyPost_ret (v := .agg #[.int .u64 rh, .int .u64 rl]) ?_ rfl ⟨rfl, (bA (((bC (bC (bA (bA bR _) _) b1) b2).setCell (p := ⟨w.heap.size + 1, 0, none⟩) gX1 _).setCell (p := ⟨w.heap.size + 1, 1, none⟩) gX1 _) _)⟩
  simp [results, Tryz.results56, go_sem, oX1, mX0_X1, mX1_X0]
theorem top_core (f em x y : Int)
    (h0 : Hid (∀ w, FTab w → Ca 26 #[.int .u8 f] w (.int .i64 em))) (w1 : IntKind.i64.wrap (2 * em) = x) (w2 : IntKind.i64.wrap (x + 1) = y) (w2x : wrap64 (x + 1) = y) (w : World) (ft : FTab w) :
    Ca 70 #[.int .u8 f] w (.int .i64 y) := by
  simp only [Ca] at *
  go_enter Tryz.func70, Tryz.ntmps70
  go_wp2_with fail
  refine vM (h0.out _ (ft.later bR)) fun w1 b1 => ?_
  go_wp2_with fail
  go_ret
  exact ⟨rfl, b1⟩
theorem union_core (ah al bh bl rh rl : Int)
     (a1 : bits .or .u64 ah bh = rh) (a2 : bits .or .u64 al bl = rl) (w : World) :
    Ca 64 #[U2 ah al, U2 bh bl] w (U2 rh rl) := by
  simp only [Ca, U2] at *
  go_enter Tryz.func64, Tryz.ntmps64
  go_wp2_with fail
  refine bodyPost_ret (v := .agg #[.int .u64 rh, .int .u64 rl]) ?_ rfl ⟨rfl, (bA (bA (bA bR _) _) _)⟩
  simp [results, Tryz.results64, go_sem]
theorem sign_no (n : Int)
     (w : World) :
    Ca 65 #[.bool false, .int .i64 n] w (U2 0 0) := by
  simp only [Ca, U2] at *
  go_enter Tryz.func65, Tryz.ntmps65
  go_wp2_with fail
  refine bodyPost_ret (v := .agg #[.int .u64 0, .int .u64 0]) ?_ rfl ⟨rfl, (bA bR _)⟩
  simp [results, Tryz.results65, go_sem]
theorem sign_yes (n rh rl : Int)
    (h0 : Hid (∀ w, Ca 62 #[U2 0 1, .int .i64 n] w (U2 rh rl))) (w : World) :
    Ca 65 #[.bool true, .int .i64 n] w (U2 rh rl) := by
  simp only [Ca, U2] at *
  go_enter Tryz.func65, Tryz.ntmps65
  go_wp2_with fail
  refine vM (h0.out _) fun w1 b1 => ?_
  have gX0 : w.heap.size ≤ w.heap.size := by omega
  have X0 := (HB.newAt (b := w.heap.size) (by simp) _ _).later b1
  have oX0 := X0.o
  go_wp2_with fail
  refine bodyPost_ret (v := .agg #[.int .u64 rh, .int .u64 rl]) ?_ rfl ⟨rfl, (((bC (bA bR _) b1).setCell (p := ⟨w.heap.size, 0, none⟩) gX0 _).setCell (p := ⟨w.heap.size, 1, none⟩) gX0 _)⟩
  simp [results, Tryz.results65, go_sem, oX0]
theorem exponent_no (ex n : Int)
     (c1 : decide (ex < 0) = true) (w : World) :
    Ca 63 #[.int .i64 ex, .int .i64 n] w (U2 0 0) := by
  simp only [Ca, U2] at *
  go_enter Tryz.func63, Tryz.ntmps63
  go_wp2_with fail
  refine bodyPost_ret (v := .agg #[.int .u64 0, .int .u64 0]) ?_ rfl ⟨rfl, (bA bR _)⟩
  simp [results, Tryz.results63, go_sem]
theorem exponent_far (ex n : Int)
     (c1 : decide (ex < 0) = false) (c2 : decide (1048576 < ex) = true) (w : World) :
    Ca 63 #[.int .i64 ex, .int .i64 n] w (U2 0 0) := by
  simp only [Ca, U2] at *
  go_enter Tryz.func63, Tryz.ntmps63
  go_wp2_with fail
  refine bodyPost_ret (v := .agg #[.int .u64 0, .int .u64 0]) ?_ rfl ⟨rfl, (bA bR _)⟩
  simp [results, Tryz.results63, go_sem]
theorem exponent_yes (ex n rh rl : Int)
    (h0 : Hid (∀ w, FTab w → Ca 56 #[U2 0 ex, .int .i64 n] w (U2 rh rl))) (c1 : decide (ex < 0) = false) (c2 : decide (1048576 < ex) = false) (w1 : IntKind.u64.wrap ex = ex) (w : World) (ft : FTab w) :
    Ca 63 #[.int .i64 ex, .int .i64 n] w (U2 rh rl) := by
  simp only [Ca, U2] at *
  go_enter Tryz.func63, Tryz.ntmps63
  go_wp2_with fail
  refine vM (h0.out _ (ft.later (bA bR _))) fun w1 b1 => ?_
  have gX0 : w.heap.size ≤ w.heap.size := by omega
  have X0 := (HB.newAt (b := w.heap.size) (by simp) _ _).later b1
  have oX0 := X0.o
  go_wp2_with fail
  refine bodyPost_ret (v := .agg #[.int .u64 rh, .int .u64 rl]) ?_ rfl ⟨rfl, (((bC (bA bR _) b1).setCell (p := ⟨w.heap.size, 0, none⟩) gX0 _).setCell (p := ⟨w.heap.size, 1, none⟩) gX0 _)⟩
  simp [results, Tryz.results63, go_sem, oX0]
theorem cut_core (f bh bl wi rh rl : Int)
    (h0 : Hid (∀ w, FTab w → Ca 57 #[.int .u8 f] w (.int .i64 wi)))
    (h1 : Hid (∀ w, FTab w → Ca 56 #[U2 bh bl, .int .i64 wi] w (U2 rh rl))) (w : World) (ft : FTab w) :
    Ca 20 #[.int .u8 f, U2 bh bl] w (U2 rh rl) := by
  simp only [Ca, U2] at *
  go_enter Tryz.func20, Tryz.ntmps20
  go_wp2_with fail
  have gX1 : w.heap.size ≤ w.heap.size + 1 := by omega
  refine vF2 fun w1 b1 X0 X1 => ?_
  refine vR [w.heap.size + 1] fun w2 b2 S2 => ?_
  refine vT 0 S2 ?_ (hy := by intro wq hb; have q := (hb.hb X0 (by simp <;> omega)).o; go_simp; try (with_reducible rfl))
  refine vT 1 S2 ?_
  refine vY1 (vC 2 S2 (h0.out _ (ft.later (bC b1 b2))) (fun _ _ => Off.later) fun w3 b3 S3 => ?_)
  refine vY1 (vC 3 S3 (h1.out _ (ft.later (bC (bC b1 b2) b3))) (fun _ _ => Off.later) fun w4 b4 S4 => ?_)
  refine vY1 (vO 4 fun K hK => ?_)
  replace X1 := X1.later (bC (bC b2 b3) b4)
  have oX1 := X1.o
  go_simp
  refine hK.out _ _ (Off.set (by simp) (Off.set (by simp) S4)) fun S5 => ?_
  clear hK K
  refine vP ?_
  refine vD ?_
  go_wp2_with fail
  refine bodyPost_ret (v := .agg #[.int .u64 rh, .int .u64 rl]) ?_ rfl ⟨rfl, (((bC (bC (bC b1 b2) b3) b4).setCell (p := ⟨w.heap.size + 1, 0, none⟩) gX1 _).setCell (p := ⟨w.heap.size + 1, 1, none⟩) gX1 _)⟩
  simp [results, Tryz.results20, go_sem, oX1]
theorem split_no (f bh bl : Int)
    (h0 : Hid (∀ w, FTab w → Ca 15 #[.int .u8 f] w (.bool false))) (w : World) (ft : FTab w) :
    Ca 45 #[.int .u8 f, U2 bh bl] w (.tuple #[.bool false, .int .i64 0, U2 0 0]) := by
  simp only [Ca, U2] at *
  go_enter Tryz.func45, Tryz.ntmps45
  go_wp2_with fail
  refine vM (h0.out _ (ft.later (bA (bA bR _) _))) fun w1 b1 => ?_
  have gX1 : w.heap.size ≤ w.heap.size + 1 := by omega
  have X1 := (HB.newAt (b := w.heap.size + 1) (by simp) _ _).later b1
  have oX1 := X1.o
  go_wp2_with fail
  refine bodyPost_ret (v := .tuple #[.bool false, .int .i64 0, .agg #[.int .u64 0, .int .u64 0]]) ?_ rfl ⟨rfl, (((bC (bA (bA bR _) _) b1).setCell (p := ⟨w.heap.size + 1, 0, none⟩) gX1 _).setCell (p := ⟨w.heap.size + 1, 1, none⟩) gX1 _)⟩
  simp [results, Tryz.results45, go_sem, oX1]
theorem split_yes (f bh bl wi p em p1 wp wm yh yl zh zl eh y rh rl : Int) (x : Bool)
    (h0 : Hid (∀ w, FTab w → Ca 15 #[.int .u8 f] w (.bool true)))
    (h1 : Hid (∀ w, FTab w → Ca 61 #[.int .u8 f] w (.agg #[.int .i64 wi, .int .i64 p, .int .i64 em])))
    (h2 : Hid (∀ w, Ca 85 #[U2 bh bl, .int .i64 p1] w (U2 yh yl)))
    (h3 : Hid (∀ w, FTab w → Ca 56 #[U2 yh yl, .int .i64 wp] w (U2 eh y)))
    (h4 : Hid (∀ w, Ca 103 #[U2 bh bl, .int .i64 wm] w (.bool x)))
    (h5 : Hid (∀ w, FTab w → Ca 56 #[U2 bh bl, .int .i64 p1] w (U2 rh rl))) (v1 : IntKind.i64.wrap (p - 1) = p1) (v2 : IntKind.i64.wrap (wi - p) = wp) (v3 : IntKind.i64.wrap (wi - 1) = wm) (v4 : IntKind.i64.wrap y = y) (w : World) (ft : FTab w) :
    Ca 45 #[.int .u8 f, U2 bh bl] w (.tuple #[.bool x, .int .i64 y, U2 rh rl]) := by
  simp only [Ca, U2] at *
  go_enter Tryz.func45, Tryz.ntmps45
  go_wp2_with fail
  refine vM (h0.out _ (ft.later (bA (bA bR _) _))) fun w1 b1 => ?_
  have gX1 : w.heap.size ≤ w.heap.size + 1 := by omega
  have X0 := ((HB.newAt (b := w.heap.size) (by simp) _ _).alloc _).later b1
  have X1 := (HB.newAt (b := w.heap.size + 1) (by simp) _ _).later b1
  go_wp2_with fail
  refine vM (h1.out _ (ft.later (bC (bA (bA bR _) _) b1))) fun w2 b2 => ?_
  go_wp2_with fail
  replace X1 := X1.later b2
  have nX1_X2 : w.heap.size + 1 < w2.heap.size := by have := X1.lt; omega
  refine vF1 fun w3 b3 X2 => ?_
  replace X0 := X0.later (bC b2 b3)
  refine vR [] fun w4 b4 S4 => ?_
  refine vT 0 S4 ?_ (hy := by intro wq hb; have q := (hb.hb X0 (by simp)).o; go_simp; try (with_reducible rfl))
  refine vT 1 S4 ?_
  refine vT 2 S4 ?_ (hy := by intro wq hb; have q := (hb.hb X2 (by simp)).o; go_simp; try (with_reducible rfl))
  refine vT 3 S4 ?_
  refine vT 5 S4 ?_
  refine vT 6 S4 ?_ (hy := by intro wq hb; have q := (hb.hb X2 (by simp)).o; go_simp; try (with_reducible rfl))
  refine vT 7 S4 ?_
  refine vT 8 S4 ?_ (hy := by intro wq hb; have q := (hb.hb X2 (by simp)).o; go_simp; try (with_reducible rfl))
  refine vT 9 S4 ?_
  replace X0 := X0.later b4
  replace X1 := X1.later (bC b3 b4)
  replace X2 := X2.later b4
  refine vY2 (vC 4 S4 (h2.out _) (fun _ _ => Off.later) fun w5 b5 S5 => ?_) (vA 11 S4 (fun _ _ => Off.later) fun w6 pp3_0 hX3 X3 b6 S6 => ?_)
  replace X0 := X0.later b5
  replace X1 := X1.later b5
  replace X2 := X2.later b5
  refine vY2 (vC 10 S5 (h3.out _ (ft.later (bC (bC (bC (bC (bC (bA (bA bR _) _) b1) b2) b3) b4) b5))) (fun _ _ => Off.later) fun w7 b7 S7 => ?_) (vA 11 S5 (fun _ _ => Off.later) fun w8 pp3_0 hX3 X3 b8 S8 => ?_)
  replace X0 := X0.later b7
  replace X1 := X1.later b7
  replace X2 := X2.later b7
  refine vY1 (vA 11 S7 (fun _ _ => Off.later) fun w9 pp3_0 hX3 X3 b9 S9 => ?_)
  have nX0_X3 : w.heap.size < pp3_0 := by have := X0.lt; omega
  have nX1_X3 : w.heap.size + 1 < pp3_0 := by have := X1.lt; omega
  have nX2_X3 : w2.heap.size < pp3_0 := by have := X2.lt; omega
  have gX3 : w.heap.size ≤ pp3_0 := by have := (bC (bC (bC (bC (bC (bC (bA (bA bR _) _) b1) b2) b3) b4) b5) b7).size; omega
  have jX3 : w3.heap.size ≤ pp3_0 := by have := (bC (bC b4 b5) b7).size; omega
  refine vY1 (vO 12 fun K hK => ?_)
  replace X0 := X0.later b9
  replace X1 := X1.later b9
  replace X2 := X2.later b9
  have q := X3.o
  have mX0 : ¬ (w.heap.size = pp3_0) := by omega
  have mX1 : ¬ (w.heap.size + 1 = pp3_0) := by omega
  have mX2 : ¬ (w2.heap.size = pp3_0) := by omega
  go_simp
  refine vW (fun W => HB W w.heap.size 25 #[.int .u64 bh, .int .u64 bl] ∧ HB W (w.heap.size + 1) 25 #[.int .u64 0, .int .u64 0] ∧ HB W w2.heap.size 95 #[.int .i64 wi, .int .i64 p, .int .i64 em] ∧ HB W pp3_0 25 #[.int .u64 eh, .int .u64 y] ∧ Below w.heap.size w W ∧ Off [] w3 W) ⟨((X0.other mX0 0 _).other mX0 1 _), ((X1.other mX1 0 _).other mX1 1 _), ((X2.other mX2 0 _).other mX2 1 _), ((X3.set 0 _).set 1 _), (((bC (bC (bC (bC (bC (bC (bC (bA (bA bR _) _) b1) b2) b3) b4) b5) b7) b9).setCell (p := ⟨pp3_0, 0, none⟩) gX3 _).setCell (p := ⟨pp3_0, 1, none⟩) gX3 _), (Off.far jX3 (Off.far jX3 S9))⟩ (fun w10 hz => ?_)
  clear q mX0 mX1 mX2 X0 X1 X2 X3
  obtain ⟨X0, X1, X2, X3, kk, hS⟩ := hz
  refine hK.out _ _ hS fun S10 => ?_
  clear hK K hS
  refine vP ?_
  refine vD ?_
  clear S10 jX3 S9 b9 hX3 w9 S7 b7 w7 S5 b5 w5
  revert kk; revert nX2_X3; revert nX1_X3; revert nX0_X3; revert gX3; revert X3; revert X2; revert X1; revert X0; revert pp3_0; revert w10
  refine ?rest4
  rotate_left
  have nX0_X3 : w.heap.size < pp3_0 := by have := X0.lt; omega
  have nX1_X3 : w.heap.size + 1 < pp3_0 := by have := X1.lt; omega
  have nX2_X3 : w2.heap.size < pp3_0 := by have := X2.lt; omega
  have gX3 : w.heap.size ≤ pp3_0 := by have := (bC (bC (bC (bC (bC (bA (bA bR _) _) b1) b2) b3) b4) b5).size; omega
  have jX3 : w3.heap.size ≤ pp3_0 := by have := (bC b4 b5).size; omega
  refine vY1 (vC 10 S8 (h3.out _ (ft.later (bC (bC (bC (bC (bC (bC (bA (bA bR _) _) b1) b2) b3) b4) b5) b8))) (fun _ _ => Off.later) fun w11 b11 S11 => ?_)
  refine vY1 (vO 12 fun K hK => ?_)
  replace X0 := X0.later (bC b8 b11)
  replace X1 := X1.later (bC b8 b11)
  replace X2 := X2.later (bC b8 b11)
  replace X3 := X3.later b11
  have q := X3.o
  have mX0 : ¬ (w.heap.size = pp3_0) := by omega
  have mX1 : ¬ (w.heap.size + 1 = pp3_0) := by omega
  have mX2 : ¬ (w2.heap.size = pp3_0) := by omega
  go_simp
  refine vW (fun W => HB W w.heap.size 25 #[.int .u64 bh, .int .u64 bl] ∧ HB W (w.heap.size + 1) 25 #[.int .u64 0, .int .u64 0] ∧ HB W w2.heap.size 95 #[.int .i64 wi, .int .i64 p, .int .i64 em] ∧ HB W pp3_0 25 #[.int .u64 eh, .int .u64 y] ∧ Below w.heap.size w W ∧ Off [] w3 W) ⟨((X0.other mX0 0 _).other mX0 1 _), ((X1.other mX1 0 _).other mX1 1 _), ((X2.other mX2 0 _).other mX2 1 _), ((X3.set 0 _).set 1 _), (((bC (bC (bC (bC (bC (bC (bC (bA (bA bR _) _) b1) b2) b3) b4) b5) b8) b11).setCell (p := ⟨pp3_0, 0, none⟩) gX3 _).setCell (p := ⟨pp3_0, 1, none⟩) gX3 _), (Off.far jX3 (Off.far jX3 S11))⟩ (fun w12 hz => ?_)
  clear q mX0 mX1 mX2 X0 X1 X2 X3
  obtain ⟨X0, X1, X2, X3, kk, hS⟩ := hz
  refine hK.out _ _ hS fun S12 => ?_
  clear hK K hS
  refine vP ?_
  refine vD ?_
  clear S12 S11 b11 w11 jX3 S8 b8 hX3 w8 S5 b5 w5
  revert kk; revert nX2_X3; revert nX1_X3; revert nX0_X3; revert gX3; revert X3; revert X2; revert X1; revert X0; revert pp3_0; revert w12
  exact ?rest4
  have nX0_X3 : w.heap.size < pp3_0 := by have := X0.lt; omega
  have nX1_X3 : w.heap.size + 1 < pp3_0 := by have := X1.lt; omega
  have nX2_X3 : w2.heap.size < pp3_0 := by have := X2.lt; omega
  have gX3 : w.heap.size ≤ pp3_0 := by have := (bC (bC (bC (bC (bA (bA bR _) _) b1) b2) b3) b4).size; omega
  have jX3 : w3.heap.size ≤ pp3_0 := by have := b4.size; omega
  refine vY1 (vC 4 S6 (h2.out _) (fun _ _ => Off.later) fun w13 b13 S13 => ?_)
  refine vY1 (vC 10 S13 (h3.out _ (ft.later (bC (bC (bC (bC (bC (bC (bA (bA bR _) _) b1) b2) b3) b4) b6) b13))) (fun _ _ => Off.later) fun w14 b14 S14 => ?_)
  refine vY1 (vO 12 fun K hK => ?_)
  replace X0 := X0.later (bC (bC b6 b13) b14)
  replace X1 := X1.later (bC (bC b6 b13) b14)
  replace X2 := X2.later (bC (bC b6 b13) b14)
  replace X3 := X3.later (bC b13 b14)
  have q := X3.o
  have mX0 : ¬ (w.heap.size = pp3_0) := by omega
  have mX1 : ¬ (w.heap.size + 1 = pp3_0) := by omega
  have mX2 : ¬ (w2.heap.size = pp3_0) := by omega
  go_simp
  refine vW (fun W => HB W w.heap.size 25 #[.int .u64 bh, .int .u64 bl] ∧ HB W (w.heap.size + 1) 25 #[.int .u64 0, .int .u64 0] ∧ HB W w2.heap.size 95 #[.int .i64 wi, .int .i64 p, .int .i64 em] ∧ HB W pp3_0 25 #[.int .u64 eh, .int .u64 y] ∧ Below w.heap.size w W ∧ Off [] w3 W) ⟨((X0.other mX0 0 _).other mX0 1 _), ((X1.other mX1 0 _).other mX1 1 _), ((X2.other mX2 0 _).other mX2 1 _), ((X3.set 0 _).set 1 _), (((bC (bC (bC (bC (bC (bC (bC (bA (bA bR _) _) b1) b2) b3) b4) b6) b13) b14).setCell (p := ⟨pp3_0, 0, none⟩) gX3 _).setCell (p := ⟨pp3_0, 1, none⟩) gX3 _), (Off.far jX3 (Off.far jX3 S14))⟩ (fun w15 hz => ?_)
  clear q mX0 mX1 mX2 X0 X1 X2 X3
  obtain ⟨X0, X1, X2, X3, kk, hS⟩ := hz
  refine hK.out _ _ hS fun S15 => ?_
  clear hK K hS
  refine vP ?_
  refine vD ?_
  clear S15 S14 b14 w14 S13 b13 w13 jX3 S6 b6 hX3 w6
  revert kk; revert nX2_X3; revert nX1_X3; revert nX0_X3; revert gX3; revert X3; revert X2; revert X1; revert X0; revert pp3_0; revert w15
  exact ?rest4
  intro w16 pp3_0 X0 X1 X2 X3 gX3 nX0_X3 nX1_X3 nX2_X3 kk
  go_wp2_with fail
  refine vR [w.heap.size + 1] fun w17 b17 S17 => ?_
  refine vT 0 S17 ?_ (hy := by intro wq hb; have q := (hb.hb X0 (by simp <;> omega)).o; go_simp; try (with_reducible rfl))
  refine vT 1 S17 ?_
  refine vT 2 S17 ?_ (hy := by intro wq hb; have q := (hb.hb X2 (by simp <;> omega)).o; go_simp; try (with_reducible rfl))
  refine vT 3 S17 ?_
  refine vT 5 S17 ?_
  refine vT 6 S17 ?_ (hy := by intro wq hb; have q := (hb.hb X3 (by simp <;> omega)).o; go_simp; try (with_reducible rfl))
  refine vT 7 S17 ?_
  refine vT 8 S17 ?_ (hy := by intro wq hb; have q := (hb.hb X0 (by simp <;> omega)).o; go_simp; try (with_reducible rfl))
  refine vT 9 S17 ?_
  refine vT 10 S17 ?_ (hy := by intro wq hb; have q := (hb.hb X2 (by simp <;> omega)).o; go_simp; try (with_reducible rfl))
  refine vT 11 S17 ?_
  refine vY1 (vC 4 S17 (h4.out _) (fun _ _ => Off.later) fun w18 b18 S18 => ?_)
  refine vY1 (vC 12 S18 (h5.out _ (ft.later (bC kk (bC b17 b18)))) (fun _ _ => Off.later) fun w19 b19 S19 => ?_)
  refine vT 13 S19 ?_
  refine vT 14 S19 ?_
  refine vY1 (vO 15 fun K hK => ?_)
  replace X1 := X1.later (bC (bC b17 b18) b19)
  have oX1 := X1.o
  go_simp
  refine hK.out _ _ (Off.set (by simp) (Off.set (by simp) S19)) fun S20 => ?_
  clear hK K
  refine vP ?_
  refine vD ?_
  go_wp2_with fail
  refine bodyPost_ret (v := .tuple #[.bool x, .int .i64 y, .agg #[.int .u64 rh, .int .u64 rl]]) ?_ rfl ⟨rfl, (((bC kk (bC (bC b17 b18) b19)).setCell (p := ⟨w.heap.size + 1, 0, none⟩) gX1 _).setCell (p := ⟨w.heap.size + 1, 1, none⟩) gX1 _)⟩
  simp [results, Tryz.results45, go_sem, oX1]
theorem make_no (f ex bh bl : Int) (ng : Bool)
    (h0 : Hid (∀ w, FTab w → Ca 15 #[.int .u8 f] w (.bool false))) (w : World) (ft : FTab w) :
    Ca 25 #[.int .u8 f, .bool ng, .int .i64 ex, U2 bh bl] w (U2 0 0) := by
  simp only [Ca, U2] at *
  go_enter Tryz.func25, Tryz.ntmps25
  go_wp2_with fail
  refine vM (h0.out _ (ft.later (bA (bA bR _) _))) fun w1 b1 => ?_
  have gX1 : w.heap.size ≤ w.heap.size + 1 := by omega
  have X1 := (HB.newAt (b := w.heap.size + 1) (by simp) _ _).later b1
  have oX1 := X1.o
  go_wp2_with fail
  refine bodyPost_ret (v := .agg #[.int .u64 0, .int .u64 0]) ?_ rfl ⟨rfl, (((bC (bA (bA bR _) _) b1).setCell (p := ⟨w.heap.size + 1, 0, none⟩) gX1 _).setCell (p := ⟨w.heap.size + 1, 1, none⟩) gX1 _)⟩
  simp [results, Tryz.results25, go_sem, oX1]
theorem make_yes (f ex bh bl wi p em p1 wp wm xh xl fh fl sh sl uh ul lh ll rh rl : Int) (ng : Bool)
    (h0 : Hid (∀ w, FTab w → Ca 15 #[.int .u8 f] w (.bool true)))
    (h1 : Hid (∀ w, FTab w → Ca 61 #[.int .u8 f] w (.agg #[.int .i64 wi, .int .i64 p, .int .i64 em])))
    (h2 : Hid (∀ w, FTab w → Ca 63 #[.int .i64 ex, .int .i64 wp] w (U2 xh xl)))
    (h3 : Hid (∀ w, Ca 62 #[U2 xh xl, .int .i64 p1] w (U2 fh fl)))
    (h4 : Hid (∀ w, FTab w → Ca 65 #[.bool ng, .int .i64 wm] w (U2 sh sl)))
    (h5 : Hid (∀ w, FTab w → Ca 64 #[U2 sh sl, U2 fh fl] w (U2 uh ul)))
    (h6 : Hid (∀ w, FTab w → Ca 56 #[U2 bh bl, .int .i64 p1] w (U2 lh ll)))
    (h7 : Hid (∀ w, FTab w → Ca 64 #[U2 uh ul, U2 lh ll] w (U2 rh rl))) (v1 : IntKind.i64.wrap (p - 1) = p1) (v2 : IntKind.i64.wrap (wi - p) = wp) (v3 : IntKind.i64.wrap (wi - 1) = wm) (w : World) (ft : FTab w) :
    Ca 25 #[.int .u8 f, .bool ng, .int .i64 ex, U2 bh bl] w (U2 rh rl) := by
  simp only [Ca, U2] at *
  go_enter Tryz.func25, Tryz.ntmps25
  go_wp2_with fail
  refine vM (h0.out _ (ft.later (bA (bA bR _) _))) fun w1 b1 => ?_
  have gX1 : w.heap.size ≤ w.heap.size + 1 := by omega
  have X0 := ((HB.newAt (b := w.heap.size) (by simp) _ _).alloc _).later b1
  have X1 := (HB.newAt (b := w.heap.size + 1) (by simp) _ _).later b1
  go_wp2_with fail
  refine vM (h1.out _ (ft.later (bC (bA (bA bR _) _) b1))) fun w2 b2 => ?_
  go_wp2_with fail
  replace X1 := X1.later b2
  have nX1_X2 : w.heap.size + 1 < w2.heap.size := by have := X1.lt; omega
  refine vF1 fun w3 b3 X2 => ?_
  refine vR [] fun w4 b4 S4 => ?_
  refine vT 0 S4 ?_
  refine vT 1 S4 ?_
  refine vT 2 S4 ?_ (hy := by intro wq hb; have q := (hb.hb X2 (by simp)).o; go_simp; try (with_reducible rfl))
  refine vT 3 S4 ?_
  refine vT 4 S4 ?_ (hy := by intro wq hb; have q := (hb.hb X2 (by simp)).o; go_simp; try (with_reducible rfl))
  refine vT 5 S4 ?_
  refine vT 7 S4 ?_
  refine vT 8 S4 ?_ (hy := by intro wq hb; have q := (hb.hb X2 (by simp)).o; go_simp; try (with_reducible rfl))
  refine vT 9 S4 ?_
  replace X0 := X0.later (bC (bC b2 b3) b4)
  replace X1 := X1.later (bC b3 b4)
  replace X2 := X2.later b4
  refine vY2 (vC 6 S4 (h2.out _ (ft.later (bC (bC (bC (bC (bA (bA bR _) _) b1) b2) b3) b4))) (fun _ _ => Off.later) fun w5 b5 S5 => ?_) (vA 11 S4 (fun _ _ => Off.later) fun w6 pp3_0 hX3 X3 b6 S6 => ?_)
  replace X0 := X0.later b5
  replace X1 := X1.later b5
  replace X2 := X2.later b5
  refine vY2 (vC 10 S5 (h3.out _) (fun _ _ => Off.later) fun w7 b7 S7 => ?_) (vA 11 S5 (fun _ _ => Off.later) fun w8 pp3_0 hX3 X3 b8 S8 => ?_)
  replace X0 := X0.later b7
  replace X1 := X1.later b7
  replace X2 := X2.later b7
  refine vY1 (vA 11 S7 (fun _ _ => Off.later) fun w9 pp3_0 hX3 X3 b9 S9 => ?_)
  have nX0_X3 : w.heap.size < pp3_0 := by have := X0.lt; omega
  have nX1_X3 : w.heap.size + 1 < pp3_0 := by have := X1.lt; omega
  have nX2_X3 : w2.heap.size < pp3_0 := by have := X2.lt; omega
  have gX3 : w.heap.size ≤ pp3_0 := by have := (bC (bC (bC (bC (bC (bC (bA (bA bR _) _) b1) b2) b3) b4) b5) b7).size; omega
  have jX3 : w3.heap.size ≤ pp3_0 := by have := (bC (bC b4 b5) b7).size; omega
  refine vY1 (vO 12 fun K hK => ?_)
  replace X0 := X0.later b9
  replace X1 := X1.later b9
  replace X2 := X2.later b9
  have q := X3.o
  have mX0 : ¬ (w.heap.size = pp3_0) := by omega
  have mX1 : ¬ (w.heap.size + 1 = pp3_0) := by omega
  have mX2 : ¬ (w2.heap.size = pp3_0) := by omega
  go_simp
  refine vW (fun W => HB W w.heap.size 25 #[.int .u64 bh, .int .u64 bl] ∧ HB W (w.heap.size + 1) 25 #[.int .u64 0, .int .u64 0] ∧ HB W w2.heap.size 95 #[.int .i64 wi, .int .i64 p, .int .i64 em] ∧ HB W pp3_0 25 #[.int .u64 fh, .int .u64 fl] ∧ Below w.heap.size w W ∧ Off [] w3 W) ⟨((X0.other mX0 0 _).other mX0 1 _), ((X1.other mX1 0 _).other mX1 1 _), ((X2.other mX2 0 _).other mX2 1 _), ((X3.set 0 _).set 1 _), (((bC (bC (bC (bC (bC (bC (bC (bA (bA bR _) _) b1) b2) b3) b4) b5) b7) b9).setCell (p := ⟨pp3_0, 0, none⟩) gX3 _).setCell (p := ⟨pp3_0, 1, none⟩) gX3 _), (Off.far jX3 (Off.far jX3 S9))⟩ (fun w10 hz => ?_)
  clear q mX0 mX1 mX2 X0 X1 X2 X3
  obtain ⟨X0, X1, X2, X3, kk, hS⟩ := hz
  refine hK.out _ _ hS fun S10 => ?_
  clear hK K hS
  refine vP ?_
  refine vD ?_
  clear S10 jX3 S9 b9 hX3 w9 S7 b7 w7 S5 b5 w5
  revert kk; revert nX2_X3; revert nX1_X3; revert nX0_X3; revert gX3; revert X3; revert X2; revert X1; revert X0; revert pp3_0; revert w10
  refine ?rest4
  rotate_left
  have nX0_X3 : w.heap.size < pp3_0 := by have := X0.lt; omega
  have nX1_X3 : w.heap.size + 1 < pp3_0 := by have := X1.lt; omega
  have nX2_X3 : w2.heap.size < pp3_0 := by have := X2.lt; omega
  have gX3 : w.heap.size ≤ pp3_0 := by have := (bC (bC (bC (bC (bC (bA (bA bR _) _) b1) b2) b3) b4) b5).size; omega
  have jX3 : w3.heap.size ≤ pp3_0 := by have := (bC b4 b5).size; omega
  refine vY1 (vC 10 S8 (h3.out _) (fun _ _ => Off.later) fun w11 b11 S11 => ?_)
  refine vY1 (vO 12 fun K hK => ?_)
  replace X0 := X0.later (bC b8 b11)
  replace X1 := X1.later (bC b8 b11)
  replace X2 := X2.later (bC b8 b11)
  replace X3 := X3.later b11
  have q := X3.o
  have mX0 : ¬ (w.heap.size = pp3_0) := by omega
  have mX1 : ¬ (w.heap.size + 1 = pp3_0) := by omega
  have mX2 : ¬ (w2.heap.size = pp3_0) := by omega
  go_simp
  refine vW (fun W => HB W w.heap.size 25 #[.int .u64 bh, .int .u64 bl] ∧ HB W (w.heap.size + 1) 25 #[.int .u64 0, .int .u64 0] ∧ HB W w2.heap.size 95 #[.int .i64 wi, .int .i64 p, .int .i64 em] ∧ HB W pp3_0 25 #[.int .u64 fh, .int .u64 fl] ∧ Below w.heap.size w W ∧ Off [] w3 W) ⟨((X0.other mX0 0 _).other mX0 1 _), ((X1.other mX1 0 _).other mX1 1 _), ((X2.other mX2 0 _).other mX2 1 _), ((X3.set 0 _).set 1 _), (((bC (bC (bC (bC (bC (bC (bC (bA (bA bR _) _) b1) b2) b3) b4) b5) b8) b11).setCell (p := ⟨pp3_0, 0, none⟩) gX3 _).setCell (p := ⟨pp3_0, 1, none⟩) gX3 _), (Off.far jX3 (Off.far jX3 S11))⟩ (fun w12 hz => ?_)
  clear q mX0 mX1 mX2 X0 X1 X2 X3
  obtain ⟨X0, X1, X2, X3, kk, hS⟩ := hz
  refine hK.out _ _ hS fun S12 => ?_
  clear hK K hS
  refine vP ?_
  refine vD ?_
  clear S12 S11 b11 w11 jX3 S8 b8 hX3 w8 S5 b5 w5
  revert kk; revert nX2_X3; revert nX1_X3; revert nX0_X3; revert gX3; revert X3; revert X2; revert X1; revert X0; revert pp3_0; revert w12
  exact ?rest4
  have nX0_X3 : w.heap.size < pp3_0 := by have := X0.lt; omega
  have nX1_X3 : w.heap.size + 1 < pp3_0 := by have := X1.lt; omega
  have nX2_X3 : w2.heap.size < pp3_0 := by have := X2.lt; omega
  have gX3 : w.heap.size ≤ pp3_0 := by have := (bC (bC (bC (bC (bA (bA bR _) _) b1) b2) b3) b4).size; omega
  have jX3 : w3.heap.size ≤ pp3_0 := by have := b4.size; omega
  refine vY1 (vC 6 S6 (h2.out _ (ft.later (bC (bC (bC (bC (bC (bA (bA bR _) _) b1) b2) b3) b4) b6))) (fun _ _ => Off.later) fun w13 b13 S13 => ?_)
  refine vY1 (vC 10 S13 (h3.out _) (fun _ _ => Off.later) fun w14 b14 S14 => ?_)
  refine vY1 (vO 12 fun K hK => ?_)
  replace X0 := X0.later (bC (bC b6 b13) b14)
  replace X1 := X1.later (bC (bC b6 b13) b14)
  replace X2 := X2.later (bC (bC b6 b13) b14)
  replace X3 := X3.later (bC b13 b14)
  have q := X3.o
  have mX0 : ¬ (w.heap.size = pp3_0) := by omega
  have mX1 : ¬ (w.heap.size + 1 = pp3_0) := by omega
  have mX2 : ¬ (w2.heap.size = pp3_0) := by omega
  go_simp
  refine vW (fun W => HB W w.heap.size 25 #[.int .u64 bh, .int .u64 bl] ∧ HB W (w.heap.size + 1) 25 #[.int .u64 0, .int .u64 0] ∧ HB W w2.heap.size 95 #[.int .i64 wi, .int .i64 p, .int .i64 em] ∧ HB W pp3_0 25 #[.int .u64 fh, .int .u64 fl] ∧ Below w.heap.size w W ∧ Off [] w3 W) ⟨((X0.other mX0 0 _).other mX0 1 _), ((X1.other mX1 0 _).other mX1 1 _), ((X2.other mX2 0 _).other mX2 1 _), ((X3.set 0 _).set 1 _), (((bC (bC (bC (bC (bC (bC (bC (bA (bA bR _) _) b1) b2) b3) b4) b6) b13) b14).setCell (p := ⟨pp3_0, 0, none⟩) gX3 _).setCell (p := ⟨pp3_0, 1, none⟩) gX3 _), (Off.far jX3 (Off.far jX3 S14))⟩ (fun w15 hz => ?_)
  clear q mX0 mX1 mX2 X0 X1 X2 X3
  obtain ⟨X0, X1, X2, X3, kk, hS⟩ := hz
  refine hK.out _ _ hS fun S15 => ?_
  clear hK K hS
  refine vP ?_
  refine vD ?_
  clear S15 S14 b14 w14 S13 b13 w13 jX3 S6 b6 hX3 w6
  revert kk; revert nX2_X3; revert nX1_X3; revert nX0_X3; revert gX3; revert X3; revert X2; revert X1; revert X0; revert pp3_0; revert w15
  exact ?rest4
  intro w16 pp3_0 X0 X1 X2 X3 gX3 nX0_X3 nX1_X3 nX2_X3 kk
  go_wp2_with fail
  refine vR [w.heap.size + 1] fun w17 b17 S17 => ?_
  refine vT 0 S17 ?_
  refine vT 1 S17 ?_
  refine vT 2 S17 ?_ (hy := by intro wq hb; have q := (hb.hb X2 (by simp <;> omega)).o; go_simp; try (with_reducible rfl))
  refine vT 3 S17 ?_
  refine vT 5 S17 ?_ (hy := by intro wq hb; have q := (hb.hb X3 (by simp <;> omega)).o; go_simp; try (with_reducible rfl))
  refine vT 7 S17 ?_ (hy := by intro wq hb; have q := (hb.hb X0 (by simp <;> omega)).o; go_simp; try (with_reducible rfl))
  refine vT 8 S17 ?_
  refine vT 9 S17 ?_ (hy := by intro wq hb; have q := (hb.hb X2 (by simp <;> omega)).o; go_simp; try (with_reducible rfl))
  refine vT 10 S17 ?_
  refine vY1 (vC 4 S17 (h4.out _ (ft.later (bC kk b17))) (fun _ _ => Off.later) fun w18 b18 S18 => ?_)
  refine vY1 (vC 6 S18 (h5.out _ (ft.later (bC kk (bC b17 b18)))) (fun _ _ => Off.later) fun w19 b19 S19 => ?_)
  refine vY1 (vC 11 S19 (h6.out _ (ft.later (bC kk (bC (bC b17 b18) b19)))) (fun _ _ => Off.later) fun w20 b20 S20 => ?_)
  refine vY1 (vC 12 S20 (h7.out _ (ft.later (bC kk (bC (bC (bC b17 b18) b19) b20)))) (fun _ _ => Off.later) fun w21 b21 S21 => ?_)
  refine vY1 (vO 13 fun K hK => ?_)
  replace X1 := X1.later (bC (bC (bC (bC b17 b18) b19) b20) b21)
  have oX1 := X1.o
  go_simp
  refine hK.out _ _ (Off.set (by simp) (Off.set (by simp) S21)) fun S22 => ?_
  clear hK K
  refine vP ?_
  refine vD ?_
  go_wp2_with fail
  refine bodyPost_ret (v := .agg #[.int .u64 rh, .int .u64 rl]) ?_ rfl ⟨rfl, (((bC kk (bC (bC (bC (bC b17 b18) b19) b20) b21)).setCell (p := ⟨w.heap.size + 1, 0, none⟩) gX1 _).setCell (p := ⟨w.heap.size + 1, 1, none⟩) gX1 _)⟩
  simp [results, Tryz.results25, go_sem, oX1]
theorem inf_core (f t rh rl : Int) (ng : Bool)
    (h0 : Hid (∀ w, FTab w → Ca 70 #[.int .u8 f] w (.int .i64 t)))
    (h1 : Hid (∀ w, FTab w → Ca 25 #[.int .u8 f, .bool ng, .int .i64 t, U2 0 0] w (U2 rh rl))) (w : World) (ft : FTab w) :
    Ca 28 #[.int .u8 f, .bool ng] w (U2 rh rl) := by
  simp only [Ca, U2] at *
  go_enter Tryz.func28, Tryz.ntmps28
  go_wp2_with fail
  refine vM (h0.out _ (ft.later (bA bR _))) fun w1 b1 => ?_
  have gX0 : w.heap.size ≤ w.heap.size := by omega
  have X0 := (HB.newAt (b := w.heap.size) (by simp) _ _).later b1
  go_wp2_with fail
  refine vM (h1.out _ (ft.later (bC (bA bR _) b1))) fun w2 b2 => ?_
  replace X0 := X0.later b2
  have oX0 := X0.o
  go_wp2_with fail
  refine bodyPost_ret (v := .agg #[.int .u64 rh, .int .u64 rl]) ?_ rfl ⟨rfl, (((bC (bC (bA bR _) b1) b2).setCell (p := ⟨w.heap.size, 0, none⟩) gX0 _).setCell (p := ⟨w.heap.size, 1, none⟩) gX0 _)⟩
  simp [results, Tryz.results28, go_sem, oX0]
theorem max_core (f t u rh rl : Int) (ng : Bool)
    (h0 : Hid (∀ w, FTab w → Ca 70 #[.int .u8 f] w (.int .i64 t)))
    (h1 : Hid (∀ w, FTab w → Ca 115 #[] w (U2 18446744073709551615 18446744073709551615)))
    (h2 : Hid (∀ w, FTab w → Ca 25 #[.int .u8 f, .bool ng, .int .i64 u, U2 18446744073709551615 18446744073709551615] w (U2 rh rl))) (v1 : IntKind.i64.wrap (t - 1) = u) (w : World) (ft : FTab w) :
    Ca 203 #[.int .u8 f, .bool ng] w (U2 rh rl) := by
  simp only [Ca, U2] at *
  go_enter Tryz.func203, Tryz.ntmps203
  go_wp2_with fail
  refine vM (h0.out _ (ft.later (bA bR _))) fun w1 b1 => ?_
  have gX0 : w.heap.size ≤ w.heap.size := by omega
  have X0 := (HB.newAt (b := w.heap.size) (by simp) _ _).later b1
  go_wp2_with fail
  refine vM (h1.out _ (ft.later (bC (bA bR _) b1))) fun w2 b2 => ?_
  go_wp2_with fail
  refine vM (h2.out _ (ft.later (bC (bC (bA bR _) b1) b2))) fun w3 b3 => ?_
  replace X0 := X0.later (bC b2 b3)
  have oX0 := X0.o
  go_wp2_with fail
  refine bodyPost_ret (v := .agg #[.int .u64 rh, .int .u64 rl]) ?_ rfl ⟨rfl, (((bC (bC (bC (bA bR _) b1) b2) b3).setCell (p := ⟨w.heap.size, 0, none⟩) gX0 _).setCell (p := ⟨w.heap.size, 1, none⟩) gX0 _)⟩
  simp [results, Tryz.results203, go_sem, oX0]
theorem nought_core (f rh rl : Int) (ng : Bool)
    (h0 : Hid (∀ w, FTab w → Ca 25 #[.int .u8 f, .bool ng, .int .i64 0, U2 0 0] w (U2 rh rl))) (w : World) (ft : FTab w) :
    Ca 24 #[.int .u8 f, .bool ng] w (U2 rh rl) := by
  simp only [Ca, U2] at *
  go_enter Tryz.func24, Tryz.ntmps24
  go_wp2_with fail
  refine vM (h0.out _ (ft.later (bA bR _))) fun w1 b1 => ?_
  have gX0 : w.heap.size ≤ w.heap.size := by omega
  have X0 := (HB.newAt (b := w.heap.size) (by simp) _ _).later b1
  have oX0 := X0.o
  go_wp2_with fail
  refine bodyPost_ret (v := .agg #[.int .u64 rh, .int .u64 rl]) ?_ rfl ⟨rfl, (((bC (bA bR _) b1).setCell (p := ⟨w.heap.size, 0, none⟩) gX0 _).setCell (p := ⟨w.heap.size, 1, none⟩) gX0 _)⟩
  simp [results, Tryz.results24, go_sem, oX0]
end Go.Proofs.YtjdjonekoodalaaGreatDoor
namespace Go.Proofs.YtjdjonekoodalaaGreatDoor
open Go.RowKit
attribute [local go_sem ↓] Go.wp_at_zero Go.wp_at_succ
theorem known_core (f : Int) (k : Bool) (h1 : IntKind.i64.wrap f = f) (h2 : decide (f < 4) = k) (w : World) : Calls Tryz.prog 15 #[.int .u8 f] w fun e w' => e = .returned (.bool k) ∧ Below w.heap.size w w' := by
  go_enter Tryz.func15, Tryz.ntmps15
  go_wp2_with fail
  go_ret
  exact ⟨rfl, bR⟩
theorem known_any (f : Int) (f0 : 0 ≤ f) (f1 : f ≤ 255) (w : World) : Calls Tryz.prog 15 #[.int .u8 f] w fun e w' => e = .returned (.bool (decide (f < 4))) ∧ Below w.heap.size w w' := known_core f _ (IntWalk.i64_in _ (by omega)) rfl w
theorem parsF_0 (w : World) (ft : FTab w) : Calls Tryz.prog 61 #[.int .u8 0] w fun e w' => e = .returned (.agg #[.int .i64 16, .int .i64 11, .int .i64 15]) ∧ Below w.heap.size w w' := by
  have K := lH (known_any 0 (by decide) (by decide))
  go_enter Tryz.func61, Tryz.ntmps61
  go_wp2_with fail
  (with_reducible refine (K.out _).mono ?_); rintro e w1 ⟨rfl, hb⟩
  have kk := bC (bA bR _) hb
  have xr : HB w1 w.heap.size 95 #[.int .i64 0, .int .i64 0, .int .i64 0] := (HB.new w _ _).later hb
  have g := ft.later kk
  have c0 : w1.cell? ⟨0, 0, none⟩ = some (.int .i64 16) := g 0 (by decide)
  have c1 : w1.cell? ⟨0, 1, none⟩ = some (.int .i64 11) := g 1 (by decide)
  have c2 : w1.cell? ⟨0, 2, none⟩ = some (.int .i64 15) := g 2 (by decide)
  have KEY : Hid (HB (((w1.setCell ⟨w.heap.size, 0, none⟩ (.int .i64 16)).setCell ⟨w.heap.size, 1, none⟩ (.int .i64 11)).setCell ⟨w.heap.size, 2, none⟩ (.int .i64 15)) w.heap.size 95 #[.int .i64 16, .int .i64 11, .int .i64 15] ∧ Below w.heap.size w (((w1.setCell ⟨w.heap.size, 0, none⟩ (.int .i64 16)).setCell ⟨w.heap.size, 1, none⟩ (.int .i64 11)).setCell ⟨w.heap.size, 2, none⟩ (.int .i64 15))) := lH ⟨((xr.set 0 _).set 1 _).set 2 _, (((kk.setCell (p := ⟨w.heap.size, 0, none⟩) (Nat.le_refl _) _).setCell (p := ⟨w.heap.size, 1, none⟩) (Nat.le_refl _) _).setCell (p := ⟨w.heap.size, 2, none⟩) (Nat.le_refl _) _)⟩
  have z0 := xr.cell 0; have z1 := xr.cell 1; have z2 := xr.cell 2; have f0 := xr.frozen 0; have f1 := xr.frozen 1; have f2 := xr.frozen 2
  dsimp at z0 z1 z2
  clear hb xr g kk K ft
  go_wp2_with fail
  obtain ⟨hE, kb⟩ := KEY.out
  have e0 := hE.cell 0; have e1 := hE.cell 1; have e2 := hE.cell 2
  dsimp at e0 e1 e2
  refine bodyPost_ret (v := .agg #[.int .i64 16, .int .i64 11, .int .i64 15]) ?_ rfl ⟨rfl, kb⟩
  clear z0 z1 z2 f0 f1 f2 kb hE KEY
  simp [results, Tryz.results61, go_sem, e0, e1, e2]
theorem parsF_1 (w : World) (ft : FTab w) : Calls Tryz.prog 61 #[.int .u8 1] w fun e w' => e = .returned (.agg #[.int .i64 32, .int .i64 24, .int .i64 127]) ∧ Below w.heap.size w w' := by
  have K := lH (known_any 1 (by decide) (by decide))
  go_enter Tryz.func61, Tryz.ntmps61
  go_wp2_with fail
  (with_reducible refine (K.out _).mono ?_); rintro e w1 ⟨rfl, hb⟩
  have kk := bC (bA bR _) hb
  have xr : HB w1 w.heap.size 95 #[.int .i64 0, .int .i64 0, .int .i64 0] := (HB.new w _ _).later hb
  have g := ft.later kk
  have c0 : w1.cell? ⟨0, 3, none⟩ = some (.int .i64 32) := g 3 (by decide)
  have c1 : w1.cell? ⟨0, 4, none⟩ = some (.int .i64 24) := g 4 (by decide)
  have c2 : w1.cell? ⟨0, 5, none⟩ = some (.int .i64 127) := g 5 (by decide)
  have KEY : Hid (HB (((w1.setCell ⟨w.heap.size, 0, none⟩ (.int .i64 32)).setCell ⟨w.heap.size, 1, none⟩ (.int .i64 24)).setCell ⟨w.heap.size, 2, none⟩ (.int .i64 127)) w.heap.size 95 #[.int .i64 32, .int .i64 24, .int .i64 127] ∧ Below w.heap.size w (((w1.setCell ⟨w.heap.size, 0, none⟩ (.int .i64 32)).setCell ⟨w.heap.size, 1, none⟩ (.int .i64 24)).setCell ⟨w.heap.size, 2, none⟩ (.int .i64 127))) := lH ⟨((xr.set 0 _).set 1 _).set 2 _, (((kk.setCell (p := ⟨w.heap.size, 0, none⟩) (Nat.le_refl _) _).setCell (p := ⟨w.heap.size, 1, none⟩) (Nat.le_refl _) _).setCell (p := ⟨w.heap.size, 2, none⟩) (Nat.le_refl _) _)⟩
  have z0 := xr.cell 0; have z1 := xr.cell 1; have z2 := xr.cell 2; have f0 := xr.frozen 0; have f1 := xr.frozen 1; have f2 := xr.frozen 2
  dsimp at z0 z1 z2
  clear hb xr g kk K ft
  go_wp2_with fail
  obtain ⟨hE, kb⟩ := KEY.out
  have e0 := hE.cell 0; have e1 := hE.cell 1; have e2 := hE.cell 2
  dsimp at e0 e1 e2
  refine bodyPost_ret (v := .agg #[.int .i64 32, .int .i64 24, .int .i64 127]) ?_ rfl ⟨rfl, kb⟩
  clear z0 z1 z2 f0 f1 f2 kb hE KEY
  simp [results, Tryz.results61, go_sem, e0, e1, e2]
theorem parsF_2 (w : World) (ft : FTab w) : Calls Tryz.prog 61 #[.int .u8 2] w fun e w' => e = .returned (.agg #[.int .i64 64, .int .i64 53, .int .i64 1023]) ∧ Below w.heap.size w w' := by
  have K := lH (known_any 2 (by decide) (by decide))
  go_enter Tryz.func61, Tryz.ntmps61
  go_wp2_with fail
  (with_reducible refine (K.out _).mono ?_); rintro e w1 ⟨rfl, hb⟩
  have kk := bC (bA bR _) hb
  have xr : HB w1 w.heap.size 95 #[.int .i64 0, .int .i64 0, .int .i64 0] := (HB.new w _ _).later hb
  have g := ft.later kk
  have c0 : w1.cell? ⟨0, 6, none⟩ = some (.int .i64 64) := g 6 (by decide)
  have c1 : w1.cell? ⟨0, 7, none⟩ = some (.int .i64 53) := g 7 (by decide)
  have c2 : w1.cell? ⟨0, 8, none⟩ = some (.int .i64 1023) := g 8 (by decide)
  have KEY : Hid (HB (((w1.setCell ⟨w.heap.size, 0, none⟩ (.int .i64 64)).setCell ⟨w.heap.size, 1, none⟩ (.int .i64 53)).setCell ⟨w.heap.size, 2, none⟩ (.int .i64 1023)) w.heap.size 95 #[.int .i64 64, .int .i64 53, .int .i64 1023] ∧ Below w.heap.size w (((w1.setCell ⟨w.heap.size, 0, none⟩ (.int .i64 64)).setCell ⟨w.heap.size, 1, none⟩ (.int .i64 53)).setCell ⟨w.heap.size, 2, none⟩ (.int .i64 1023))) := lH ⟨((xr.set 0 _).set 1 _).set 2 _, (((kk.setCell (p := ⟨w.heap.size, 0, none⟩) (Nat.le_refl _) _).setCell (p := ⟨w.heap.size, 1, none⟩) (Nat.le_refl _) _).setCell (p := ⟨w.heap.size, 2, none⟩) (Nat.le_refl _) _)⟩
  have z0 := xr.cell 0; have z1 := xr.cell 1; have z2 := xr.cell 2; have f0 := xr.frozen 0; have f1 := xr.frozen 1; have f2 := xr.frozen 2
  dsimp at z0 z1 z2
  clear hb xr g kk K ft
  go_wp2_with fail
  obtain ⟨hE, kb⟩ := KEY.out
  have e0 := hE.cell 0; have e1 := hE.cell 1; have e2 := hE.cell 2
  dsimp at e0 e1 e2
  refine bodyPost_ret (v := .agg #[.int .i64 64, .int .i64 53, .int .i64 1023]) ?_ rfl ⟨rfl, kb⟩
  clear z0 z1 z2 f0 f1 f2 kb hE KEY
  simp [results, Tryz.results61, go_sem, e0, e1, e2]
theorem parsF_3 (w : World) (ft : FTab w) : Calls Tryz.prog 61 #[.int .u8 3] w fun e w' => e = .returned (.agg #[.int .i64 128, .int .i64 113, .int .i64 16383]) ∧ Below w.heap.size w w' := by
  have K := lH (known_any 3 (by decide) (by decide))
  go_enter Tryz.func61, Tryz.ntmps61
  go_wp2_with fail
  (with_reducible refine (K.out _).mono ?_); rintro e w1 ⟨rfl, hb⟩
  have kk := bC (bA bR _) hb
  have xr : HB w1 w.heap.size 95 #[.int .i64 0, .int .i64 0, .int .i64 0] := (HB.new w _ _).later hb
  have g := ft.later kk
  have c0 : w1.cell? ⟨0, 9, none⟩ = some (.int .i64 128) := g 9 (by decide)
  have c1 : w1.cell? ⟨0, 10, none⟩ = some (.int .i64 113) := g 10 (by decide)
  have c2 : w1.cell? ⟨0, 11, none⟩ = some (.int .i64 16383) := g 11 (by decide)
  have KEY : Hid (HB (((w1.setCell ⟨w.heap.size, 0, none⟩ (.int .i64 128)).setCell ⟨w.heap.size, 1, none⟩ (.int .i64 113)).setCell ⟨w.heap.size, 2, none⟩ (.int .i64 16383)) w.heap.size 95 #[.int .i64 128, .int .i64 113, .int .i64 16383] ∧ Below w.heap.size w (((w1.setCell ⟨w.heap.size, 0, none⟩ (.int .i64 128)).setCell ⟨w.heap.size, 1, none⟩ (.int .i64 113)).setCell ⟨w.heap.size, 2, none⟩ (.int .i64 16383))) := lH ⟨((xr.set 0 _).set 1 _).set 2 _, (((kk.setCell (p := ⟨w.heap.size, 0, none⟩) (Nat.le_refl _) _).setCell (p := ⟨w.heap.size, 1, none⟩) (Nat.le_refl _) _).setCell (p := ⟨w.heap.size, 2, none⟩) (Nat.le_refl _) _)⟩
  have z0 := xr.cell 0; have z1 := xr.cell 1; have z2 := xr.cell 2; have f0 := xr.frozen 0; have f1 := xr.frozen 1; have f2 := xr.frozen 2
  dsimp at z0 z1 z2
  clear hb xr g kk K ft
  go_wp2_with fail
  obtain ⟨hE, kb⟩ := KEY.out
  have e0 := hE.cell 0; have e1 := hE.cell 1; have e2 := hE.cell 2
  dsimp at e0 e1 e2
  refine bodyPost_ret (v := .agg #[.int .i64 128, .int .i64 113, .int .i64 16383]) ?_ rfl ⟨rfl, kb⟩
  clear z0 z1 z2 f0 f1 f2 kb hE KEY
  simp [results, Tryz.results61, go_sem, e0, e1, e2]
theorem parsF_no (f : Int) (K : Hid (∀ w, Calls Tryz.prog 15 #[.int .u8 f] w fun e w' => e = .returned (.bool false) ∧ Below w.heap.size w w')) (w : World) : Calls Tryz.prog 61 #[.int .u8 f] w fun e w' => e = .returned (.agg #[.int .i64 0, .int .i64 0, .int .i64 0]) ∧ Below w.heap.size w w' := by
  go_enter Tryz.func61, Tryz.ntmps61
  go_wp2_with fail
  (with_reducible refine (K.out _).mono ?_); rintro e w1 ⟨rfl, hb⟩
  have kk := bC (bA bR _) hb
  have xr : HB w1 w.heap.size 95 #[.int .i64 0, .int .i64 0, .int .i64 0] := (HB.new w _ _).later hb
  have KEY : Hid (HB (((w1.setCell ⟨w.heap.size, 0, none⟩ (.int .i64 0)).setCell ⟨w.heap.size, 1, none⟩ (.int .i64 0)).setCell ⟨w.heap.size, 2, none⟩ (.int .i64 0)) w.heap.size 95 #[.int .i64 0, .int .i64 0, .int .i64 0] ∧ Below w.heap.size w (((w1.setCell ⟨w.heap.size, 0, none⟩ (.int .i64 0)).setCell ⟨w.heap.size, 1, none⟩ (.int .i64 0)).setCell ⟨w.heap.size, 2, none⟩ (.int .i64 0))) := lH ⟨((xr.set 0 _).set 1 _).set 2 _, (((kk.setCell (p := ⟨w.heap.size, 0, none⟩) (Nat.le_refl _) _).setCell (p := ⟨w.heap.size, 1, none⟩) (Nat.le_refl _) _).setCell (p := ⟨w.heap.size, 2, none⟩) (Nat.le_refl _) _)⟩
  have z0 := xr.cell 0; have z1 := xr.cell 1; have z2 := xr.cell 2; have f0 := xr.frozen 0; have f1 := xr.frozen 1; have f2 := xr.frozen 2
  dsimp at z0 z1 z2
  clear hb xr kk K
  go_wp2_with fail
  obtain ⟨hE, kb⟩ := KEY.out
  have e0 := hE.cell 0; have e1 := hE.cell 1; have e2 := hE.cell 2
  dsimp at e0 e1 e2
  refine bodyPost_ret (v := .agg #[.int .i64 0, .int .i64 0, .int .i64 0]) ?_ rfl ⟨rfl, kb⟩
  clear z0 z1 z2 f0 f1 f2 kb hE KEY
  simp [results, Tryz.results61, go_sem, e0, e1, e2]
theorem parsF_any (f : Int) (f0 : 0 ≤ f) (f1 : f ≤ 255) (w : World) (ft : FTab w) : Calls Tryz.prog 61 #[.int .u8 f] w fun e w' => e = .returned (.agg #[.int .i64 (fW f), .int .i64 (fP f), .int .i64 (fE f)]) ∧ Below w.heap.size w w' := by
  by_cases h : f < 4
  · rcases f_cases f0 h with rfl | rfl | rfl | rfl
    · exact parsF_0 w ft
    · exact parsF_1 w ft
    · exact parsF_2 w ft
    · exact parsF_3 w ft
  · rw [fW_no h, fP_no h, fE_no h]
    have K := known_any f f0 f1
    rw [show decide (f < 4) = false by simp [h]] at K
    exact parsF_no f (lH K) w
theorem onesN (w : World) (ft : FTab w) : Calls Tryz.prog 115 #[] w fun e w' => e = .returned (.agg #[.int .u64 18446744073709551615, .int .u64 18446744073709551615]) ∧ Below w.heap.size w w' := ones_any w
theorem lowestN (x : Int) (n : Nat) (hn : n ≤ 128) (w : World) (ft : FTab w) : Calls Tryz.prog 56 #[.agg #[.int .u64 (hiOf (x)), .int .u64 (loOf (x))], .int .i64 (n : Int)] w fun e w' => e = .returned (.agg #[.int .u64 (hiOf (x % full % 2 ^ n)), .int .u64 (loOf (x % full % 2 ^ n))]) ∧ Below w.heap.size w w' := by
  have hr := rightB 340282366920938463463374607431768211455 ((128 - n : Nat) : Int) (by omega) (by omega)
  rw [Int.toNat_natCast, ones_right n hn] at hr
  obtain ⟨a1, a2⟩ := and_low x n hn
  exact lowest_core _ _ _ _ _ _ _ _ (lH onesN) (lH hr) (by rw [IntWalk.i64_in _ (by omega)]; omega) a1 a2 w ft
theorem topN (f : Int) (f0 : 0 ≤ f) (f1 : f ≤ 255) (w : World) (ft : FTab w) : Calls Tryz.prog 70 #[.int .u8 f] w fun e w' => e = .returned (.int .i64 (2 * fE f + 1)) ∧ Below w.heap.size w w' := by
  have e : fE f ≤ 16383 := by unfold fE; split <;> (try split) <;> (try split) <;> (try split) <;> omega
  exact top_core f _ (2 * fE f) _ (lH fun w ft => emax_core f _ _ _ (lH (parsF_any f f0 f1)) w ft) (IntWalk.i64_in _ (by omega)) (IntWalk.i64_in _ (by omega)) (by unfold wrap64; omega) w ft
theorem signN (ng : Bool) (n : Nat) (hn : n ≤ 127) (w : World) (ft : FTab w) : Calls Tryz.prog 65 #[.bool ng, .int .i64 (n : Int)] w fun e w' => e = .returned (.agg #[.int .u64 (hiOf (if ng then (2 : Int) ^ n else 0)), .int .u64 (loOf (if ng then (2 : Int) ^ n else 0))]) ∧ Below w.heap.size w w' := by
  cases ng with
  | false => exact sign_no _ w
  | true =>
    have h := leftB 1 (n : Int) (by omega) (by omega)
    rw [Int.toNat_natCast, Int.one_mul] at h
    exact sign_yes _ _ _ (lH h) w
theorem exponentN (ex : Int) (n : Nat) (hn : n ≤ 64) (e0 : -9223372036854775808 ≤ ex) (e1 : ex ≤ 9223372036854775807) (w : World) (ft : FTab w) : Calls Tryz.prog 63 #[.int .i64 ex, .int .i64 (n : Int)] w fun e w' => e = .returned (.agg #[.int .u64 (hiOf (if ex < 0 ∨ 1048576 < ex then 0 else ex % 2 ^ n)), .int .u64 (loOf (if ex < 0 ∨ 1048576 < ex then 0 else ex % 2 ^ n))]) ∧ Below w.heap.size w w' := by
  by_cases h0 : ex < 0
  · rw [if_pos (Or.inl h0)]
    exact exponent_no _ _ (by simp [h0]) w
  · by_cases h1 : 1048576 < ex
    · rw [if_pos (Or.inr h1)]
      exact exponent_far _ _ (by simp [h0]) (by simp [h1]) w
    · rw [if_neg (by omega)]
      have hl := lowestN ex n (by omega)
      obtain ⟨s0, s1⟩ := hl_small (x := ex) ⟨by omega, by omega⟩
      rw [s0, s1, show ex % full = ex from Int.emod_eq_of_lt (by omega) (by unfold full; omega)] at hl
      exact exponent_yes _ _ _ _ (lH hl) (by simp [h0]) (by simp [h1]) (by rw [IntKind.wrap_u64]; omega) w ft
theorem unionN {x y : Int} (k : Nat) (h0 : 0 ≤ x) (y0 : 0 ≤ y) (y1 : y < 2 ^ k) (h1 : x * 2 ^ k + y < full) (w : World) (ft : FTab w) : Calls Tryz.prog 64 #[.agg #[.int .u64 (hiOf (x * 2 ^ k)), .int .u64 (loOf (x * 2 ^ k))], .agg #[.int .u64 (hiOf (y)), .int .u64 (loOf (y))]] w fun e w' => e = .returned (.agg #[.int .u64 (hiOf (x * 2 ^ k + y)), .int .u64 (loOf (x * 2 ^ k + y))]) ∧ Below w.heap.size w w' := by
  obtain ⟨a1, a2⟩ := or_sum k h0 y0 y1 h1
  exact union_core _ _ _ _ _ _ a1 a2 w
theorem cutN (f b : Int) (f0 : 0 ≤ f) (f1 : f ≤ 255) (w : World) (ft : FTab w) : Calls Tryz.prog 20 #[.int .u8 f, .agg #[.int .u64 (hiOf (b)), .int .u64 (loOf (b))]] w fun e w' => e = .returned (.agg #[.int .u64 (hiOf (cutF f (b % full))), .int .u64 (loOf (cutF f (b % full)))]) ∧ Below w.heap.size w w' :=
  cut_core f _ _ _ _ _ (lH fun w ft => width_core f _ _ _ (lH (parsF_any f f0 f1)) w ft) (lH (lowestN b (fW f) (fW_le f))) w ft
theorem exp_small (f B : Int) (f0 : 0 ≤ f) (h : f < 4) (hB : 0 ≤ B) : B / 2 ^ (fP f - 1) % 2 ^ (fW f - fP f) = expF f B := by
  obtain ⟨p0, p1, p2, _⟩ := f_nums f0 h
  unfold expF; rw [if_pos h]
  have e : (2 : Int) ^ (fW f - 1) = 2 ^ (fP f - 1) * 2 ^ (fW f - fP f) := by rw [← Int.pow_add, show fP f - 1 + (fW f - fP f) = fW f - 1 by omega]
  have hp := two_pow_pos (fP f - 1)
  have hq := two_pow_pos (fW f - fP f)
  rw [e]
  generalize (2 : Int) ^ (fP f - 1) = p at *
  generalize (2 : Int) ^ (fW f - fP f) = q at *
  have d1 := Int.mul_ediv_add_emod B p
  have d2 := Int.mul_ediv_add_emod (B / p) q
  have r1 := Int.emod_lt_of_pos B hp
  have r0 := Int.emod_nonneg B (show p ≠ 0 by omega)
  have s1 := Int.emod_lt_of_pos (B / p) hq
  have s0 := Int.emod_nonneg (B / p) (show q ≠ 0 by omega)
  have key : B = (p * (B / p % q) + B % p) + (B / p / q) * (p * q) := by
    have : p * (B / p) = p * (q * (B / p / q)) + p * (B / p % q) := by rw [← Int.mul_add, d2]
    rw [← Int.mul_assoc] at this
    rw [Int.mul_comm (B / p / q) (p * q)]
    omega
  have lt : p * (B / p % q) + B % p < p * q := by
    have := Int.mul_le_mul_of_nonneg_left (show B / p % q + 1 ≤ q by omega) (show 0 ≤ p by omega)
    rw [Int.mul_add, Int.mul_one] at this
    omega
  have ge : 0 ≤ p * (B / p % q) := Int.mul_nonneg (by omega) s0
  conv => rhs; rw [key]
  rw [Int.add_mul_emod_self_right, Int.emod_eq_of_lt (by omega) lt, Int.add_comm, Int.add_mul_ediv_left _ _ (by omega), Int.ediv_eq_zero_of_lt r0 r1, Int.zero_add]
theorem splitN (f b : Int) (f0 : 0 ≤ f) (f1 : f ≤ 255) (w : World) (ft : FTab w) : Calls Tryz.prog 45 #[.int .u8 f, .agg #[.int .u64 (hiOf (b)), .int .u64 (loOf (b))]] w fun e w' => e = .returned (.tuple #[.bool (negF f (b % full)), .int .i64 (expF f (b % full)), .agg #[.int .u64 (hiOf (fracF f (b % full))), .int .u64 (loOf (fracF f (b % full)))]]) ∧ Below w.heap.size w w' := by
  have K := known_any f f0 f1
  by_cases h : f < 4
  · rw [show decide (f < 4) = true by simp [h]] at K
    obtain ⟨p0, p1, p2, p3, p4, p5, p6, p7, p8⟩ := f_nums f0 h
    obtain ⟨m0, m1⟩ := mod_f b
    obtain ⟨x0, x1, x2, x3⟩ := exp_range f0 h m0
    have hr := rightB b ((fP f - 1 : Nat) : Int) (by omega) (by omega)
    rw [Int.toNat_natCast] at hr
    have q0 : 0 ≤ b % full / 2 ^ (fP f - 1) := Int.ediv_nonneg m0 (by have := two_pow_pos (fP f - 1); omega)
    have q1 : b % full / 2 ^ (fP f - 1) < full := by
      have := Int.ediv_le_self (2 ^ (fP f - 1)) m0; omega
    have hl := lowestN (b % full / 2 ^ (fP f - 1)) (fW f - fP f) (by omega)
    rw [Int.emod_eq_of_lt q0 q1, exp_small f _ f0 h m0, (hl_small (x := expF f (b % full)) ⟨x0, by omega⟩).2] at hl
    have hl2 := lowestN b (fP f - 1) (by omega)
    have hb : ∀ w, Calls Tryz.prog 103 #[.agg #[.int .u64 (hiOf b), .int .u64 (loOf b)], .int .i64 ((fW f - 1 : Nat) : Int)] w fun e w' => e = .returned (.bool (negF f (b % full))) ∧ Below w.heap.size w w' := by
      intro w
      have hh := bit_any (hiOf b) (loOf b) ((fW f - 1 : Nat) : Int) (hiOf_u b) (loOf_u b) w
      rw [val_hiLo_mod] at hh
      have e : bitI (b % full) ((fW f - 1 : Nat) : Int) = negF f (b % full) := by
        unfold bitI negF
        rw [Int.toNat_natCast]
        have g0 : decide (0 ≤ ((fW f - 1 : Nat) : Int)) = true := by simp
        have g1 : decide (((fW f - 1 : Nat) : Int) < 128) = true := by simp; omega
        have g2 : decide (f < 4) = true := by simp [h]
        rw [g0, g1, g2]
        simp only [Bool.true_and, Bool.and_true]
        rfl
      rw [e] at hh
      exact hh
    have e2 : fracF f (b % full) = b % full % 2 ^ (fP f - 1) := by unfold fracF; rw [if_pos h]
    rw [e2]
    exact split_yes f _ _ _ _ _ ((fP f - 1 : Nat) : Int) ((fW f - fP f : Nat) : Int) ((fW f - 1 : Nat) : Int) _ _ 0 0 _ _ _ _ _ (lH fun w _ => K w) (lH (parsF_any f f0 f1)) (lH hr) (lH hl) (lH hb) (lH hl2)
      (by rw [IntWalk.i64_in _ (by omega)]; omega) (by rw [IntWalk.i64_in _ (by omega)]; omega) (by rw [IntWalk.i64_in _ (by omega)]; omega) (IntWalk.i64_in _ (by omega)) w ft
  · rw [show decide (f < 4) = false by simp [h]] at K
    rw [show negF f (b % full) = false by unfold negF; simp [h], show expF f (b % full) = 0 by unfold expF; rw [if_neg h], show fracF f (b % full) = 0 by unfold fracF; rw [if_neg h]]
    exact split_no f _ _ (lH fun w _ => K w) w ft
theorem makeN (f : Int) (ng : Bool) (ex b : Int) (f0 : 0 ≤ f) (f1 : f ≤ 255) (e0 : -9223372036854775808 ≤ ex) (e1 : ex ≤ 9223372036854775807) (w : World) (ft : FTab w) : Calls Tryz.prog 25 #[.int .u8 f, .bool ng, .int .i64 ex, .agg #[.int .u64 (hiOf (b)), .int .u64 (loOf (b))]] w fun e w' => e = .returned (.agg #[.int .u64 (hiOf (makeF f ng ex (b % full))), .int .u64 (loOf (makeF f ng ex (b % full)))]) ∧ Below w.heap.size w w' := by
  have K := known_any f f0 f1
  by_cases h : f < 4
  · rw [show decide (f < 4) = true by simp [h]] at K
    obtain ⟨p0, p1, p2, p3, p4, p5, p6, p7, p8⟩ := f_nums f0 h
    obtain ⟨m0, m1⟩ := mod_f b
    obtain ⟨y0, y1⟩ := expOf_range f0 h ex
    obtain ⟨r0, r1, s0, s1, t0, t1⟩ := make_parts f0 h ng ex (b % full)
    have hx := exponentN ex (fW f - fP f) (by omega) e0 e1
    rw [show (if ex < 0 ∨ 1048576 < ex then 0 else ex % 2 ^ (fW f - fP f)) = expOf f ex from rfl] at hx
    have hL := leftB (expOf f ex) ((fP f - 1 : Nat) : Int) (by omega) (by omega)
    rw [Int.toNat_natCast] at hL
    have hs := signN ng (fW f - 1) (by omega)
    have hl := lowestN b (fP f - 1) (by omega)
    have hp := two_pow_pos (fP f - 1)
    have hw := two_pow_pos (fW f - 1)
    have sW : (2 : Int) ^ (fW f - 1) = 2 ^ (fW f - fP f) * 2 ^ (fP f - 1) := by rw [← Int.pow_add, show fW f - fP f + (fP f - 1) = fW f - 1 by omega]
    have fl := fW_full f
    have z0 : 0 ≤ expOf f ex * 2 ^ (fP f - 1) := Int.mul_nonneg y0 (by omega)
    obtain ⟨s, hs1, hs2⟩ : ∃ s : Int, (if ng then (2 : Int) ^ (fW f - 1) else 0) = s * 2 ^ (fW f - 1) ∧ (s = 0 ∨ s = 1) := by
      cases ng with
      | true => exact ⟨1, by simp, Or.inr rfl⟩
      | false => exact ⟨0, by simp, Or.inl rfl⟩
    have e : makeF f ng ex (b % full) = (s * 2 ^ (fW f - fP f) + expOf f ex) * 2 ^ (fP f - 1) + b % full % 2 ^ (fP f - 1) := by
      unfold makeF; rw [if_pos h, hs1, Int.add_mul, Int.mul_assoc, ← sW]; omega
    rw [hs1] at hs
    have e2 : s * 2 ^ (fW f - 1) + expOf f ex * 2 ^ (fP f - 1) = (s * 2 ^ (fW f - fP f) + expOf f ex) * 2 ^ (fP f - 1) := by rw [Int.add_mul, Int.mul_assoc, ← sW]
    have sg : 0 ≤ s := by omega
    have sn : 0 ≤ s * 2 ^ (fW f - fP f) := Int.mul_nonneg sg (by have := two_pow_pos (fW f - fP f); omega)
    rw [e] at t1 ⊢
    have hu := unionN (x := s) (y := expOf f ex * 2 ^ (fP f - 1)) (fW f - 1) sg z0 (by omega) (by rw [e2]; omega)
    rw [e2] at hu
    have hu2 := unionN (x := s * 2 ^ (fW f - fP f) + expOf f ex) (y := b % full % 2 ^ (fP f - 1)) (fP f - 1) (by omega) r0 r1 (by omega)
    exact make_yes f ex _ _ _ _ _ ((fP f - 1 : Nat) : Int) ((fW f - fP f : Nat) : Int) ((fW f - 1 : Nat) : Int) _ _ _ _ _ _ _ _ _ _ _ _ ng (lH fun w _ => K w) (lH (parsF_any f f0 f1)) (lH hx) (lH hL) (lH hs) (lH hu) (lH hl) (lH hu2)
      (by rw [IntWalk.i64_in _ (by omega)]; omega) (by rw [IntWalk.i64_in _ (by omega)]; omega) (by rw [IntWalk.i64_in _ (by omega)]; omega) w ft
  · rw [show decide (f < 4) = false by simp [h]] at K
    rw [makeF_zero h]
    exact make_no f ex _ _ ng (lH fun w _ => K w) w ft
theorem frac_ones {f : Int} (h0 : 0 ≤ f) (h : f < 4) (ng : Bool) (e : Int) : makeF f ng e (340282366920938463463374607431768211455 % full) = makeF f ng e (2 ^ (fP f - 1) - 1) := by
  obtain ⟨p0, p1, p2, p3, p4, p5, p6, p7, p8⟩ := f_nums h0 h
  unfold makeF; rw [if_pos h, if_pos h]
  congr 2
  rw [show (340282366920938463463374607431768211455 : Int) % full = 340282366920938463463374607431768211455 from by decide +kernel]
  have hp := two_pow_pos (fP f - 1)
  have e1 : (340282366920938463463374607431768211456 : Int) = 2 ^ (fP f - 1) * 2 ^ (128 - (fP f - 1)) := by rw [← Int.pow_add, show fP f - 1 + (128 - (fP f - 1)) = 128 by omega]; rfl
  have e2 : (340282366920938463463374607431768211455 : Int) = (2 ^ (fP f - 1) - 1) + 2 ^ (fP f - 1) * (2 ^ (128 - (fP f - 1)) - 1) := by rw [Int.mul_sub, ← e1]; omega
  rw [e2, Int.add_mul_emod_self_left]
theorem formOK : FormOK where
  known f f0 f1 w ft := known_any f f0 f1 w
  width f f0 f1 w ft := width_core f _ _ _ (lH (parsF_any f f0 f1)) w ft
  prec f f0 f1 w ft := prec_core f _ _ _ (lH (parsF_any f f0 f1)) w ft
  emax f f0 f1 w ft := emax_core f _ _ _ (lH (parsF_any f f0 f1)) w ft
  cut f b f0 f1 w ft := cutN f b f0 f1 w ft
  split f b f0 f1 w ft := splitN f b f0 f1 w ft
  make f ng ex b f0 f1 e0 e1 w ft := makeN f ng ex b f0 f1 e0 e1 w ft
  inf f ng f0 f1 w ft := by
    have e : fE f ≤ 16383 := by unfold fE; split <;> (try split) <;> (try split) <;> (try split) <;> omega
    have h := makeN f ng (2 * fE f + 1) 0 f0 f1 (by omega) (by omega)
    exact inf_core f _ _ _ ng (lH (topN f f0 f1)) (lH h) w ft
  max f ng f0 f1 w ft := by
    have e : fE f ≤ 16383 := by unfold fE; split <;> (try split) <;> (try split) <;> (try split) <;> omega
    have h := makeN f ng (2 * fE f) 340282366920938463463374607431768211455 f0 f1 (by omega) (by omega)
    have e2 : makeF f ng (2 * fE f) (340282366920938463463374607431768211455 % full) = maxF f ng := by
      by_cases h4 : f < 4
      · exact frac_ones f0 h4 ng _
      · unfold maxF; rw [makeF_zero h4, makeF_zero h4]
    rw [e2] at h
    exact max_core f _ _ _ _ ng (lH (topN f f0 f1)) (lH onesN) (lH h) (by rw [IntWalk.i64_in _ (by omega)]; omega) w ft
  nought f ng f0 f1 w ft := by
    have h := makeN f ng 0 0 f0 f1 (by decide) (by decide)
    exact nought_core f _ _ ng (lH h) w ft
end Go.Proofs.YtjdjonekoodalaaGreatDoor
