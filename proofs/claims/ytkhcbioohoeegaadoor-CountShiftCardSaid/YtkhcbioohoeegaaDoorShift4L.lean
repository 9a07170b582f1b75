/-
  CountShift over digits.
-/
import Derived.Test.YtkhcbioohoeegaaDoorShift4Gt
import Derived.Test.YtkhcbioohoeegaaDoorShift4Eq
import Derived.Test.YtkhcbioohoeegaaDoorShift4Lt
import Derived.Test.YtkhcbioohoeegaaDoorCounts4
import Derived.Test.YtkhcbioohoeegaaDoorShiftG
set_option linter.unusedVariables false
set_option linter.unusedSimpArgs false
set_option maxRecDepth 100000
namespace Go.Proofs.YtkhcbioohoeegaaDoor
open Go.RowKit
attribute [local go_sem ↓] Go.wp_at_zero Go.wp_at_succ

theorem shift4_wgt (C : CountOK) (A B n : Int) (hn : 0 ≤ n ∧ n ≤ 255) (cc : Int) (hc : ∀ w, Calls Tryd.prog 24 #[.agg #[.int .u64 (wd0 (A)), .int .u64 (wd1 (A)), .int .u64 (wd2 (A)), .int .u64 (wd3 (A))], .agg #[.int .u64 (wd0 (B)), .int .u64 (wd1 (B)), .int .u64 (wd2 (B)), .int .u64 (wd3 (B))]] w fun e w' => e = .returned (.int .i64 cc) ∧ Below w.heap.size w w') (hg : blen (B % wfull) < blen (A % wfull)) (h1 : 0 < cc) (w : World) (tb : Tab w) :
    Calls Tryd.prog 8 #[.agg #[.int .u64 (wd0 (A)), .int .u64 (wd1 (A)), .int .u64 (wd2 (A)), .int .u64 (wd3 (A))], .agg #[.int .u64 (wd0 (B)), .int .u64 (wd1 (B)), .int .u64 (wd2 (B)), .int .u64 (wd3 (B))], .int .u8 n] w fun e w' => e = .returned (.bool true) ∧ Below w.heap.size w w' := by
  obtain ⟨r0, r1⟩ := mod_w A
  obtain ⟨s0, s1⟩ := mod_w B
  have hl := C.wlen A
  have hk := C.wlen B
  have b2 := blen_w r0 r1
  have b3 := blen_w s0 s1
  have CN := Lib.hid (counts4_any C)
  have ws : IntKind.i64.wrap ((blen (A % wfull) : Int) + n) = (blen (A % wfull) : Int) + n := IntWalk.i64_in _ (by omega)
  have f1 : decide ((blen (B % wfull) : Int) < (blen (A % wfull) : Int)) = true := by simp; omega
  have f2 : decide (cc ≤ 0) = false := by simp; omega
  have f3 : decide (0 ≤ cc) = true := by simp; omega
  have f4 : decide ((blen (A % wfull) : Int) < (blen (B % wfull) : Int)) = false := by simp; omega
  by_cases hx : blen (A % wfull) = 0
  · have hx' : ((blen (A % wfull) : Int) == 0) = true := by simp [hx]
    exact shift4_gt_zero _ _ _ _ _ _ _ _ n _ _ _ (Lib.hid hl) (Lib.hid hk) (Lib.hid hc) CN f1 f2 f3 f4 hx' hn.1 hn.2 w tb
  · have hx' : ((blen (A % wfull) : Int) == 0) = false := by simp [hx]
    by_cases ho : 256 < (blen (A % wfull) : Int) + n
    · exact shift4_gt_over _ _ _ _ _ _ _ _ n _ _ _ _ (Lib.hid hl) (Lib.hid hk) (Lib.hid hc) CN f1 f2 f3 f4 hx' ws (by simp [ho]) hn.1 hn.2 w tb
    · have hp : 0 < A % wfull := by
        rcases Int.lt_or_eq_of_le r0 with g | g
        · exact g
        · rw [← g] at hx; exact (hx rfl).elim
      have lw := shl_lt_w (k := n.toNat) hp (by omega)
      have l1 := wleftW A n (by omega) (by omega)
      obtain ⟨m0, m1, m2, m3⟩ := wd_mul_mod A (2 ^ n.toNat)
      rw [← m0, ← m1, ← m2, ← m3] at l1
      have pp := two_pow_pos n.toNat
      have l0 : 0 ≤ A % wfull * 2 ^ n.toNat := Int.mul_nonneg r0 (by omega)
      have l2 := C.wlen (A % wfull * 2 ^ n.toNat)
      rw [Int.emod_eq_of_lt l0 lw, blen_shl hp, show ((blen (A % wfull) + n.toNat : Nat) : Int) = (blen (A % wfull) : Int) + n by omega] at l2
      have l3 := C.tail (A % wfull * 2 ^ n.toNat)
      rw [Int.emod_eq_of_lt l0 lw, tail_shl hp lw, show ((tailN (A % wfull) + n.toNat : Nat) : Int) = (tailN (A % wfull) : Int) + n by omega] at l3
      have l4 := C.tail A
      have wu : IntKind.i64.wrap ((tailN (A % wfull) : Int) + n) = (tailN (A % wfull) : Int) + n := IntWalk.i64_in _ (by have := tail_le (A % wfull); omega)
      exact shift4_gt_in _ _ _ _ _ _ _ _ _ _ _ _ n _ _ _ _ _ _ (Lib.hid hl) (Lib.hid hk) (Lib.hid hc) (Lib.hid l1) (Lib.hid l2) (Lib.hid l3) (Lib.hid l4) CN f1 f2 f3 f4 hx' ws (by simp; omega) wu hn.1 hn.2 w tb
theorem shift4_weq (C : CountOK) (A B n : Int) (hn : 0 ≤ n ∧ n ≤ 255) (cc : Int) (hc : ∀ w, Calls Tryd.prog 24 #[.agg #[.int .u64 (wd0 (A)), .int .u64 (wd1 (A)), .int .u64 (wd2 (A)), .int .u64 (wd3 (A))], .agg #[.int .u64 (wd0 (B)), .int .u64 (wd1 (B)), .int .u64 (wd2 (B)), .int .u64 (wd3 (B))]] w fun e w' => e = .returned (.int .i64 cc) ∧ Below w.heap.size w w') (hg : blen (B % wfull) = blen (A % wfull)) (h1 : 0 ≤ cc) (w : World) (tb : Tab w) :
    Calls Tryd.prog 8 #[.agg #[.int .u64 (wd0 (A)), .int .u64 (wd1 (A)), .int .u64 (wd2 (A)), .int .u64 (wd3 (A))], .agg #[.int .u64 (wd0 (B)), .int .u64 (wd1 (B)), .int .u64 (wd2 (B)), .int .u64 (wd3 (B))], .int .u8 n] w fun e w' => e = .returned (.bool true) ∧ Below w.heap.size w w' := by
  obtain ⟨r0, r1⟩ := mod_w A
  obtain ⟨s0, s1⟩ := mod_w B
  have hl := C.wlen A
  have hk := C.wlen B
  have b2 := blen_w r0 r1
  have b3 := blen_w s0 s1
  have CN := Lib.hid (counts4_any C)
  have ws : IntKind.i64.wrap ((blen (A % wfull) : Int) + n) = (blen (A % wfull) : Int) + n := IntWalk.i64_in _ (by omega)
  have f1 : decide ((blen (B % wfull) : Int) < (blen (A % wfull) : Int)) = false := by simp; omega
  have f3 : decide (0 ≤ cc) = true := by simp; omega
  have f4 : decide ((blen (A % wfull) : Int) < (blen (B % wfull) : Int)) = false := by simp; omega
  by_cases hx : blen (A % wfull) = 0
  · have hx' : ((blen (A % wfull) : Int) == 0) = true := by simp [hx]
    exact shift4_eq_zero _ _ _ _ _ _ _ _ n _ _ _ (Lib.hid hl) (Lib.hid hk) (Lib.hid hc) CN f1 f3 f4 hx' hn.1 hn.2 w tb
  · have hx' : ((blen (A % wfull) : Int) == 0) = false := by simp [hx]
    by_cases ho : 256 < (blen (A % wfull) : Int) + n
    · exact shift4_eq_over _ _ _ _ _ _ _ _ n _ _ _ _ (Lib.hid hl) (Lib.hid hk) (Lib.hid hc) CN f1 f3 f4 hx' ws (by simp [ho]) hn.1 hn.2 w tb
    · have hp : 0 < A % wfull := by
        rcases Int.lt_or_eq_of_le r0 with g | g
        · exact g
        · rw [← g] at hx; exact (hx rfl).elim
      have lw := shl_lt_w (k := n.toNat) hp (by omega)
      have l1 := wleftW A n (by omega) (by omega)
      obtain ⟨m0, m1, m2, m3⟩ := wd_mul_mod A (2 ^ n.toNat)
      rw [← m0, ← m1, ← m2, ← m3] at l1
      have pp := two_pow_pos n.toNat
      have l0 : 0 ≤ A % wfull * 2 ^ n.toNat := Int.mul_nonneg r0 (by omega)
      have l2 := C.wlen (A % wfull * 2 ^ n.toNat)
      rw [Int.emod_eq_of_lt l0 lw, blen_shl hp, show ((blen (A % wfull) + n.toNat : Nat) : Int) = (blen (A % wfull) : Int) + n by omega] at l2
      have l3 := C.tail (A % wfull * 2 ^ n.toNat)
      rw [Int.emod_eq_of_lt l0 lw, tail_shl hp lw, show ((tailN (A % wfull) + n.toNat : Nat) : Int) = (tailN (A % wfull) : Int) + n by omega] at l3
      have l4 := C.tail A
      have wu : IntKind.i64.wrap ((tailN (A % wfull) : Int) + n) = (tailN (A % wfull) : Int) + n := IntWalk.i64_in _ (by have := tail_le (A % wfull); omega)
      exact shift4_eq_in _ _ _ _ _ _ _ _ _ _ _ _ n _ _ _ _ _ _ (Lib.hid hl) (Lib.hid hk) (Lib.hid hc) (Lib.hid l1) (Lib.hid l2) (Lib.hid l3) (Lib.hid l4) CN f1 f3 f4 hx' ws (by simp; omega) wu hn.1 hn.2 w tb
theorem shift4_wlt (C : CountOK) (A B n : Int) (hn : 0 ≤ n ∧ n ≤ 255) (cc : Int) (hc : ∀ w, Calls Tryd.prog 24 #[.agg #[.int .u64 (wd0 (A)), .int .u64 (wd1 (A)), .int .u64 (wd2 (A)), .int .u64 (wd3 (A))], .agg #[.int .u64 (wd0 (B)), .int .u64 (wd1 (B)), .int .u64 (wd2 (B)), .int .u64 (wd3 (B))]] w fun e w' => e = .returned (.int .i64 cc) ∧ Below w.heap.size w w') (hg : blen (A % wfull) ≤ blen (B % wfull)) (h1 : cc < 0) (w : World) (tb : Tab w) :
    Calls Tryd.prog 8 #[.agg #[.int .u64 (wd0 (A)), .int .u64 (wd1 (A)), .int .u64 (wd2 (A)), .int .u64 (wd3 (A))], .agg #[.int .u64 (wd0 (B)), .int .u64 (wd1 (B)), .int .u64 (wd2 (B)), .int .u64 (wd3 (B))], .int .u8 n] w fun e w' => e = .returned (.bool true) ∧ Below w.heap.size w w' := by
  obtain ⟨r0, r1⟩ := mod_w A
  obtain ⟨s0, s1⟩ := mod_w B
  have hl := C.wlen A
  have hk := C.wlen B
  have b2 := blen_w r0 r1
  have b3 := blen_w s0 s1
  have CN := Lib.hid (counts4_any C)
  have ws : IntKind.i64.wrap ((blen (A % wfull) : Int) + n) = (blen (A % wfull) : Int) + n := IntWalk.i64_in _ (by omega)
  have f1 : decide ((blen (B % wfull) : Int) < (blen (A % wfull) : Int)) = false := by simp; omega
  have f3 : decide (0 ≤ cc) = false := by simp; omega
  by_cases hx : blen (A % wfull) = 0
  · have hx' : ((blen (A % wfull) : Int) == 0) = true := by simp [hx]
    exact shift4_lt_zero _ _ _ _ _ _ _ _ n _ _ _ (Lib.hid hl) (Lib.hid hk) (Lib.hid hc) CN f1 f3 hx' hn.1 hn.2 w tb
  · have hx' : ((blen (A % wfull) : Int) == 0) = false := by simp [hx]
    by_cases ho : 256 < (blen (A % wfull) : Int) + n
    · exact shift4_lt_over _ _ _ _ _ _ _ _ n _ _ _ _ (Lib.hid hl) (Lib.hid hk) (Lib.hid hc) CN f1 f3 hx' ws (by simp [ho]) hn.1 hn.2 w tb
    · have hp : 0 < A % wfull := by
        rcases Int.lt_or_eq_of_le r0 with g | g
        · exact g
        · rw [← g] at hx; exact (hx rfl).elim
      have lw := shl_lt_w (k := n.toNat) hp (by omega)
      have l1 := wleftW A n (by omega) (by omega)
      obtain ⟨m0, m1, m2, m3⟩ := wd_mul_mod A (2 ^ n.toNat)
      rw [← m0, ← m1, ← m2, ← m3] at l1
      have pp := two_pow_pos n.toNat
      have l0 : 0 ≤ A % wfull * 2 ^ n.toNat := Int.mul_nonneg r0 (by omega)
      have l2 := C.wlen (A % wfull * 2 ^ n.toNat)
      rw [Int.emod_eq_of_lt l0 lw, blen_shl hp, show ((blen (A % wfull) + n.toNat : Nat) : Int) = (blen (A % wfull) : Int) + n by omega] at l2
      have l3 := C.tail (A % wfull * 2 ^ n.toNat)
      rw [Int.emod_eq_of_lt l0 lw, tail_shl hp lw, show ((tailN (A % wfull) + n.toNat : Nat) : Int) = (tailN (A % wfull) : Int) + n by omega] at l3
      have l4 := C.tail A
      have wu : IntKind.i64.wrap ((tailN (A % wfull) : Int) + n) = (tailN (A % wfull) : Int) + n := IntWalk.i64_in _ (by have := tail_le (A % wfull); omega)
      exact shift4_lt_in _ _ _ _ _ _ _ _ _ _ _ _ n _ _ _ _ _ _ (Lib.hid hl) (Lib.hid hk) (Lib.hid hc) (Lib.hid l1) (Lib.hid l2) (Lib.hid l3) (Lib.hid l4) CN f1 f3 hx' ws (by simp; omega) wu hn.1 hn.2 w tb
theorem shift4_walk (C : CountOK) (A B n : Int) (hn : 0 ≤ n ∧ n ≤ 255) (w : World) (tb : Tab w) :
    Calls Tryd.prog 8 #[.agg #[.int .u64 (wd0 (A)), .int .u64 (wd1 (A)), .int .u64 (wd2 (A)), .int .u64 (wd3 (A))], .agg #[.int .u64 (wd0 (B)), .int .u64 (wd1 (B)), .int .u64 (wd2 (B)), .int .u64 (wd3 (B))], .int .u8 n] w fun e w' => e = .returned (.bool true) ∧ Below w.heap.size w w' := by
  obtain ⟨r0, r1⟩ := mod_w A
  obtain ⟨s0, s1⟩ := mod_w B
  have hc := cmpW A B
  obtain ⟨k1, k2, k3⟩ := cmpI_cases (A % wfull) (B % wfull)
  rcases Int.lt_trichotomy (A % wfull) (B % wfull) with h | h | h
  · exact shift4_wlt C A B n hn _ hc (blen_mono r0 (by omega)) (by rw [k1 h]; decide) w tb
  · exact shift4_weq C A B n hn _ hc (by rw [h]) (by rw [k3 h]; decide) w tb
  · rcases Nat.lt_or_eq_of_le (blen_mono s0 (Int.le_of_lt h)) with g | g
    · exact shift4_wgt C A B n hn _ hc g (by rw [k2 h]; decide) w tb
    · exact shift4_weq C A B n hn _ hc g (by rw [k2 h]; decide) w tb
theorem shift4_law (C : CountOK) (a0 a1 a2 a3 b0 b1 b2 b3 n : Int) (ua0 : U64 a0) (ua1 : U64 a1) (ua2 : U64 a2) (ua3 : U64 a3) (ub0 : U64 b0) (ub1 : U64 b1) (ub2 : U64 b2) (ub3 : U64 b3) (hn : 0 ≤ n ∧ n ≤ 255) (w : World) (tb : Tab w) :
    Calls Tryd.prog 8 #[.agg #[.int .u64 a0, .int .u64 a1, .int .u64 a2, .int .u64 a3], .agg #[.int .u64 b0, .int .u64 b1, .int .u64 b2, .int .u64 b3], .int .u8 n] w fun e w' => e = .returned (.bool true) ∧ Below w.heap.size w w' := by
  have h := shift4_walk C (wval a0 a1 a2 a3) (wval b0 b1 b2 b3) n hn w tb
  obtain ⟨e0, e1, e2, e3⟩ := wd_wval ua0 ua1 ua2 ua3
  obtain ⟨f0, f1, f2, f3⟩ := wd_wval ub0 ub1 ub2 ub3
  rw [e0, e1, e2, e3, f0, f1, f2, f3] at h
  exact h


end Go.Proofs.YtkhcbioohoeegaaDoor
