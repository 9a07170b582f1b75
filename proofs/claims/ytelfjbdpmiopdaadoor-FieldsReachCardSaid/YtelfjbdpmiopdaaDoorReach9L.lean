/-
  FieldsReach over digits.
-/
import Derived.Test.YtelfjbdpmiopdaaDoorReach9
import Derived.Test.YtelfjbdpmiopdaaDoorGoes9L
set_option linter.unusedVariables false
set_option linter.unusedSimpArgs false
set_option maxRecDepth 100000
namespace Go.Proofs.YtelfjbdpmiopdaaDoor
open Go.RowKit
attribute [local go_sem ↓] Go.wp_at_zero Go.wp_at_succ

theorem reach9_law_n (C : FldOK) (K : FormOK) (f b : Int) (f0 : 0 ≤ f) (f1 : f ≤ 255) (w : World) (ft : FTab w) : Calls Tryd.prog 7 #[.int .u8 f, .agg #[.int .u64 (hiOf (b)), .int .u64 (loOf (b))]] w fun e w' => e = .returned (.bool true) ∧ Below w.heap.size w w' := by
  have G := Lib.hid (goes9_any C)
  obtain ⟨m0, m1⟩ := mod_f b
  have hU := C.unpack f b f0 f1
  have hP := K.prec f f0 f1
  have hE := K.emax f f0 f1
  by_cases c : clsF f (b % full) = 1 ∨ clsF f (b % full) = 2
  · have h : f < 4 := by
      rcases Int.lt_or_le f 4 with h | h
      · exact h
      · exfalso; have := cls_no (show ¬ f < 4 by omega) (b % full); omega
    obtain ⟨p0, p1, p2, p3, p4, p5, p6, p7, p8⟩ := f_nums f0 h
    obtain ⟨r1, r2, r3, r4, r5, r6⟩ := un_range f0 h m0 c
    have sr := uS_range (f := f) (b := b % full) f0 m0
    have bit : ∀ i : Int, ∀ w, Calls Tryd.prog 22 #[.agg #[.int .u64 (hiOf (uS f (b % full))), .int .u64 (loOf (uS f (b % full)))], .int .i64 i] w fun e w' => e = .returned (.bool (bitI (uS f (b % full)) i)) ∧ Below w.heap.size w w' := by
      intro i w
      have hh := bit_any (hiOf (uS f (b % full))) (loOf (uS f (b % full))) i (hiOf_u _) (loOf_u _) w
      rw [val_hiLo sr.1 sr.2] at hh
      exact hh
    have B : ∀ i : Int, 0 ≤ i → i < ((128 - fP f : Nat) : Int) → bitI (uS f (b % full)) i = false := by
      intro i i0 i1
      obtain ⟨j, rfl⟩ := Int.eq_ofNat_of_zero_le i0
      have z := mod_zero_le (show j + 1 ≤ 128 - fP f by omega) r5
      have e := Int.emod_add_mul_ediv (uS f (b % full)) (2 ^ (j + 1))
      rw [z, Int.zero_add, Int.pow_succ, Int.mul_assoc] at e
      have q : uS f (b % full) / 2 ^ j = 2 * (uS f (b % full) / (2 ^ j * 2)) := by
        conv => lhs; rw [← e]
        rw [Int.mul_ediv_cancel_left _ (by have := two_pow_pos j; omega)]
      unfold bitI
      rw [Int.toNat_natCast, q, Int.mul_emod_right]
      simp
    have T : bitI (uS f (b % full)) 127 = true := by
      have q : uS f (b % full) / 2 ^ 127 = 1 := by
        have e : (2 : Int) ^ 127 = 170141183460469231731687303715884105728 := by decide
        have ef : full = 340282366920938463463374607431768211456 := rfl
        have r4' := r4
        rw [e] at r3 ⊢
        clear B bit hU G
        generalize uS f (b % full) = u at *
        clear r5 r6 sr
        omega
      unfold bitI
      show (decide ((0 : Int) ≤ 127) && decide ((127 : Int) < 128) && uS f (b % full) / 2 ^ 127 % 2 == 1) = true
      rw [q]; rfl
    have BT : ∀ i : Int, 0 ≤ i → i < ((128 - fP f : Nat) : Int) → ∀ w, Calls Tryd.prog 22 #[.agg #[.int .u64 (hiOf (uS f (b % full))), .int .u64 (loOf (uS f (b % full)))], .int .i64 i] w fun e w' => e = .returned (.bool false) ∧ Below w.heap.size w w' := by
      intro i i0 i1 w
      have hh := bit i w
      rw [B i i0 i1] at hh
      exact hh
    have TP := bit 127
    rw [T] at TP
    have a1 : IntKind.i64.wrap (128 - (fP f : Int)) = ((128 - fP f : Nat) : Int) := by rw [IntWalk.i64_in _ (by omega)]; omega
    have a2 : IntKind.i64.wrap (2 - (fE f : Int)) = 2 - fE f := IntWalk.i64_in _ (by omega)
    have a3 : IntKind.i64.wrap (2 - (fE f : Int) - fP f) = 2 - fE f - fP f := IntWalk.i64_in _ (by omega)
    have a4 : IntKind.i64.wrap (1 - (fE f : Int)) = 1 - fE f := IntWalk.i64_in _ (by omega)
    have g1 : decide (uE f (b % full) ≤ (fE f : Int)) = true := by simp [r1]
    have g2 : decide (2 - (fE f : Int) - fP f ≤ uE f (b % full)) = true := by simp [r2]
    rcases c with c | c
    · rw [c] at hU
      exact reach9_1 f _ _ _ _ _ _ _ _ _ _ _ _ (Lib.hid hU) (Lib.hid hP) (Lib.hid hE) G (Lib.hid BT) (Lib.hid TP) (by omega) (Lib.hid (by omega)) a1 g1 a2 a3 g2 a4 (by simp; exact r6.1 c) w ft
    · rw [c] at hU
      exact reach9_2 f _ _ _ _ _ _ _ _ _ _ _ _ (Lib.hid hU) (Lib.hid hP) (Lib.hid hE) G (Lib.hid BT) (Lib.hid TP) (by omega) (Lib.hid (by omega)) a1 g1 a2 a3 g2 a4 (by simp; have := fun x => r6.2 x; omega) w ft
  · obtain ⟨a3, a4⟩ := u_none c
    obtain ⟨z1, z2⟩ := hl_zero
    rw [a3, a4, z1, z2] at hU
    exact reach9_not f _ _ _ _ (Lib.hid hU) G (by simp; omega) (by simp; omega) w ft
theorem reach9_law (C : FldOK) (K : FormOK) (f bh bl : Int) (uf : 0 ≤ f ∧ f ≤ 255) (ubh : U64 bh) (ubl : U64 bl) (w : World) (ft : FTab w) : Calls Tryd.prog 7 #[.int .u8 f, .agg #[.int .u64 bh, .int .u64 bl]] w fun e w' => e = .returned (.bool true) ∧ Below w.heap.size w w' := by
  have h := reach9_law_n C K f (val bh bl) uf.1 uf.2 w ft
  rw [(hl_val ubh ubl).1, (hl_val ubh ubl).2] at h
  exact h


end Go.Proofs.YtelfjbdpmiopdaaDoor
