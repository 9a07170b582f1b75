/-
  CountBack over digits.
-/
import Derived.Test.YtkhcbioohoeegaaDoorBack4
import Derived.Test.YtkhcbioohoeegaaDoorCounts4
import Derived.Test.YtkhcbioohoeegaaDoorShiftG
set_option linter.unusedVariables false
set_option linter.unusedSimpArgs false
set_option maxRecDepth 100000
namespace Go.Proofs.YtkhcbioohoeegaaDoor
open Go.RowKit
attribute [local go_sem ↓] Go.wp_at_zero Go.wp_at_succ

theorem back4_walk (C : CountOK) (A : Int) (w : World) (tb : Tab w) :
    Calls Tryd.prog 6 #[.agg #[.int .u64 (hiOf (A)), .int .u64 (loOf (A))]] w fun e w' => e = .returned (.bool true) ∧ Below w.heap.size w w' := by
  obtain ⟨r0, r1⟩ := mod_f A
  obtain ⟨f0, f1, f2, f3⟩ := wd_full A
  have hr := C.raise A
  have ho := of_any (hiOf A) (loOf A)
  have hw := C.wraise (A % full)
  rw [f0, f1, f2, f3, mod_full_w] at hw
  have hz := zeroB A
  have CN := Lib.hid (counts4_any C)
  have z0 := zeroB 0
  rw [show hiOf 0 = 0 from rfl, show loOf 0 = 0 from rfl, show ((0 : Int) % full == 0) = true from by decide +kernel] at z0
  by_cases h : A % full = 0
  · rw [h, up_zero, show (0 : Int) * 2 ^ 0 = 0 from rfl, show hiOf 0 = 0 from rfl, show loOf 0 = 0 from rfl, show ((0 : Nat) : Int) = 0 from rfl] at hr
    rw [h, up_zero, show (0 : Int) * 2 ^ 0 = 0 from rfl, show wd0 0 = 0 from rfl, show wd1 0 = 0 from rfl, show wd2 0 = 0 from rfl, show wd3 0 = 0 from rfl, show ((0 : Nat) : Int) = 0 from rfl] at hw
    rw [h, show ((0 : Int) == 0) = true from rfl] at hz
    have z1 := zeroW 0
    rw [show wd0 0 = 0 from rfl, show wd1 0 = 0 from rfl, show wd2 0 = 0 from rfl, show wd3 0 = 0 from rfl, show ((0 : Int) % wfull == 0) = true from by decide +kernel] at z1
    exact back4_zero _ _ (Lib.hid hr) (Lib.hid ho) (Lib.hid hw) (Lib.hid hz) (Lib.hid z0) (Lib.hid z1) CN w tb
  · have hx : 0 < A % full := by omega
    rw [show (A % full == 0) = false by simp [h]] at hz
    have bl := blen_f r0 r1
    have b1 := blen_pos hx
    have u1 : upN 128 (A % full) = 128 - blen (A % full) := by unfold upN; rw [if_neg h]
    have u2 : upN 256 (A % full) = upN 128 (A % full) + 128 := by rw [u1]; unfold upN; rw [if_neg h]; omega
    obtain ⟨s1, s2⟩ := up_spec hx bl
    rw [u2, Int.pow_add, ← Int.mul_assoc, show (2 : Int) ^ 128 = full from by decide +kernel] at hw
    rw [show (2 : Int) ^ 128 = full from by decide +kernel] at s2
    have s0 : 0 ≤ A % full * 2 ^ upN 128 (A % full) := by have := two_pow_pos (128 - 1); omega
    have rb := rightB (A % full * 2 ^ upN 128 (A % full)) (upN 128 (A % full) : Int) (by omega) (by have := up_le 128 (A % full); omega)
    rw [Int.toNat_natCast, Int.emod_eq_of_lt s0 s2, mul_pow_div, (hl_mod A).1, (hl_mod A).2] at rb
    have bt := bit_any (hiOf (A % full * 2 ^ upN 128 (A % full))) (loOf (A % full * 2 ^ upN 128 (A % full))) 127 (hiOf_u _) (loOf_u _)
    rw [val_hiLo s0 s2] at bt
    have BT : bitI (A % full * 2 ^ upN 128 (A % full)) 127 = true := by
      generalize A % full * 2 ^ upN 128 (A % full) = y at *
      unfold bitI
      rw [show (127 : Int).toNat = 127 from rfl]
      have e1 : y / 2 ^ 127 = 1 := by
        have p : (2 : Int) ^ 127 = 170141183460469231731687303715884105728 := by decide +kernel
        rw [show (128 - 1 : Nat) = 127 from rfl, p] at s1
        unfold full at s2
        rw [p]; omega
      rw [e1]; rfl
    rw [BT] at bt
    generalize A % full * 2 ^ upN 128 (A % full) = y at *
    have y0 : wd0 (y * full) = 0 ∧ wd1 (y * full) = 0 ∧ wd2 (y * full) = loOf y ∧ wd3 (y * full) = hiOf y := by
      unfold wd0 wd1 wd2 wd3 loOf hiOf full; omega
    obtain ⟨y1, y2, y3, y4⟩ := y0
    rw [y1, y2, y3, y4] at hw
    have hh := high_any 0 0 (loOf y) (hiOf y)
    have hlo := low_any 0 0 (loOf y) (hiOf y)
    refine back4_not _ _ _ _ _ _ (Lib.hid hr) (Lib.hid ho) (Lib.hid hw) (Lib.hid hz) (Lib.hid bt) (Lib.hid rb) (Lib.hid hh) (Lib.hid hlo) (Lib.hid z0) CN ?_ w tb
    rw [IntWalk.i64_in _ (by have := up_le 128 (A % full); omega)]; push_cast; rfl


theorem back4_law (C : CountOK) (ah al : Int) (uah : U64 ah) (ual : U64 al) (w : World) (tb : Tab w) :
    Calls Tryd.prog 6 #[.agg #[.int .u64 ah, .int .u64 al]] w fun e w' => e = .returned (.bool true) ∧ Below w.heap.size w w' := by
  have h := back4_walk C (val ah al) w tb
  rw [(hl_val uah ual).1, (hl_val uah ual).2] at h
  exact h


end Go.Proofs.YtkhcbioohoeegaaDoor
