/-
  Package payload keeps what the document asks.
-/
import Derived.Test.YthnikhhgnogibaaDoorPayC
set_option linter.unusedVariables false
set_option linter.unusedSimpArgs false
set_option maxRecDepth 100000
namespace Go.Proofs.YthnikhhgnogibaaDoor
open Go.RowKit

/-- Aligned at the top and shifted down again: the payload converted, the bit above it kept. -/
theorem conv_align {a c : Nat} (ha : a ≤ 127) (hc : c ≤ 127) (l : Int) : (l + 2 ^ a) * 2 ^ (127 - a) / 2 ^ (127 - c) = convL a c l + 2 ^ c := by
  unfold convL
  rcases Nat.le_total a c with h | h
  · have e1 : (2 : Int) ^ (127 - a) = 2 ^ (c - a) * 2 ^ (127 - c) := by rw [← Int.pow_add, show c - a + (127 - c) = 127 - a by omega]
    have e2 : (2 : Int) ^ c = 2 ^ a * 2 ^ (c - a) := by rw [← Int.pow_add, show a + (c - a) = c by omega]
    rw [show a - c = 0 by omega, Int.pow_zero, Int.ediv_one, e1, ← Int.mul_assoc, Int.mul_ediv_cancel _ (by have := two_pow_pos (127 - c); omega), Int.add_mul, ← e2]
  · have e1 : (2 : Int) ^ (127 - c) = 2 ^ (127 - a) * 2 ^ (a - c) := by rw [← Int.pow_add, show 127 - a + (a - c) = 127 - c by omega]
    have e2 : (2 : Int) ^ a = 2 ^ c * 2 ^ (a - c) := by rw [← Int.pow_add, show c + (a - c) = a by omega]
    rw [show c - a = 0 by omega, Int.pow_zero, Int.mul_one, e1, ← Int.ediv_ediv_of_nonneg (by have := two_pow_pos (127 - a); omega), Int.mul_ediv_cancel _ (by have := two_pow_pos (127 - a); omega), e2, Int.add_mul_ediv_right _ _ (by have := two_pow_pos (a - c); omega)]
theorem roomN (f : Int) (f0 : 0 ≤ f) (h : f < 4) (w : World) (ft : FTab w) : Calls Tryd.prog 22 #[.int .u8 f] w fun e w' => e = .returned (.int .i64 ((129 - fP f : Nat) : Int)) ∧ Below w.heap.size w w' := by
  obtain ⟨p0, p1, p2, p3, p4, p5, p6, p7, p8⟩ := f_nums f0 h
  exact pay_room f (fP f) _ (Lib.hid (formOK.prec f f0 (by omega))) (by rw [IntWalk.i64_in _ (by omega)]; omega) w ft
theorem readN (f b : Int) (f0 : 0 ≤ f) (h : f < 4) (bk : Nat) (w : World) (ft : FTab w) (c0 : w.cell? ⟨bk, 0, none⟩ = some (.int .u8 f)) : Calls Tryd.prog 40 #[.agg #[.int .u64 (hiOf (b)), .int .u64 (loOf (b))], .pointer (some ⟨bk, 0, none⟩)] w fun e w' => e = .returned (.tuple #[.bool (negF f (b % full)), .int .i64 (expF f (b % full)), .agg #[.int .u64 (hiOf (fracF f (b % full) * 2 ^ (129 - fP f))), .int .u64 (loOf (fracF f (b % full) * 2 ^ (129 - fP f)))]]) ∧ Below w.heap.size w w' := by
  obtain ⟨p0, p1, p2, p3, p4, p5, p6, p7, p8⟩ := f_nums f0 h
  have L := leftB (fracF f (b % full)) ((129 - fP f : Nat) : Int) (by omega) (by omega)
  rw [Int.toNat_natCast] at L
  exact pay_read f _ _ _ _ _ _ _ _ bk _ (Lib.hid (formOK.split f b f0 (by omega))) (Lib.hid (roomN f f0 h)) (Lib.hid L) w ft c0
theorem def_fields {t : Int} (h0 : 0 ≤ t) (ht : t < 4) : expF t (defF t) = 2 * fE t + 1 ∧ 0 ≤ defF t ∧ defF t < full := by
  obtain ⟨p0, p1, p2, p3, p4, p5, p6, p7, p8⟩ := f_nums h0 ht
  obtain ⟨m1, m2, m3⟩ := make_fields h0 ht false (2 * fE t + 1) (2 ^ (fP t - 2))
  rw [expOf_id h0 ht (by omega) (by omega)] at m1
  exact ⟨m1, make_full h0 ..⟩
/-- A NaN made quiet, by its fields. -/
theorem quiet_parts {f b : Int} (h0 : 0 ≤ f) (hb : 0 ≤ b) (h : nanF f b = true) : negF f (quietF f b) = negF f b ∧ fracF f (quietF f b) = loadF f b + 2 ^ (fP f - 2) ∧ 0 ≤ quietF f b ∧ quietF f b < full := by
  obtain ⟨h4, e, s1, s2⟩ := nan_parts h
  obtain ⟨p0, p1, p2, p3, p4, p5, p6, p7, p8⟩ := f_nums h0 h4
  obtain ⟨l0, l1⟩ := load_range (f := f) b
  have n2 : (2 : Int) ^ (fP f - 1) = 2 * 2 ^ (fP f - 2) := by rw [← Int.pow_succ', show fP f - 2 + 1 = fP f - 1 by omega]
  rw [quiet_load h0 hb h]
  obtain ⟨m1, m2, m3⟩ := make_fields h0 h4 (negF f b) (2 * fE f + 1) (loadF f b + 2 ^ (fP f - 2))
  rw [Int.emod_eq_of_lt (by omega) (by omega)] at m2
  exact ⟨m3, m2, make_full h0 ..⟩
theorem payOK : PayOK where
  move := fun f t b f0 f1 t0 t1 w ft => by
    obtain ⟨b0, bf⟩ := mod_f b
    have K := formOK.known t t0 t1
    have D := classOK.nan f b f0 f1
    by_cases k : moveK f t (b % full) = true
    · obtain ⟨e1, e2, t4, hn⟩ := move_yes k
      rw [show decide (t < 4) = true by simp [t4]] at K
      rw [hn] at D
      have h4 := nan_known hn
      obtain ⟨p0, p1, p2, p3, p4, p5, p6, p7, p8⟩ := f_nums f0 h4
      obtain ⟨q0, q1, q2, q3, q4, q5, q6, q7, q8⟩ := f_nums t0 t4
      obtain ⟨l0, l1⟩ := load_range (f := f) (b % full)
      obtain ⟨v0, v1⟩ := conv_range (q := fP t - 2) l0 l1
      obtain ⟨u1, u2, u3, u4⟩ := quiet_parts f0 b0 hn
      obtain ⟨d1, d2, d3⟩ := def_fields t0 t4
      have sf : ∀ k : Nat, k ≤ 128 → (2 : Int) ^ k ≤ full := fun k hk => by have := two_pow_le hk; rwa [full_pow] at this
      have n2 : (2 : Int) ^ (fP t - 1) = 2 * 2 ^ (fP t - 2) := by rw [← Int.pow_succ', show fP t - 2 + 1 = fP t - 1 by omega]
      have sp := sf (fP t - 1) (by omega)
      have hp := two_pow_pos (fP t - 2)
      have CR := readN f (quietF f (b % full)) f0 h4
      rw [Int.emod_eq_of_lt u3 u4, u1, u2] at CR
      have CT := readN t (defF t) t0 t4
      rw [Int.emod_eq_of_lt d2 d3, d1] at CT
      have R := rightB ((loadF f (b % full) + 2 ^ (fP f - 2)) * 2 ^ (129 - fP f)) ((129 - fP t : Nat) : Int) (by omega) (by omega)
      have xr : 0 ≤ (loadF f (b % full) + 2 ^ (fP f - 2)) * 2 ^ (129 - fP f) ∧ (loadF f (b % full) + 2 ^ (fP f - 2)) * 2 ^ (129 - fP f) < full := by
        have m2 : (2 : Int) ^ (fP f - 1) = 2 * 2 ^ (fP f - 2) := by rw [← Int.pow_succ', show fP f - 2 + 1 = fP f - 1 by omega]
        have hr := two_pow_pos (129 - fP f)
        have hf := two_pow_pos (fP f - 2)
        have e : full = 2 ^ (fP f - 1) * 2 ^ (129 - fP f) := by rw [← full_pow, ← Int.pow_add, show fP f - 1 + (129 - fP f) = 128 by omega]
        exact ⟨Int.mul_nonneg (by omega) (by omega), by have q := Int.mul_lt_mul_of_pos_right (show loadF f (b % full) + 2 ^ (fP f - 2) < 2 ^ (fP f - 1) by omega) hr; rwa [← e] at q⟩
      have al := conv_align (a := fP f - 2) (c := fP t - 2) (by omega) (by omega) (loadF f (b % full))
      rw [show 127 - (fP f - 2) = 129 - fP f by omega, show 127 - (fP t - 2) = 129 - fP t by omega] at al
      rw [Int.toNat_natCast, Int.emod_eq_of_lt xr.1 xr.2, al] at R
      have M := formOK.make t (negF f (b % full)) (2 * fE t + 1) (convL (fP f - 2) (fP t - 2) (loadF f (b % full)) + 2 ^ (fP t - 2)) t0 t1 (by omega) (by omega)
      rw [Int.emod_eq_of_lt (a := convL (fP f - 2) (fP t - 2) (loadF f (b % full)) + 2 ^ (fP t - 2)) (by omega) (by omega)] at M
      have S := classOK.sig f b f0 f1
      rw [k, e1, e2]
      by_cases s : sigF f (b % full) = true
      · rw [s] at S
        rw [if_pos s]
        exact pay_yes_s f t _ _ _ _ _ _ _ _ _ _ _ _ _ _ _ _ _ _ _ (Lib.hid K) (Lib.hid D) (Lib.hid (nanOK.quiet f b f0 f1)) (Lib.hid (nanOK.dflt t t0 t1)) (Lib.hid (roomN t t0 t4)) (Lib.hid R) (Lib.hid M) (Lib.hid S) (Lib.hid (pay_reader f)) (Lib.hid CR) (Lib.hid (pay_reader t)) (Lib.hid CT) w ft
      · rw [Bool.eq_false_iff.2 s] at S
        rw [if_neg s]
        exact pay_yes_q f t _ _ _ _ _ _ _ _ _ _ _ _ _ _ _ _ _ _ _ (Lib.hid K) (Lib.hid D) (Lib.hid (nanOK.quiet f b f0 f1)) (Lib.hid (nanOK.dflt t t0 t1)) (Lib.hid (roomN t t0 t4)) (Lib.hid R) (Lib.hid M) (Lib.hid S) (Lib.hid (pay_reader f)) (Lib.hid CR) (Lib.hid (pay_reader t)) (Lib.hid CT) w ft
    · have k' := Bool.eq_false_iff.2 k
      obtain ⟨e1, e2⟩ := move_no k'
      rw [k', e1, e2, hl_zero.1, hl_zero.2]
      by_cases t4 : t < 4
      · rw [show decide (t < 4) = true by simp [t4]] at K
        have hn : nanF f (b % full) = false := by unfold moveK at k'; simpa [t4] using k'
        rw [hn] at D
        exact pay_no_nan f t _ _ (Lib.hid K) (Lib.hid D) w ft
      · rw [show decide (t < 4) = false by simp [t4]] at K
        exact pay_no_to f t _ _ (Lib.hid K) w ft

end Go.Proofs.YthnikhhgnogibaaDoor
