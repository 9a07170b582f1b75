/-
  ShiftBack over digits.
-/
import Derived.Test.YtidppeaianpojaaBack3
import Derived.Test.YtidppeaianpojaaMath3
set_option linter.unusedVariables false
set_option linter.unusedSimpArgs false
namespace Go.Proofs.Ytidppeaianpojaa
open Go.RowKit
attribute [local go_sem ↓] Go.wp_at_zero Go.wp_at_succ

theorem back3_walk (A n : Int) (hn : 0 ≤ n ∧ n ≤ 255) (w : World) :
    Calls Try.prog 7 #[.agg #[.int .u64 (hiOf A), .int .u64 (loOf A)], .int .u8 n] w fun e w' => e = .returned (.bool true) ∧ Below w.heap.size w w' := by
  obtain ⟨r0, r1⟩ := mod_f A
  obtain ⟨f0, f1, f2, f3⟩ := wd_full A
  have K0 : 0 ≤ n % 129 ∧ n % 129 < 129 := by omega
  have hk : (n % 129).toNat ≤ 128 := by omega
  have P := two_pow_pos (n % 129).toNat
  have PL : (2 : Int) ^ (n % 129).toNat ≤ full := by have := two_pow_le hk; rw [(show (2 : Int) ^ 128 = full from by decide +kernel)] at this; exact this
  have M0 : 0 ≤ A % full * 2 ^ (n % 129).toNat := Int.mul_nonneg r0 (by omega)
  have M1 : A % full * 2 ^ (n % 129).toNat < wfull := by
    have h1 : A % full * 2 ^ (n % 129).toNat ≤ (full - 1) * full := Int.mul_le_mul (by omega) PL (by omega) (by decide +kernel)
    have h2 : (full - 1) * full < wfull := by decide +kernel
    omega
  have h1 := wleftW (A % full) (n % 129) (by omega) (by omega)
  rw [f0, f1, f2, f3] at h1
  -- two digits further up
  have E : wval 0 0 (loOf A) (hiOf A) = A % full * full := by
    rw [← val_hiLo_mod]; unfold wval val full; omega
  obtain ⟨g0, g1, g2, g3⟩ := wd_wval u0 u0 (loOf_u A) (hiOf_u A)
  have h2 := wleftW (wval 0 0 (loOf A) (hiOf A)) (n % 129) (by omega) (by omega)
  rw [g0, g1, g2, g3, E] at h2
  have h3 := wrightW (A % full * full * 2 ^ (n % 129).toNat) 128 (by decide) (by decide)
  have E3 : A % full * full * 2 ^ (n % 129).toNat % wfull / 2 ^ (128 : Int).toNat = A % full * 2 ^ (n % 129).toNat % full := by
    rw [show (2 : Int) ^ (128 : Int).toNat = full from by decide +kernel, show A % full * full * 2 ^ (n % 129).toNat = full * (A % full * 2 ^ (n % 129).toNat) by ac_rfl, show wfull = full * full from by decide +kernel, Int.mul_emod_mul_of_pos _ _ (by decide +kernel)]
    exact Int.mul_ediv_cancel_left _ (by decide +kernel)
  rw [E3] at h3
  have h4 := wrightW (A % full * 2 ^ (n % 129).toNat) (n % 129) (by omega) (by omega)
  rw [Int.emod_eq_of_lt M0 M1, Int.mul_ediv_cancel _ (by omega), f0, f1, f2, f3] at h4
  have h5 := leftB A (n % 129) (by omega) (by omega)
  have e5 := hl_mul_mod A (2 ^ (n % 129).toNat)
  rw [← e5.1, ← e5.2] at h5
  have h6 := wrightW (A % full) (n % 129) (by omega) (by omega)
  rw [f0, f1, f2, f3, mod_full_w] at h6
  have d := div_back (A % full) (n % 129).toNat r0
  have D : A % full / 2 ^ (n % 129).toNat % full = A % full / 2 ^ (n % 129).toNat := Int.emod_eq_of_lt d.1 (by omega)
  obtain ⟨p0, p1, p2, p3⟩ := wd_full (A % full / 2 ^ (n % 129).toNat)
  rw [D] at p0 p1 p2 p3
  rw [p0, p1, p2, p3] at h6
  have h7 := rightB A (n % 129) (by omega) (by omega)
  have h8 := of_any (hiOf (A % full / 2 ^ (n % 129).toNat)) (loOf (A % full / 2 ^ (n % 129).toNat))
  have h9 := wjamW (A % full) (n % 129) (by omega) (by omega)
  rw [f0, f1, f2, f3, mod_full_w] at h9
  have j := jam_lt r0 r1 full_even (n % 129).toNat
  obtain ⟨q0, q1, q2, q3⟩ := wd_full (jamN (A % full) (n % 129).toNat)
  rw [Int.emod_eq_of_lt j.1 j.2] at q0 q1 q2 q3
  rw [q0, q1, q2, q3] at h9
  have h10 := jamB A (n % 129) (by omega) (by omega)
  have h11 := of_any (hiOf (jamN (A % full) (n % 129).toNat)) (loOf (jamN (A % full) (n % 129).toNat))
  have b0 : wd0 (A % full * 2 ^ (n % 129).toNat % full) = loOf (A % full * 2 ^ (n % 129).toNat) := (wd_full _).1
  have b1 : wd1 (A % full * 2 ^ (n % 129).toNat % full) = hiOf (A % full * 2 ^ (n % 129).toNat) := (wd_full _).2.1
  have b2 : wd0 (A % full * 2 ^ (n % 129).toNat) = loOf (A % full * 2 ^ (n % 129).toNat) := rfl
  have b3 : wd1 (A % full * 2 ^ (n % 129).toNat) = hiOf (A % full * 2 ^ (n % 129).toNat) := rfl
  rw [b0, b1] at h3
  rw [b2, b3] at h1 h4
  exact back3_core _ _ _ _ _ _ _ _ _ _ _ _ _ _ _ _ n (n % 129) (Lib.hid h1) (Lib.hid h2) (Lib.hid h3) (Lib.hid h4) (Lib.hid h5) (Lib.hid h6) (Lib.hid h7) (Lib.hid h8) (Lib.hid h9) (Lib.hid h10) (Lib.hid h11) hn.1 hn.2 rfl w
theorem back3_law (ah al n : Int) (uah : U64 ah) (ual : U64 al) (hn : 0 ≤ n ∧ n ≤ 255) (w : World) :
    Calls Try.prog 7 #[.agg #[.int .u64 ah, .int .u64 al], .int .u8 n] w fun e w' => e = .returned (.bool true) ∧ Below w.heap.size w w' := by
  have h := back3_walk (val ah al) n hn w
  rw [(hl_val uah ual).1, (hl_val uah ual).2] at h
  exact h


end Go.Proofs.Ytidppeaianpojaa
