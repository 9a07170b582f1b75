/-
  QuotBack over digits.
-/
import Derived.Test.YtlmgebanfjclcaaBack5
import Derived.Test.YtlmgebanfjclcaaGoes5L
set_option linter.unusedVariables false
set_option linter.unusedSimpArgs false
set_option maxRecDepth 100000
namespace Go.Proofs.Ytlmgebanfjclcaa
open Go.RowKit
attribute [local go_sem ↓] Go.wp_at_zero Go.wp_at_succ

set_option maxHeartbeats 1000000 in
theorem back5_walk (n a d : Int) (w : World) :
    Calls Try.prog 5 #[.agg #[.int .u64 (wd0 (n)), .int .u64 (wd1 (n)), .int .u64 (wd2 (n)), .int .u64 (wd3 (n))], .agg #[.int .u64 (hiOf (a)), .int .u64 (loOf (a))], .agg #[.int .u64 (hiOf (d)), .int .u64 (loOf (d))]] w fun e w' => e = .returned (.bool true) ∧ Below w.heap.size w w' := by
  have G := Lib.hid goes5_any
  have h1 := zeroB d
  have z0 := zeroB 0
  rw [show hiOf 0 = 0 from rfl, show loOf 0 = 0 from rfl, show ((0 : Int) % full == 0) = true from by decide +kernel] at z0
  obtain ⟨m0, m1⟩ := mod_w n
  obtain ⟨d0, d1⟩ := mod_f d
  obtain ⟨a0, a1⟩ := mod_f a
  by_cases hz : d % full = 0
  · have hd := hl_mod d
    rw [hz] at hd
    have z1 := zeroW 0
    rw [show wd0 0 = 0 from rfl, show wd1 0 = 0 from rfl, show wd2 0 = 0 from rfl, show wd3 0 = 0 from rfl, show ((0 : Int) % wfull == 0) = true from by decide +kernel] at z1
    rw [hz, show ((0 : Int) == 0) = true from rfl] at h1
    have hQ := divQ_no (wd0 n) (wd1 n) (wd2 n) (wd3 n)
    rw [← hd.1, ← hd.2, show hiOf 0 = 0 from rfl, show loOf 0 = 0 from rfl] at h1 ⊢
    exact back5_zero _ _ _ _ _ _ _ _ (Lib.hid hQ) (Lib.hid h1) (Lib.hid z1) (Lib.hid z0) G w
  · rw [show (d % full == 0) = false by simp [hz]] at h1
    have h0 := divQ n d hz
    obtain ⟨D, hD⟩ : ∃ D, d % full = D := ⟨_, rfl⟩
    obtain ⟨N, hN⟩ : ∃ N, n % wfull = N := ⟨_, rfl⟩
    rw [hD] at d0 d1 hz h0
    rw [hN] at m0 m1 h0
    obtain ⟨Q, hQ⟩ : ∃ Q, N / D = Q := ⟨_, rfl⟩
    obtain ⟨R, hR⟩ : ∃ R, N % D = R := ⟨_, rfl⟩
    rw [hQ, hR] at h0
    have de := Int.emod_add_mul_ediv N D
    rw [hQ, hR, Int.mul_comm] at de
    have r0 : 0 ≤ R := hR ▸ Int.emod_nonneg _ hz
    have r1 : R < D := hR ▸ Int.emod_lt_of_pos _ (by omega)
    have q0 : 0 ≤ Q := hQ ▸ Int.ediv_nonneg m0 d0
    have q1 : Q ≤ N := hQ ▸ Int.ediv_le_self _ m0
    have h2 := lowW Q
    have h3 := mulW Q d
    have h4 := highW Q
    have h5 := mulW (Q / full) d
    rw [hD] at h3 h5
    have ql : 0 ≤ Q % full := (mod_f Q).1
    have qh0 : 0 ≤ Q / full := Int.ediv_nonneg q0 (by decide)
    have qh1 : Q / full < full := by unfold full wfull at *; omega
    rw [Int.emod_eq_of_lt qh0 qh1, (hl_hi Q).1, (hl_hi Q).2] at h5
    rw [(hl_hi Q).1, (hl_hi Q).2] at h4
    obtain ⟨F, hF⟩ : ∃ F, Q % full * D = F := ⟨_, rfl⟩
    obtain ⟨G1, hG⟩ : ∃ G1, Q / full * D = G1 := ⟨_, rfl⟩
    rw [hF] at h3
    rw [hG] at h5
    have f0 : 0 ≤ F := hF ▸ Int.mul_nonneg ql d0
    have g0 : 0 ≤ G1 := hG ▸ Int.mul_nonneg qh0 d0
    have tot : F + G1 * full = Q * D := by
      rw [← hF, ← hG, Int.mul_right_comm, ← Int.add_mul]; congr 1; unfold full; omega
    have g1 : G1 < full := by unfold full wfull at *; omega
    have gw : G1 % full = G1 := Int.emod_eq_of_lt g0 g1
    obtain ⟨s0, s1, s2, s3⟩ := wd_small G1
    rw [gw] at s0 s1 s2 s3
    rw [s2, s3] at h5
    have h6 := lowW G1
    rw [s2, s3] at h6
    have h7 := joinW G1 0
    rw [gw, show (0 : Int) % full = 0 from by decide +kernel, Int.add_zero, show hiOf 0 = 0 from rfl, show loOf 0 = 0 from rfl] at h7
    have h8 := addW F (G1 * full)
    have fw : F < wfull := by have : 0 ≤ G1 * full := Int.mul_nonneg g0 (by decide); omega
    have gw2 : G1 * full < wfull := by omega
    rw [Int.emod_eq_of_lt f0 fw, Int.emod_eq_of_lt (Int.mul_nonneg g0 (by decide)) gw2, tot, show decide (wfull ≤ Q * D) = false by simp; omega] at h8
    have h9 := ofW R
    have fwl : full < wfull := by decide +kernel
    have rw_ : R % full = R := Int.emod_eq_of_lt r0 (by omega)
    rw [rw_] at h9
    have h10 := addW (Q * D) R
    rw [Int.emod_eq_of_lt (show 0 ≤ Q * D by have : 0 ≤ G1 * full := Int.mul_nonneg g0 (by decide); omega) (by omega), Int.emod_eq_of_lt r0 (show R < wfull by omega), show decide (wfull ≤ Q * D + R) = false by simp; omega, show Q * D + R = N by omega, ← hN, (wd_mod n).1, (wd_mod n).2.1, (wd_mod n).2.2.1, (wd_mod n).2.2.2] at h10
    have h11 := highW G1
    rw [s2, s3, (hl_hi G1).1, (hl_hi G1).2, s2, s3] at h11
    have h13 := cmpB R d
    rw [rw_, hD] at h13
    have h14 := mulW a d
    rw [hD] at h14
    have y0 : 0 ≤ a % full * D := Int.mul_nonneg a0 d0
    have y1 : a % full * D < wfull := by
      have e1 : a % full * D ≤ (full - 1) * D := mul_le_of d0 (by omega)
      have e2 : (full - 1) * D ≤ (full - 1) * (full - 1) := Int.mul_le_mul_of_nonneg_left (by omega) (by decide)
      have e3 : (full - 1) * (full - 1) < wfull := by decide +kernel
      omega
    have h15 := divQ (a % full * D) d (by rw [hD]; exact hz)
    rw [hD, Int.emod_eq_of_lt y0 y1, Int.mul_ediv_cancel _ hz, Int.mul_emod_left, show hiOf 0 = 0 from rfl, show loOf 0 = 0 from rfl, (wd_small a).1, (wd_small a).2.1, (wd_small a).2.2.1, (wd_small a).2.2.2] at h15
    have h16 := ofW a
    rw [(wd_small a).1, (wd_small a).2.1, (wd_small a).2.2.1, (wd_small a).2.2.2] at h16
    refine back5_div _ _ _ _ _ _ _ _ _ _ _ _ _ _ _ _ _ _ _ _ _ _ _ _ _ _ _ _ _ _ _ _ _ _ _ _ _ (Lib.hid h0) (Lib.hid h1) (Lib.hid h2) (Lib.hid h3) (Lib.hid h4) (Lib.hid h5) (Lib.hid h6) (Lib.hid h7) (Lib.hid h8) (Lib.hid h9) (Lib.hid h10) (Lib.hid h11) (Lib.hid z0) (Lib.hid h13) (Lib.hid h14) (Lib.hid h15) (Lib.hid h16) G ?_ w
    rw [show cmpI R D = -1 by unfold cmpI; rw [if_pos r1]]; decide
theorem back5_law (n0 n1 n2 n3 ah al dh dl : Int) (un0 : U64 n0) (un1 : U64 n1) (un2 : U64 n2) (un3 : U64 n3) (uah : U64 ah) (ual : U64 al) (udh : U64 dh) (udl : U64 dl) (w : World) :
    Calls Try.prog 5 #[.agg #[.int .u64 n0, .int .u64 n1, .int .u64 n2, .int .u64 n3], .agg #[.int .u64 ah, .int .u64 al], .agg #[.int .u64 dh, .int .u64 dl]] w fun e w' => e = .returned (.bool true) ∧ Below w.heap.size w w' := by
  have h := back5_walk (wval n0 n1 n2 n3) (val ah al) (val dh dl) w
  obtain ⟨e0, e1, e2, e3⟩ := wd_wval un0 un1 un2 un3
  rw [e0, e1, e2, e3, (hl_val uah ual).1, (hl_val uah ual).2, (hl_val udh udl).1, (hl_val udh udl).2] at h
  exact h


end Go.Proofs.Ytlmgebanfjclcaa
