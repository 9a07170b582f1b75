/-
  Plain arithmetic of shifts: all digits at once. No Go in sight.
-/
import Derived.Test.YtkhcbioohoeegaaDoorShiftM
set_option linter.unusedVariables false
set_option maxRecDepth 100000
namespace Go.Proofs.YtkhcbioohoeegaaDoor

def lft (a0 a1 a2 a3 w : Int) (p : Nat) (i : Int) : Int := upLo (dg4 a0 a1 a2 a3 (i - w)) p + upHi (dg4 a0 a1 a2 a3 (i - w - 1)) p
def rgt (a0 a1 a2 a3 w : Int) (p : Nat) (i : Int) : Int := dnLo (dg4 a0 a1 a2 a3 (i + w)) p + dnHi (dg4 a0 a1 a2 a3 (i + w + 1)) p
theorem dg4_out {a0 a1 a2 a3 i : Int} (h : i < 0 ∨ 3 < i) : dg4 a0 a1 a2 a3 i = 0 := by
  unfold dg4; rw [if_neg (by omega), if_neg (by omega), if_neg (by omega), if_neg (by omega)]
theorem upLo_zero (p : Nat) : upLo 0 p = 0 := by unfold upLo; simp
theorem upHi_zero (p : Nat) : upHi 0 p = 0 := by unfold upHi; simp
theorem dnLo_zero (p : Nat) : dnLo 0 p = 0 := by unfold dnLo; simp
theorem dnHi_zero (p : Nat) : dnHi 0 p = 0 := by unfold dnHi; simp
theorem pow_64 (w p : Nat) : (2 : Int) ^ (64 * w + p) = 2 ^ p * 18446744073709551616 ^ w := by
  rw [Int.pow_add, Int.pow_mul, show (2 : Int) ^ 64 = 18446744073709551616 from by decide +kernel, Int.mul_comm]
theorem wd_of' {d0 d1 d2 d3 n c : Int} (u0 : U64 d0) (u1 : U64 d1) (u2 : U64 d2) (u3 : U64 d3) (h : n = wval d0 d1 d2 d3 + c * wfull) : d0 = wd0 n ∧ d1 = wd1 n ∧ d2 = wd2 n ∧ d3 = wd3 n := by
  obtain ⟨h0, h1, h2, h3⟩ := wd_of u0 u1 u2 u3 h
  exact ⟨h0.symm, h1.symm, h2.symm, h3.symm⟩
theorem z64 : U64 0 := ⟨by decide, by decide⟩

theorem left_wd {a0 a1 a2 a3 : Int} (h0 : U64 a0) (h1 : U64 a1) (h2 : U64 a2) (h3 : U64 a3) (w : Nat) {p : Nat} (hp : p ≤ 64) :
    lft a0 a1 a2 a3 w p 0 = wd0 (wval a0 a1 a2 a3 * 2 ^ (64 * w + p)) ∧ lft a0 a1 a2 a3 w p 1 = wd1 (wval a0 a1 a2 a3 * 2 ^ (64 * w + p)) ∧
    lft a0 a1 a2 a3 w p 2 = wd2 (wval a0 a1 a2 a3 * 2 ^ (64 * w + p)) ∧ lft a0 a1 a2 a3 w p 3 = wd3 (wval a0 a1 a2 a3 * 2 ^ (64 * w + p)) := by
  have e := wd_up h0 h1 h2 h3 hp
  have k1 := up_sum (x := a1) h0 hp; have k2 := up_sum (x := a2) h1 hp; have k3 := up_sum (x := a3) h2 hp
  have k0 := u_upLo a0 p
  have z := z64
  rw [pow_64, ← Int.mul_assoc, e]
  match w with
  | 0 =>
    simp only [lft, dg4, Int.natCast_zero, Int.sub_zero, if_true]
    simp [upHi_zero]
    exact wd_of' (c := upHi a3 p) k0 k1 k2 k3 (by unfold wval wfull; omega)
  | 1 =>
    simp only [lft, dg4]
    simp [upHi_zero, upLo_zero]
    exact wd_of' (c := upLo a3 p + upHi a2 p + upHi a3 p * 18446744073709551616) z k0 k1 k2 (by unfold wval wfull; omega)
  | 2 =>
    simp only [lft, dg4]
    simp [upHi_zero, upLo_zero]
    exact wd_of' (c := upLo a2 p + upHi a1 p + (upLo a3 p + upHi a2 p) * 18446744073709551616 + upHi a3 p * 340282366920938463463374607431768211456) z z k0 k1 (by unfold wval wfull; omega)
  | 3 =>
    simp only [lft, dg4]
    simp [upHi_zero, upLo_zero]
    exact wd_of' (c := upLo a1 p + upHi a0 p + (upLo a2 p + upHi a1 p) * 18446744073709551616 + (upLo a3 p + upHi a2 p) * 340282366920938463463374607431768211456 + upHi a3 p * 6277101735386680763835789423207666416102355444464034512896) z z z k0 (by unfold wval wfull; omega)
  | v + 4 =>
    have ez : ∀ i : Int, i < 4 → lft a0 a1 a2 a3 ((v + 4 : Nat) : Int) p i = 0 := fun i hi => by
      unfold lft; rw [dg4_out (Or.inl (by omega)), dg4_out (Or.inl (by omega)), upLo_zero, upHi_zero]; rfl
    rw [ez 0 (by omega), ez 1 (by omega), ez 2 (by omega), ez 3 (by omega)]
    refine wd_of' (c := (wval (upLo a0 p) (upLo a1 p + upHi a0 p) (upLo a2 p + upHi a1 p) (upLo a3 p + upHi a2 p) + upHi a3 p * wfull) * 18446744073709551616 ^ v) z z z z ?_
    rw [Int.pow_add, show (18446744073709551616 : Int) ^ 4 = wfull from by decide +kernel, ← Int.mul_assoc, show wval 0 0 0 0 = 0 from by decide +kernel, Int.zero_add]

theorem dn_digits {b0 b1 b2 b3 : Int} (h0 : U64 b0) (h1 : U64 b1) (h2 : U64 b2) (h3 : U64 b3) {p : Nat} (hp : p ≤ 64) :
    wval b0 b1 b2 b3 / 2 ^ p = wval (dnLo b0 p + dnHi b1 p) (dnLo b1 p + dnHi b2 p) (dnLo b2 p + dnHi b3 p) (dnLo b3 p) := by
  have e1 := dn_eq b1 hp; have e2 := dn_eq b2 hp; have e3 := dn_eq b3 hp
  have hP := two_pow_pos p
  have e0 := Int.emod_add_mul_ediv b0 (2 ^ p)
  have r0 := Int.emod_nonneg b0 (show (2 : Int) ^ p ≠ 0 by omega); have r1 := Int.emod_lt_of_pos b0 hP
  have e : wval b0 b1 b2 b3 = b0 % 2 ^ p + wval (dnLo b0 p + dnHi b1 p) (dnLo b1 p + dnHi b2 p) (dnLo b2 p + dnHi b3 p) (dnLo b3 p) * 2 ^ p := by
    rw [show b0 / 2 ^ p = dnLo b0 p from rfl, Int.mul_comm] at e0
    have l0 : dnLo b0 p * 2 ^ p = b0 - b0 % 2 ^ p := by omega
    generalize dnLo b0 p = x0 at *; generalize dnLo b1 p = x1 at *; generalize dnLo b2 p = x2 at *; generalize dnLo b3 p = x3 at *
    generalize dnHi b1 p = y1 at *; generalize dnHi b2 p = y2 at *; generalize dnHi b3 p = y3 at *
    have E : wval (x0 + y1) (x1 + y2) (x2 + y3) x3 * 2 ^ p = x0 * 2 ^ p + (y1 * 2 ^ p + (x1 * 18446744073709551616) * 2 ^ p) + (y2 * 2 ^ p + (x2 * 18446744073709551616) * 2 ^ p) * 18446744073709551616 + (y3 * 2 ^ p + (x3 * 18446744073709551616) * 2 ^ p) * 340282366920938463463374607431768211456 := by
      rw [show wval (x0 + y1) (x1 + y2) (x2 + y3) x3 = x0 + (y1 + x1 * 18446744073709551616) + (y2 + x2 * 18446744073709551616) * 18446744073709551616 + (y3 + x3 * 18446744073709551616) * 340282366920938463463374607431768211456 from by unfold wval; omega]
      simp only [Int.add_mul]
      congr 1
      · congr 1
        congr 1 <;> ac_rfl
      · congr 1 <;> ac_rfl
    rw [E, l0, ← e1, ← e2, ← e3]
    unfold wval; omega
  rw [e, Int.add_mul_ediv_right _ _ (by omega), Int.ediv_eq_zero_of_lt r0 r1, Int.zero_add]

theorem right_wd {a0 a1 a2 a3 : Int} (h0 : U64 a0) (h1 : U64 a1) (h2 : U64 a2) (h3 : U64 a3) (w : Nat) {p : Nat} (hp : p ≤ 64) :
    rgt a0 a1 a2 a3 w p 0 = wd0 (wval a0 a1 a2 a3 / 2 ^ (64 * w + p)) ∧ rgt a0 a1 a2 a3 w p 1 = wd1 (wval a0 a1 a2 a3 / 2 ^ (64 * w + p)) ∧
    rgt a0 a1 a2 a3 w p 2 = wd2 (wval a0 a1 a2 a3 / 2 ^ (64 * w + p)) ∧ rgt a0 a1 a2 a3 w p 3 = wd3 (wval a0 a1 a2 a3 / 2 ^ (64 * w + p)) := by
  have z := z64
  have hpos : (0 : Int) ≤ 18446744073709551616 ^ w := Int.le_of_lt (Int.pow_pos (by decide))
  have key : ∀ {b0 b1 b2 b3 : Int}, U64 b0 → U64 b1 → U64 b2 → U64 b3 → wval a0 a1 a2 a3 / 18446744073709551616 ^ w = wval b0 b1 b2 b3 →
      wval a0 a1 a2 a3 / 2 ^ (64 * w + p) = wval (dnLo b0 p + dnHi b1 p) (dnLo b1 p + dnHi b2 p) (dnLo b2 p + dnHi b3 p) (dnLo b3 p + dnHi 0 p) + 0 * wfull := by
    intro b0 b1 b2 b3 g0 g1 g2 g3 h
    rw [pow_64, Int.mul_comm, ← Int.ediv_ediv_of_nonneg hpos, h, dn_digits g0 g1 g2 g3 hp, dnHi_zero, Int.add_zero]
    omega
  have hbig : ∀ v : Nat, w = v + 4 → wval a0 a1 a2 a3 / 2 ^ (64 * w + p) = 0 := by
    intro v hv; subst hv
    have hr := wval_range h0 h1 h2 h3
    have hb : wfull ≤ 2 ^ (64 * (v + 4) + p) := by
      have := two_pow_le (j := 256) (k := 64 * (v + 4) + p) (by omega)
      rw [show (2 : Int) ^ 256 = wfull from by decide +kernel] at this; exact this
    exact Int.ediv_eq_zero_of_lt hr.1 (by omega)
  generalize wval a0 a1 a2 a3 / 2 ^ (64 * w + p) = Q at *
  match w with
  | 0 =>
    have := key h0 h1 h2 h3 (by simp)
    simp only [rgt, dg4]
    simp
    exact wd_of' (dn_sum h0 hp) (dn_sum h1 hp) (dn_sum h2 hp) (dn_sum h3 hp) this
  | 1 =>
    have := key h1 h2 h3 z (by unfold wval; unfold U64 at h0 h1 h2 h3; omega)
    simp only [rgt, dg4]
    simp
    exact wd_of' (dn_sum h1 hp) (dn_sum h2 hp) (dn_sum h3 hp) (dn_sum z hp) this
  | 2 =>
    have := key h2 h3 z z (by unfold wval; unfold U64 at h0 h1 h2 h3; omega)
    simp only [rgt, dg4]
    simp
    exact wd_of' (dn_sum h2 hp) (dn_sum h3 hp) (dn_sum z hp) (dn_sum z hp) this
  | 3 =>
    have := key h3 z z z (by unfold wval; unfold U64 at h0 h1 h2 h3; omega)
    simp only [rgt, dg4]
    simp
    exact wd_of' (dn_sum h3 hp) (dn_sum z hp) (dn_sum z hp) (dn_sum z hp) this
  | v + 4 =>
    have ez : ∀ i : Int, 0 ≤ i → rgt a0 a1 a2 a3 ((v + 4 : Nat) : Int) p i = 0 := fun i hi => by
      unfold rgt; rw [dg4_out (Or.inr (by omega)), dg4_out (Or.inr (by omega)), dnLo_zero, dnHi_zero]; rfl
    rw [ez 0 (by omega), ez 1 (by omega), ez 2 (by omega), ez 3 (by omega)]
    rw [hbig v rfl]
    exact wd_of' (c := 0) z z z z (by decide +kernel)
theorem dg4_two (a0 a1 i : Int) : dg4 a0 a1 0 0 i = dg2 a0 a1 i := by
  unfold dg4 dg2; split; rfl; split; rfl; split; rfl; split <;> rfl
def lft2 (a0 a1 w : Int) (p : Nat) (i : Int) : Int := upLo (dg2 a0 a1 (i - w)) p + upHi (dg2 a0 a1 (i - w - 1)) p
def rgt2 (a0 a1 w : Int) (p : Nat) (i : Int) : Int := dnLo (dg2 a0 a1 (i + w)) p + dnHi (dg2 a0 a1 (i + w + 1)) p
theorem lft2_eq (a0 a1 w : Int) (p : Nat) (i : Int) : lft2 a0 a1 w p i = lft a0 a1 0 0 w p i := by unfold lft2 lft; rw [dg4_two, dg4_two]
theorem rgt2_eq (a0 a1 w : Int) (p : Nat) (i : Int) : rgt2 a0 a1 w p i = rgt a0 a1 0 0 w p i := by unfold rgt2 rgt; rw [dg4_two, dg4_two]

end Go.Proofs.YtkhcbioohoeegaaDoor
