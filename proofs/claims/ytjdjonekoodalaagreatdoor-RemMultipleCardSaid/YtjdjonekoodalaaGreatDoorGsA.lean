import Derived.Deep.DeepCutAuto
import Derived.Deep.DrawnRows
import Derived.LoopIn
import Derived.LoopNIn
import Derived.OwnWalkIn
import Derived.RangeFuncBound
import Derived.RangeFuncNested
import Derived.Shelf.RegionOpen
import Derived.Test.YtjdjonekoodalaaGreatDoorGaA
set_option maxHeartbeats 4000000
set_option linter.unusedVariables false
set_option maxRecDepth 100000
namespace Go.Proofs.YtjdjonekoodalaaGreatDoor
def dg4 (a0 a1 a2 a3 i : Int) : Int := if i = 0 then a0 else if i = 1 then a1 else if i = 2 then a2 else if i = 3 then a3 else 0
def dg2 (a0 a1 i : Int) : Int := if i = 0 then a0 else if i = 1 then a1 else 0
theorem dg4_u {a0 a1 a2 a3 : Int} (h0 : U64 a0) (h1 : U64 a1) (h2 : U64 a2) (h3 : U64 a3) (i : Int) : U64 (dg4 a0 a1 a2 a3 i) := by
  unfold dg4; split; exact h0; split; exact h1; split; exact h2; split; exact h3; exact ⟨by decide, by decide⟩
theorem dg2_u {a0 a1 : Int} (h0 : U64 a0) (h1 : U64 a1) (i : Int) : U64 (dg2 a0 a1 i) := by
  unfold dg2; split; exact h0; split; exact h1; exact ⟨by decide, by decide⟩
def upLo (x : Int) (p : Nat) : Int := x * 2 ^ p % 18446744073709551616
def upHi (x : Int) (p : Nat) : Int := x / 2 ^ (64 - p)
def dnLo (x : Int) (p : Nat) : Int := x / 2 ^ p
def dnHi (x : Int) (p : Nat) : Int := x * 2 ^ (64 - p) % 18446744073709551616
theorem pow_split {p : Nat} (h : p ≤ 64) : (2 : Int) ^ p * 2 ^ (64 - p) = 18446744073709551616 := by
  rw [← Int.pow_add, show p + (64 - p) = 64 by omega]; rfl
theorem up_eq (x : Int) {p : Nat} (h : p ≤ 64) : x * 2 ^ p = upLo x p + upHi x p * 18446744073709551616 := by
  unfold upLo upHi
  have e := pow_split h
  have hp := two_pow_pos p
  have h1 : x * 2 ^ p / 18446744073709551616 = x / 2 ^ (64 - p) := by
    rw [← e, Int.mul_comm x]; exact Int.mul_ediv_mul_of_pos _ _ hp
  have h2 := Int.emod_add_mul_ediv (x * 2 ^ p) 18446744073709551616
  rw [h1] at h2; omega
theorem upLo_mul (x : Int) {p : Nat} (h : p ≤ 64) : ∃ k, upLo x p = 2 ^ p * k ∧ 0 ≤ k ∧ k < 2 ^ (64 - p) := by
  unfold upLo
  rw [← pow_split h, Int.mul_comm x, Int.mul_emod_mul_of_pos _ _ (two_pow_pos p)]
  exact ⟨_, rfl, Int.emod_nonneg _ (by have := two_pow_pos (64 - p); omega), Int.emod_lt_of_pos _ (two_pow_pos _)⟩
theorem upHi_lt {x : Int} (hx : U64 x) {p : Nat} (h : p ≤ 64) : 0 ≤ upHi x p ∧ upHi x p < 2 ^ p := by
  unfold upHi
  have hp := two_pow_pos (64 - p)
  refine ⟨Int.ediv_nonneg hx.1 (by omega), ?_⟩
  rw [Int.ediv_lt_iff_lt_mul hp, pow_split h]
  exact hx.2
theorem mul_add_lt {k q P Q : Int} (hP : 0 < P) (hk : 0 ≤ k) (hkQ : k < Q) (hq0 : 0 ≤ q) (hq : q < P) : 0 ≤ P * k + q ∧ P * k + q < P * Q := by
  have h1 : 0 ≤ P * k := Int.mul_nonneg (by omega) hk
  have h2 : P * (k + 1) ≤ P * Q := Int.mul_le_mul_of_nonneg_left (by omega) (by omega)
  rw [Int.mul_add, Int.mul_one] at h2
  omega
theorem up_sum {x y : Int} (hy : U64 y) {p : Nat} (h : p ≤ 64) : U64 (upLo x p + upHi y p) := by
  obtain ⟨k, e, h0, h1⟩ := upLo_mul x h
  obtain ⟨g0, g1⟩ := upHi_lt hy h
  have := mul_add_lt (two_pow_pos p) h0 h1 g0 g1
  rw [pow_split h] at this
  rw [e]; exact this
theorem or_add {p : Nat} (hp : p ≤ 64) {k q : Int} (h0 : 0 ≤ k) (h1 : k < 2 ^ (64 - p)) (g0 : 0 ≤ q) (g1 : q < 2 ^ p) : bits .or .u64 (2 ^ p * k) q = 2 ^ p * k + q := by
  have b := mul_add_lt (two_pow_pos p) h0 h1 g0 g1
  rw [pow_split hp] at b
  have hk : 0 ≤ (2 : Int) ^ p * k := Int.mul_nonneg (by have := two_pow_pos p; omega) h0
  rw [u64_or _ _ hk (by omega) g0 (by omega)]
  obtain ⟨K, rfl⟩ := Int.eq_ofNat_of_zero_le h0
  obtain ⟨M, rfl⟩ := Int.eq_ofNat_of_zero_le g0
  have e : ((2 : Int) ^ p * (K : Int)).toNat = 2 ^ p * K := by
    have : (2 : Int) ^ p * (K : Int) = ((2 ^ p * K : Nat) : Int) := by push_cast; rfl
    rw [this, Int.toNat_natCast]
  have hM : M < 2 ^ p := by exact_mod_cast g1
  rw [e, Int.toNat_natCast, ← Nat.two_pow_add_eq_or_of_lt hM]
  push_cast; rfl
theorem up_or {x y : Int} (hy : U64 y) {p : Nat} (h : p ≤ 64) : bits .or .u64 (upLo x p) (upHi y p) = upLo x p + upHi y p := by
  obtain ⟨k, e, h0, h1⟩ := upLo_mul x h
  obtain ⟨g0, g1⟩ := upHi_lt hy h
  rw [e]; exact or_add h h0 h1 g0 g1
theorem or_comm64 {x y : Int} (hx : U64 x) (hy : U64 y) : bits .or .u64 x y = bits .or .u64 y x := by
  rw [u64_or _ _ hx.1 hx.2 hy.1 hy.2, u64_or _ _ hy.1 hy.2 hx.1 hx.2, Nat.or_comm]
theorem dn_or {x y : Int} (hx : U64 x) {p : Nat} (h : p ≤ 64) : bits .or .u64 (dnLo x p) (dnHi y p) = dnLo x p + dnHi y p := by
  have e : dnHi y p = upLo y (64 - p) := rfl
  have e2 : dnLo x p = upHi x (64 - p) := by unfold dnLo upHi; rw [show 64 - (64 - p) = p by omega]
  have h1 := up_or (x := y) hx (p := 64 - p) (by omega)
  rw [or_comm64, e, e2, h1, Int.add_comm]
  · exact div_pow_u hx p
  · unfold dnHi U64; omega
theorem dn_sum {x y : Int} (hx : U64 x) {p : Nat} (h : p ≤ 64) : U64 (dnLo x p + dnHi y p) := by
  have e : dnHi y p = upLo y (64 - p) := rfl
  have e2 : dnLo x p = upHi x (64 - p) := by unfold dnLo upHi; rw [show 64 - (64 - p) = p by omega]
  have h1 := up_sum (x := y) hx (p := 64 - p) (by omega)
  rw [e, e2, Int.add_comm]; exact h1
theorem dn_eq (x : Int) {p : Nat} (h : p ≤ 64) : x * 18446744073709551616 = dnHi x p * 2 ^ p + (dnLo x p * 18446744073709551616) * 2 ^ p := by
  have h1 := up_eq x (p := 64 - p) (by omega)
  have e2 : upHi x (64 - p) = dnLo x p := by unfold dnLo upHi; rw [show 64 - (64 - p) = p by omega]
  have e : upLo x (64 - p) = dnHi x p := rfl
  rw [e, e2] at h1
  rw [← Int.add_mul, ← h1, Int.mul_assoc, Int.mul_comm (2 ^ (64 - p)), pow_split h]
theorem wd_up {a0 a1 a2 a3 : Int} (h0 : U64 a0) (h1 : U64 a1) (h2 : U64 a2) (h3 : U64 a3) {p : Nat} (hp : p ≤ 64) :
    wval a0 a1 a2 a3 * 2 ^ p = wval (upLo a0 p) (upLo a1 p + upHi a0 p) (upLo a2 p + upHi a1 p) (upLo a3 p + upHi a2 p) + upHi a3 p * wfull := by
  have e0 := up_eq a0 hp; have e1 := up_eq a1 hp; have e2 := up_eq a2 hp; have e3 := up_eq a3 hp
  have e : wval a0 a1 a2 a3 * 2 ^ p = wval (a0 * 2 ^ p) (a1 * 2 ^ p) (a2 * 2 ^ p) (a3 * 2 ^ p) := by
    unfold wval
    simp only [Int.add_mul]
    congr 1
    · congr 1
      · congr 1; ac_rfl
      · ac_rfl
    · ac_rfl
  rw [e, e0, e1, e2, e3]; unfold wval wfull; omega
theorem u_upLo (x : Int) (p : Nat) : U64 (upLo x p) := by unfold upLo U64; omega
end Go.Proofs.YtjdjonekoodalaaGreatDoor
namespace Go.Proofs.YtjdjonekoodalaaGreatDoor
def lft (a0 a1 a2 a3 w : Int) (p : Nat) (i : Int) : Int := upLo (dg4 a0 a1 a2 a3 (i - w)) p + upHi (dg4 a0 a1 a2 a3 (i - w - 1)) p
def rgt (a0 a1 a2 a3 w : Int) (p : Nat) (i : Int) : Int := dnLo (dg4 a0 a1 a2 a3 (i + w)) p + dnHi (dg4 a0 a1 a2 a3 (i + w + 1)) p
theorem dg4_out {a0 a1 a2 a3 i : Int} (h : i < 0 ∨ 3 < i) : dg4 a0 a1 a2 a3 i = 0 := by
  unfold dg4; rw [if_neg (by omega), if_neg (by omega), if_neg (by omega), if_neg (by omega)]
theorem upLo_zero (p : Nat) : upLo 0 p = 0 := by unfold upLo; simp
theorem upHi_zero (p : Nat) : upHi 0 p = 0 := by unfold upHi; simp
theorem dnLo_zero (p : Nat) : dnLo 0 p = 0 := by unfold dnLo; simp
theorem dnHi_zero (p : Nat) : dnHi 0 p = 0 := by unfold dnHi; simp
theorem pow_64 (w p : Nat) : (2 : Int) ^ (64 * w + p) = 2 ^ p * 18446744073709551616 ^ w := by
  rw [Int.pow_add, Int.pow_mul, show (2 : Int) ^ 64 = 18446744073709551616 from by decide +kernel, Int.mul_comm]
theorem wd_of' {d0 d1 d2 d3 n c : Int} (u0 : U64 d0) (u1 : U64 d1) (u2 : U64 d2) (u3 : U64 d3) (h : n = wval d0 d1 d2 d3 + c * wfull) : d0 = wd0 n ∧ d1 = wd1 n ∧ d2 = wd2 n ∧ d3 = wd3 n := by
  obtain ⟨h0, h1, h2, h3⟩ := wd_of u0 u1 u2 u3 h
  exact ⟨h0.symm, h1.symm, h2.symm, h3.symm⟩
theorem z64 : U64 0 := ⟨by decide, by decide⟩
theorem left_wd {a0 a1 a2 a3 : Int} (h0 : U64 a0) (h1 : U64 a1) (h2 : U64 a2) (h3 : U64 a3) (w : Nat) {p : Nat} (hp : p ≤ 64) :
    lft a0 a1 a2 a3 w p 0 = wd0 (wval a0 a1 a2 a3 * 2 ^ (64 * w + p)) ∧ lft a0 a1 a2 a3 w p 1 = wd1 (wval a0 a1 a2 a3 * 2 ^ (64 * w + p)) ∧
    lft a0 a1 a2 a3 w p 2 = wd2 (wval a0 a1 a2 a3 * 2 ^ (64 * w + p)) ∧ lft a0 a1 a2 a3 w p 3 = wd3 (wval a0 a1 a2 a3 * 2 ^ (64 * w + p)) := by
  have e := wd_up h0 h1 h2 h3 hp
  have k1 := up_sum (x := a1) h0 hp; have k2 := up_sum (x := a2) h1 hp; have k3 := up_sum (x := a3) h2 hp
  have k0 := u_upLo a0 p
  have z := z64
  rw [pow_64, ← Int.mul_assoc, e]
  match w with
  | 0 =>
    simp only [lft, dg4, Int.natCast_zero, Int.sub_zero, if_true]
    simp [upHi_zero]
    exact wd_of' (c := upHi a3 p) k0 k1 k2 k3 (by unfold wval wfull; omega)
  | 1 =>
    simp only [lft, dg4]
    simp [upHi_zero, upLo_zero]
    exact wd_of' (c := upLo a3 p + upHi a2 p + upHi a3 p * 18446744073709551616) z k0 k1 k2 (by unfold wval wfull; omega)
  | 2 =>
    simp only [lft, dg4]
    simp [upHi_zero, upLo_zero]
    exact wd_of' (c := upLo a2 p + upHi a1 p + (upLo a3 p + upHi a2 p) * 18446744073709551616 + upHi a3 p * 340282366920938463463374607431768211456) z z k0 k1 (by unfold wval wfull; omega)
  | 3 =>
    simp only [lft, dg4]
    simp [upHi_zero, upLo_zero]
    exact wd_of' (c := upLo a1 p + upHi a0 p + (upLo a2 p + upHi a1 p) * 18446744073709551616 + (upLo a3 p + upHi a2 p) * 340282366920938463463374607431768211456 + upHi a3 p * 6277101735386680763835789423207666416102355444464034512896) z z z k0 (by unfold wval wfull; omega)
  | v + 4 =>
    have ez : ∀ i : Int, i < 4 → lft a0 a1 a2 a3 ((v + 4 : Nat) : Int) p i = 0 := fun i hi => by
      unfold lft; rw [dg4_out (Or.inl (by omega)), dg4_out (Or.inl (by omega)), upLo_zero, upHi_zero]; rfl
    rw [ez 0 (by omega), ez 1 (by omega), ez 2 (by omega), ez 3 (by omega)]
    refine wd_of' (c := (wval (upLo a0 p) (upLo a1 p + upHi a0 p) (upLo a2 p + upHi a1 p) (upLo a3 p + upHi a2 p) + upHi a3 p * wfull) * 18446744073709551616 ^ v) z z z z ?_
    rw [Int.pow_add, show (18446744073709551616 : Int) ^ 4 = wfull from by decide +kernel, ← Int.mul_assoc, show wval 0 0 0 0 = 0 from by decide +kernel, Int.zero_add]
theorem dn_digits {b0 b1 b2 b3 : Int} (h0 : U64 b0) (h1 : U64 b1) (h2 : U64 b2) (h3 : U64 b3) {p : Nat} (hp : p ≤ 64) :
    wval b0 b1 b2 b3 / 2 ^ p = wval (dnLo b0 p + dnHi b1 p) (dnLo b1 p + dnHi b2 p) (dnLo b2 p + dnHi b3 p) (dnLo b3 p) := by
  have e1 := dn_eq b1 hp; have e2 := dn_eq b2 hp; have e3 := dn_eq b3 hp
  have hP := two_pow_pos p
  have e0 := Int.emod_add_mul_ediv b0 (2 ^ p)
  have r0 := Int.emod_nonneg b0 (show (2 : Int) ^ p ≠ 0 by omega); have r1 := Int.emod_lt_of_pos b0 hP
  have e : wval b0 b1 b2 b3 = b0 % 2 ^ p + wval (dnLo b0 p + dnHi b1 p) (dnLo b1 p + dnHi b2 p) (dnLo b2 p + dnHi b3 p) (dnLo b3 p) * 2 ^ p := by
    rw [show b0 / 2 ^ p = dnLo b0 p from rfl, Int.mul_comm] at e0
    have l0 : dnLo b0 p * 2 ^ p = b0 - b0 % 2 ^ p := by omega
    generalize dnLo b0 p = x0 at *; generalize dnLo b1 p = x1 at *; generalize dnLo b2 p = x2 at *; generalize dnLo b3 p = x3 at *
    generalize dnHi b1 p = y1 at *; generalize dnHi b2 p = y2 at *; generalize dnHi b3 p = y3 at *
    have E : wval (x0 + y1) (x1 + y2) (x2 + y3) x3 * 2 ^ p = x0 * 2 ^ p + (y1 * 2 ^ p + (x1 * 18446744073709551616) * 2 ^ p) + (y2 * 2 ^ p + (x2 * 18446744073709551616) * 2 ^ p) * 18446744073709551616 + (y3 * 2 ^ p + (x3 * 18446744073709551616) * 2 ^ p) * 340282366920938463463374607431768211456 := by
      rw [show wval (x0 + y1) (x1 + y2) (x2 + y3) x3 = x0 + (y1 + x1 * 18446744073709551616) + (y2 + x2 * 18446744073709551616) * 18446744073709551616 + (y3 + x3 * 18446744073709551616) * 340282366920938463463374607431768211456 from by unfold wval; omega]
      simp only [Int.add_mul]
      congr 1
      · congr 1
        congr 1 <;> ac_rfl
      · congr 1 <;> ac_rfl
    rw [E, l0, ← e1, ← e2, ← e3]
    unfold wval; omega
  rw [e, Int.add_mul_ediv_right _ _ (by omega), Int.ediv_eq_zero_of_lt r0 r1, Int.zero_add]
theorem right_wd {a0 a1 a2 a3 : Int} (h0 : U64 a0) (h1 : U64 a1) (h2 : U64 a2) (h3 : U64 a3) (w : Nat) {p : Nat} (hp : p ≤ 64) :
    rgt a0 a1 a2 a3 w p 0 = wd0 (wval a0 a1 a2 a3 / 2 ^ (64 * w + p)) ∧ rgt a0 a1 a2 a3 w p 1 = wd1 (wval a0 a1 a2 a3 / 2 ^ (64 * w + p)) ∧
    rgt a0 a1 a2 a3 w p 2 = wd2 (wval a0 a1 a2 a3 / 2 ^ (64 * w + p)) ∧ rgt a0 a1 a2 a3 w p 3 = wd3 (wval a0 a1 a2 a3 / 2 ^ (64 * w + p)) := by
  have z := z64
  have hpos : (0 : Int) ≤ 18446744073709551616 ^ w := Int.le_of_lt (Int.pow_pos (by decide))
  have key : ∀ {b0 b1 b2 b3 : Int}, U64 b0 → U64 b1 → U64 b2 → U64 b3 → wval a0 a1 a2 a3 / 18446744073709551616 ^ w = wval b0 b1 b2 b3 →
      wval a0 a1 a2 a3 / 2 ^ (64 * w + p) = wval (dnLo b0 p + dnHi b1 p) (dnLo b1 p + dnHi b2 p) (dnLo b2 p + dnHi b3 p) (dnLo b3 p + dnHi 0 p) + 0 * wfull := by
    intro b0 b1 b2 b3 g0 g1 g2 g3 h
    rw [pow_64, Int.mul_comm, ← Int.ediv_ediv_of_nonneg hpos, h, dn_digits g0 g1 g2 g3 hp, dnHi_zero, Int.add_zero]
    omega
  have hbig : ∀ v : Nat, w = v + 4 → wval a0 a1 a2 a3 / 2 ^ (64 * w + p) = 0 := by
    intro v hv; subst hv
    have hr := wval_range h0 h1 h2 h3
    have hb : wfull ≤ 2 ^ (64 * (v + 4) + p) := by
      have := two_pow_le (j := 256) (k := 64 * (v + 4) + p) (by omega)
      rw [show (2 : Int) ^ 256 = wfull from by decide +kernel] at this; exact this
    exact Int.ediv_eq_zero_of_lt hr.1 (by omega)
  generalize wval a0 a1 a2 a3 / 2 ^ (64 * w + p) = Q at *
  match w with
  | 0 =>
    have := key h0 h1 h2 h3 (by simp)
    simp only [rgt, dg4]
    simp
    exact wd_of' (dn_sum h0 hp) (dn_sum h1 hp) (dn_sum h2 hp) (dn_sum h3 hp) this
  | 1 =>
    have := key h1 h2 h3 z (by unfold wval; unfold U64 at h0 h1 h2 h3; omega)
    simp only [rgt, dg4]
    simp
    exact wd_of' (dn_sum h1 hp) (dn_sum h2 hp) (dn_sum h3 hp) (dn_sum z hp) this
  | 2 =>
    have := key h2 h3 z z (by unfold wval; unfold U64 at h0 h1 h2 h3; omega)
    simp only [rgt, dg4]
    simp
    exact wd_of' (dn_sum h2 hp) (dn_sum h3 hp) (dn_sum z hp) (dn_sum z hp) this
  | 3 =>
    have := key h3 z z z (by unfold wval; unfold U64 at h0 h1 h2 h3; omega)
    simp only [rgt, dg4]
    simp
    exact wd_of' (dn_sum h3 hp) (dn_sum z hp) (dn_sum z hp) (dn_sum z hp) this
  | v + 4 =>
    have ez : ∀ i : Int, 0 ≤ i → rgt a0 a1 a2 a3 ((v + 4 : Nat) : Int) p i = 0 := fun i hi => by
      unfold rgt; rw [dg4_out (Or.inr (by omega)), dg4_out (Or.inr (by omega)), dnLo_zero, dnHi_zero]; rfl
    rw [ez 0 (by omega), ez 1 (by omega), ez 2 (by omega), ez 3 (by omega)]
    rw [hbig v rfl]
    exact wd_of' (c := 0) z z z z (by decide +kernel)
theorem dg4_two (a0 a1 i : Int) : dg4 a0 a1 0 0 i = dg2 a0 a1 i := by
  unfold dg4 dg2; split; rfl; split; rfl; split; rfl; split <;> rfl
def lft2 (a0 a1 w : Int) (p : Nat) (i : Int) : Int := upLo (dg2 a0 a1 (i - w)) p + upHi (dg2 a0 a1 (i - w - 1)) p
def rgt2 (a0 a1 w : Int) (p : Nat) (i : Int) : Int := dnLo (dg2 a0 a1 (i + w)) p + dnHi (dg2 a0 a1 (i + w + 1)) p
theorem lft2_eq (a0 a1 w : Int) (p : Nat) (i : Int) : lft2 a0 a1 w p i = lft a0 a1 0 0 w p i := by unfold lft2 lft; rw [dg4_two, dg4_two]
theorem rgt2_eq (a0 a1 w : Int) (p : Nat) (i : Int) : rgt2 a0 a1 w p i = rgt a0 a1 0 0 w p i := by unfold rgt2 rgt; rw [dg4_two, dg4_two]
end Go.Proofs.YtjdjonekoodalaaGreatDoor
set_option linter.unusedSimpArgs false
namespace Go.Proofs.YtjdjonekoodalaaGreatDoor
open Go.RowKit
attribute [local go_sem ↓] Go.wp_at_zero Go.wp_at_succ
theorem split_any (n : Int) (n0 : -9223372036854775808 ≤ n) (n1 : n ≤ 9223372036854775807) (w : World) :
    Calls Tryz.prog 156 #[.int .i64 n] w fun e w' =>
      e = .returned (.tuple #[.int .i64 ((n.toNat / 64 : Nat) : Int), .int .i64 ((n.toNat % 64 : Nat) : Int)]) ∧ Below w.heap.size w w' := by
  by_cases h : n < 0
  · obtain e : n.toNat = 0 := by omega
    rw [e]
    go_enter Tryz.func156, Tryz.ntmps156
    go_wp2
    go_ret2
    exact ⟨rfl, bR⟩
  · obtain ⟨N, rfl⟩ := Int.eq_ofNat_of_zero_le (show 0 ≤ n by omega)
    rw [Int.toNat_natCast]
    go_enter Tryz.func156, Tryz.ntmps156
    go_wp2
    go_ret2
    exact ⟨rfl, bR⟩
theorem HB.below {s : Nat} {W W' : World} {B : Nat} {t : TypeId} {vs : Array Value} (h : HB W B t vs) (hb : Below s W W') (hB : B < s) : HB W' B t vs := (hb.block B hB).trans h
theorem HB.later {W W' : World} {B : Nat} {t : TypeId} {vs : Array Value} (h : HB W B t vs) (hb : Below W.heap.size W W') : HB W' B t vs := h.below hb h.lt
theorem digit2_any (a0 a1 i : Int) (w : World) :
    Calls Tryz.prog 159 #[.agg #[.int .u64 a0, .int .u64 a1], .int .i64 i] w fun e w' => e = .returned (.int .u64 (dg2 a0 a1 i)) ∧ Below w.heap.size w w' := by
  by_cases h0 : i < 0
  · rw [show dg2 a0 a1 i = 0 by unfold dg2; rw [if_neg (by omega), if_neg (by omega)]]
    go_enter Tryz.func159, Tryz.ntmps159
    go_wp2
    go_ret
    exact ⟨rfl, bR.alloc (Nat.le_refl _) _⟩
  · by_cases h1 : 2 ≤ i
    · rw [show dg2 a0 a1 i = 0 by unfold dg2; rw [if_neg (by omega), if_neg (by omega)]]
      go_enter Tryz.func159, Tryz.ntmps159
      go_wp2
      go_ret
      exact ⟨rfl, bR.alloc (Nat.le_refl _) _⟩
    · obtain rfl | rfl : i = 0 ∨ i = 1 := by omega
      all_goals
        rw [show dg2 a0 a1 _ = _ from rfl]
        go_enter Tryz.func159, Tryz.ntmps159
        go_wp2
        go_ret
        exact ⟨rfl, bR.alloc (Nat.le_refl _) _⟩
theorem left2_core {b1 b2 b3 : Nat} (a0 a1 i wh p q lo hi x y X Y Z : Int) (wlo : IntKind.i64.wrap (i - wh) = lo) (whi : IntKind.i64.wrap (lo - 1) = hi) (wq : IntKind.i64.wrap (64 - p) = q)
    (s1 : Op.shift .shl .u64 x .i64 p = pure (.int .u64 X)) (s2 : Op.shift .shr .u64 y .i64 q = pure (.int .u64 Y)) (hz : bits .or .u64 X Y = Z)
    (D1 : Hid (∀ w, Calls Tryz.prog 159 #[.agg #[.int .u64 a0, .int .u64 a1], .int .i64 lo] w fun e w' => e = .returned (.int .u64 x) ∧ Below w.heap.size w w'))
    (D2 : Hid (∀ w, Calls Tryz.prog 159 #[.agg #[.int .u64 a0, .int .u64 a1], .int .i64 hi] w fun e w' => e = .returned (.int .u64 y) ∧ Below w.heap.size w w')) (w : World)
    (cA0 : w.cell? ⟨b1, 0, none⟩ = some (.int .u64 a0)) (cA1 : w.cell? ⟨b1, 1, none⟩ = some (.int .u64 a1)) (cW : w.cell? ⟨b2, 0, none⟩ = some (.int .i64 wh)) (cP : w.cell? ⟨b3, 0, none⟩ = some (.int .i64 p)) :
    Calls Tryz.prog 158 #[.int .i64 i, .pointer (some ⟨b1, 0, none⟩), .pointer (some ⟨b2, 0, none⟩), .pointer (some ⟨b3, 0, none⟩)] w fun e w' =>
      e = .returned (.int .u64 Z) ∧ Below w.heap.size w w' := by
  go_enter Tryz.func158, Tryz.ntmps158
  go_upto_region 1 with fail
  refine wp_region_noPanic ?_
  refine wp_region_F [] [] (LS w (fun _ _ => True) (fun _ _ _ => True)) (by kernel_rfl) (bs := []) (vs := []) (by kernel_rfl) rfl (LS.before noBits_nil bR.drew trivial) ?_
  refine wpF_take (i := 0) (v := ?vq1) rfl (by kernel_rfl) (by kernel_rfl) (fun _ _ _ h => h) (LS.load (by rfl) ?yq1) ?rq1
  case yq1 => (intro wq hb; have lcA0 := cL hb cA0; have lcA1 := cL hb cA1; go_simp; try (with_reducible rfl))
  try simp only [zA, zB, zC, Act.put, zD, zE, zF]
  refine wpF_yield (i := 1) (v := ?vq2) rfl (by kernel_rfl) (by kernel_rfl) (fun _ _ _ h => h) (Or.inl ⟨by rfl, ?yq2⟩) ?rq2
  case yq2 => (intro wq; go_simp; try (with_reducible rfl))
  try simp only [zA, zB, zC, Act.put, zD, zE, zF]
  refine wpF_take (i := 2) (v := ?vq3) rfl (by kernel_rfl) (by kernel_rfl) (fun _ _ _ h => h) (LS.load (by rfl) ?yq3) ?rq3
  case yq3 => (intro wq hb; have lcW := cL hb cW; go_simp; try (with_reducible rfl))
  try simp only [zA, zB, zC, Act.put, zD, zE, zF]
  refine wpF_yield (i := 3) (v := ?vq4) rfl (by kernel_rfl) (by kernel_rfl) (fun _ _ _ h => h) (Or.inl ⟨by rfl, ?yq4⟩) ?rq4
  case yq4 => (intro wq; go_simp; try (with_reducible rfl))
  try simp only [zA, zB, zC, Act.put, zD, zE, zF]
  refine wpF_take (i := 4) (v := _) rfl (by kernel_rfl) (by kernel_rfl) (fun _ _ _ h => h) (LS.call lasts_true (by rfl) _ _ ?yq5 (D1.out)) ?rq5
  case yq5 => (intro wq; go_simp; try (with_reducible rfl))
  try simp only [zA, zB, zC, Act.put, zD, zE, zF]
  refine wpF_take (i := 5) (v := ?vq6) rfl (by kernel_rfl) (by kernel_rfl) (fun _ _ _ h => h) (LS.load (by rfl) ?yq6) ?rq6
  case yq6 => (intro wq hb; have lcP := cL hb cP; go_simp; try (with_reducible rfl))
  try simp only [zA, zB, zC, Act.put, zD, zE, zF]
  refine wpF_yield (i := 6) (v := ?vq7) rfl (by kernel_rfl) (by kernel_rfl) (fun _ _ _ h => h) (Or.inl ⟨by rfl, ?yq7⟩) ?rq7
  case yq7 => (intro wq; go_simp; try (with_reducible rfl))
  try simp only [zA, zB, zC, Act.put, zD, zE, zF]
  refine wpF_take (i := 7) (v := ?vq8) rfl (by kernel_rfl) (by kernel_rfl) (fun _ _ _ h => h) (LS.load (by rfl) ?yq8) ?rq8
  case yq8 => (intro wq hb; have lcA0 := cL hb cA0; have lcA1 := cL hb cA1; go_simp; try (with_reducible rfl))
  try simp only [zA, zB, zC, Act.put, zD, zE, zF]
  refine wpF_yield (i := 8) (v := ?vq9) rfl (by kernel_rfl) (by kernel_rfl) (fun _ _ _ h => h) (Or.inl ⟨by rfl, ?yq9⟩) ?rq9
  case yq9 => (intro wq; go_simp; try (with_reducible rfl))
  try simp only [zA, zB, zC, Act.put, zD, zE, zF]
  refine wpF_take (i := 9) (v := ?vq10) rfl (by kernel_rfl) (by kernel_rfl) (fun _ _ _ h => h) (LS.load (by rfl) ?yq10) ?rq10
  case yq10 => (intro wq hb; have lcW := cL hb cW; go_simp; try (with_reducible rfl))
  try simp only [zA, zB, zC, Act.put, zD, zE, zF]
  refine wpF_yield (i := 10) (v := ?vq11) rfl (by kernel_rfl) (by kernel_rfl) (fun _ _ _ h => h) (Or.inl ⟨by rfl, ?yq11⟩) ?rq11
  case yq11 => (intro wq; go_simp; try (with_reducible rfl))
  try simp only [zA, zB, zC, Act.put, zD, zE, zF]
  refine wpF_yield (i := 11) (v := ?vq12) rfl (by kernel_rfl) (by kernel_rfl) (fun _ _ _ h => h) (Or.inl ⟨by rfl, ?yq12⟩) ?rq12
  case yq12 => (intro wq; go_simp; try (with_reducible rfl))
  try simp only [zA, zB, zC, Act.put, zD, zE, zF]
  refine wpF_take (i := 12) (v := _) rfl (by kernel_rfl) (by kernel_rfl) (fun _ _ _ h => h) (LS.call lasts_true (by rfl) _ _ ?yq13 (D2.out)) ?rq13
  case yq13 => (intro wq; go_simp; try (with_reducible rfl))
  try simp only [zA, zB, zC, Act.put, zD, zE, zF]
  refine wpF_take (i := 13) (v := ?vq14) rfl (by kernel_rfl) (by kernel_rfl) (fun _ _ _ h => h) (LS.load (by rfl) ?yq14) ?rq14
  case yq14 => (intro wq hb; have lcP := cL hb cP; go_simp; try (with_reducible rfl))
  try simp only [zA, zB, zC, Act.put, zD, zE, zF]
  refine wpF_yield (i := 14) (v := ?vq15) rfl (by kernel_rfl) (by kernel_rfl) (fun _ _ _ h => h) (Or.inl ⟨by rfl, ?yq15⟩) ?rq15
  case yq15 => (intro wq; go_simp; try (with_reducible rfl))
  try simp only [zA, zB, zC, Act.put, zD, zE, zF]
  refine wpF_yield (i := 15) (v := ?vq16) rfl (by kernel_rfl) (by kernel_rfl) (fun _ _ _ h => h) (Or.inl ⟨by rfl, ?yq16⟩) ?rq16
  case yq16 => (intro wq; go_simp; try (with_reducible rfl))
  try simp only [zA, zB, zC, Act.put, zD, zE, zF]
  refine wpF_yield (i := 16) (v := ?vq17) rfl (by kernel_rfl) (by kernel_rfl) (fun _ _ _ h => h) (Or.inl ⟨by rfl, ?yq17⟩) ?rq17
  case yq17 => (intro wq; go_simp; try (with_reducible rfl))
  try simp only [zA, zB, zC, Act.put, zD, zE, zF]
  refine wpF_yield (i := 17) (v := ?vq18) rfl (by kernel_rfl) (by kernel_rfl) (fun _ _ _ h => h) (Or.inl ⟨by rfl, ?yq18⟩) ?rq18
  case yq18 => (intro wq; go_simp; try (with_reducible rfl))
  try simp only [zA, zB, zC, Act.put, zD, zE, zF]
  refine wpF_done (bs := []) (vs := []) (by kernel_rfl) (by kernel_rfl) rfl (fun W2 hS => ?_) _
  refine NoPanic.normal ?_
  go_wp2_with fail
  go_ret
  exact ⟨rfl, (hS.1 noBits_nil).1⟩
theorem right2_core {b1 b2 b3 : Nat} (a0 a1 i wh p q lo hi x y X Y Z : Int) (wlo : IntKind.i64.wrap (i + wh) = lo) (whi : IntKind.i64.wrap (lo + 1) = hi) (wq : IntKind.i64.wrap (64 - p) = q)
    (s1 : Op.shift .shr .u64 x .i64 p = pure (.int .u64 X)) (s2 : Op.shift .shl .u64 y .i64 q = pure (.int .u64 Y)) (hz : bits .or .u64 X Y = Z)
    (D1 : Hid (∀ w, Calls Tryz.prog 159 #[.agg #[.int .u64 a0, .int .u64 a1], .int .i64 lo] w fun e w' => e = .returned (.int .u64 x) ∧ Below w.heap.size w w'))
    (D2 : Hid (∀ w, Calls Tryz.prog 159 #[.agg #[.int .u64 a0, .int .u64 a1], .int .i64 hi] w fun e w' => e = .returned (.int .u64 y) ∧ Below w.heap.size w w')) (w : World)
    (cA0 : w.cell? ⟨b1, 0, none⟩ = some (.int .u64 a0)) (cA1 : w.cell? ⟨b1, 1, none⟩ = some (.int .u64 a1)) (cW : w.cell? ⟨b2, 0, none⟩ = some (.int .i64 wh)) (cP : w.cell? ⟨b3, 0, none⟩ = some (.int .i64 p)) :
    Calls Tryz.prog 169 #[.int .i64 i, .pointer (some ⟨b1, 0, none⟩), .pointer (some ⟨b2, 0, none⟩), .pointer (some ⟨b3, 0, none⟩)] w fun e w' =>
      e = .returned (.int .u64 Z) ∧ Below w.heap.size w w' := by
  go_enter Tryz.func169, Tryz.ntmps169
  go_upto_region 1 with fail
  refine wp_region_noPanic ?_
  refine wp_region_F [] [] (LS w (fun _ _ => True) (fun _ _ _ => True)) (by kernel_rfl) (bs := []) (vs := []) (by kernel_rfl) rfl (LS.before noBits_nil bR.drew trivial) ?_
  refine wpF_take (i := 0) (v := ?vq19) rfl (by kernel_rfl) (by kernel_rfl) (fun _ _ _ h => h) (LS.load (by rfl) ?yq19) ?rq19
  case yq19 => (intro wq hb; have lcA0 := cL hb cA0; have lcA1 := cL hb cA1; go_simp; try (with_reducible rfl))
  try simp only [zA, zB, zC, Act.put, zD, zE, zF]
  refine wpF_yield (i := 1) (v := ?vq20) rfl (by kernel_rfl) (by kernel_rfl) (fun _ _ _ h => h) (Or.inl ⟨by rfl, ?yq20⟩) ?rq20
  case yq20 => (intro wq; go_simp; try (with_reducible rfl))
  try simp only [zA, zB, zC, Act.put, zD, zE, zF]
  refine wpF_take (i := 2) (v := ?vq21) rfl (by kernel_rfl) (by kernel_rfl) (fun _ _ _ h => h) (LS.load (by rfl) ?yq21) ?rq21
  case yq21 => (intro wq hb; have lcW := cL hb cW; go_simp; try (with_reducible rfl))
  try simp only [zA, zB, zC, Act.put, zD, zE, zF]
  refine wpF_yield (i := 3) (v := ?vq22) rfl (by kernel_rfl) (by kernel_rfl) (fun _ _ _ h => h) (Or.inl ⟨by rfl, ?yq22⟩) ?rq22
  case yq22 => (intro wq; go_simp; try (with_reducible rfl))
  try simp only [zA, zB, zC, Act.put, zD, zE, zF]
  refine wpF_take (i := 4) (v := _) rfl (by kernel_rfl) (by kernel_rfl) (fun _ _ _ h => h) (LS.call lasts_true (by rfl) _ _ ?yq23 (D1.out)) ?rq23
  case yq23 => (intro wq; go_simp; try (with_reducible rfl))
  try simp only [zA, zB, zC, Act.put, zD, zE, zF]
  refine wpF_take (i := 5) (v := ?vq24) rfl (by kernel_rfl) (by kernel_rfl) (fun _ _ _ h => h) (LS.load (by rfl) ?yq24) ?rq24
  case yq24 => (intro wq hb; have lcP := cL hb cP; go_simp; try (with_reducible rfl))
  try simp only [zA, zB, zC, Act.put, zD, zE, zF]
  refine wpF_yield (i := 6) (v := ?vq25) rfl (by kernel_rfl) (by kernel_rfl) (fun _ _ _ h => h) (Or.inl ⟨by rfl, ?yq25⟩) ?rq25
  case yq25 => (intro wq; go_simp; try (with_reducible rfl))
  try simp only [zA, zB, zC, Act.put, zD, zE, zF]
  refine wpF_take (i := 7) (v := ?vq26) rfl (by kernel_rfl) (by kernel_rfl) (fun _ _ _ h => h) (LS.load (by rfl) ?yq26) ?rq26
  case yq26 => (intro wq hb; have lcA0 := cL hb cA0; have lcA1 := cL hb cA1; go_simp; try (with_reducible rfl))
  try simp only [zA, zB, zC, Act.put, zD, zE, zF]
  refine wpF_yield (i := 8) (v := ?vq27) rfl (by kernel_rfl) (by kernel_rfl) (fun _ _ _ h => h) (Or.inl ⟨by rfl, ?yq27⟩) ?rq27
  case yq27 => (intro wq; go_simp; try (with_reducible rfl))
  try simp only [zA, zB, zC, Act.put, zD, zE, zF]
  refine wpF_take (i := 9) (v := ?vq28) rfl (by kernel_rfl) (by kernel_rfl) (fun _ _ _ h => h) (LS.load (by rfl) ?yq28) ?rq28
  case yq28 => (intro wq hb; have lcW := cL hb cW; go_simp; try (with_reducible rfl))
  try simp only [zA, zB, zC, Act.put, zD, zE, zF]
  refine wpF_yield (i := 10) (v := ?vq29) rfl (by kernel_rfl) (by kernel_rfl) (fun _ _ _ h => h) (Or.inl ⟨by rfl, ?yq29⟩) ?rq29
  case yq29 => (intro wq; go_simp; try (with_reducible rfl))
  try simp only [zA, zB, zC, Act.put, zD, zE, zF]
  refine wpF_yield (i := 11) (v := ?vq30) rfl (by kernel_rfl) (by kernel_rfl) (fun _ _ _ h => h) (Or.inl ⟨by rfl, ?yq30⟩) ?rq30
  case yq30 => (intro wq; go_simp; try (with_reducible rfl))
  try simp only [zA, zB, zC, Act.put, zD, zE, zF]
  refine wpF_take (i := 12) (v := _) rfl (by kernel_rfl) (by kernel_rfl) (fun _ _ _ h => h) (LS.call lasts_true (by rfl) _ _ ?yq31 (D2.out)) ?rq31
  case yq31 => (intro wq; go_simp; try (with_reducible rfl))
  try simp only [zA, zB, zC, Act.put, zD, zE, zF]
  refine wpF_take (i := 13) (v := ?vq32) rfl (by kernel_rfl) (by kernel_rfl) (fun _ _ _ h => h) (LS.load (by rfl) ?yq32) ?rq32
  case yq32 => (intro wq hb; have lcP := cL hb cP; go_simp; try (with_reducible rfl))
  try simp only [zA, zB, zC, Act.put, zD, zE, zF]
  refine wpF_yield (i := 14) (v := ?vq33) rfl (by kernel_rfl) (by kernel_rfl) (fun _ _ _ h => h) (Or.inl ⟨by rfl, ?yq33⟩) ?rq33
  case yq33 => (intro wq; go_simp; try (with_reducible rfl))
  try simp only [zA, zB, zC, Act.put, zD, zE, zF]
  refine wpF_yield (i := 15) (v := ?vq34) rfl (by kernel_rfl) (by kernel_rfl) (fun _ _ _ h => h) (Or.inl ⟨by rfl, ?yq34⟩) ?rq34
  case yq34 => (intro wq; go_simp; try (with_reducible rfl))
  try simp only [zA, zB, zC, Act.put, zD, zE, zF]
  refine wpF_yield (i := 16) (v := ?vq35) rfl (by kernel_rfl) (by kernel_rfl) (fun _ _ _ h => h) (Or.inl ⟨by rfl, ?yq35⟩) ?rq35
  case yq35 => (intro wq; go_simp; try (with_reducible rfl))
  try simp only [zA, zB, zC, Act.put, zD, zE, zF]
  refine wpF_yield (i := 17) (v := ?vq36) rfl (by kernel_rfl) (by kernel_rfl) (fun _ _ _ h => h) (Or.inl ⟨by rfl, ?yq36⟩) ?rq36
  case yq36 => (intro wq; go_simp; try (with_reducible rfl))
  try simp only [zA, zB, zC, Act.put, zD, zE, zF]
  refine wpF_done (bs := []) (vs := []) (by kernel_rfl) (by kernel_rfl) rfl (fun W2 hS => ?_) _
  refine NoPanic.normal ?_
  go_wp2_with fail
  go_ret
  exact ⟨rfl, (hS.1 noBits_nil).1⟩
theorem digit4_any (a0 a1 a2 a3 i : Int) (w : World) :
    Calls Tryz.prog 213 #[.agg #[.int .u64 a0, .int .u64 a1, .int .u64 a2, .int .u64 a3], .int .i64 i] w fun e w' => e = .returned (.int .u64 (dg4 a0 a1 a2 a3 i)) ∧ Below w.heap.size w w' := by
  by_cases h0 : i < 0
  · rw [show dg4 a0 a1 a2 a3 i = 0 by unfold dg4; rw [if_neg (by omega), if_neg (by omega), if_neg (by omega), if_neg (by omega)]]
    go_enter Tryz.func213, Tryz.ntmps213
    go_wp2
    go_ret
    exact ⟨rfl, bR.alloc (Nat.le_refl _) _⟩
  · by_cases h1 : 4 ≤ i
    · rw [show dg4 a0 a1 a2 a3 i = 0 by unfold dg4; rw [if_neg (by omega), if_neg (by omega), if_neg (by omega), if_neg (by omega)]]
      go_enter Tryz.func213, Tryz.ntmps213
      go_wp2
      go_ret
      exact ⟨rfl, bR.alloc (Nat.le_refl _) _⟩
    · obtain rfl | rfl | rfl | rfl : i = 0 ∨ i = 1 ∨ i = 2 ∨ i = 3 := by omega
      all_goals
        rw [show dg4 a0 a1 a2 a3 _ = _ from rfl]
        go_enter Tryz.func213, Tryz.ntmps213
        go_wp2
        go_ret
        exact ⟨rfl, bR.alloc (Nat.le_refl _) _⟩
theorem left4_core {b1 b2 b3 : Nat} (a0 a1 a2 a3 i wh p q lo hi x y X Y Z : Int) (wlo : IntKind.i64.wrap (i - wh) = lo) (whi : IntKind.i64.wrap (lo - 1) = hi) (wq : IntKind.i64.wrap (64 - p) = q)
    (s1 : Op.shift .shl .u64 x .i64 p = pure (.int .u64 X)) (s2 : Op.shift .shr .u64 y .i64 q = pure (.int .u64 Y)) (hz : bits .or .u64 X Y = Z)
    (D1 : Hid (∀ w, Calls Tryz.prog 213 #[.agg #[.int .u64 a0, .int .u64 a1, .int .u64 a2, .int .u64 a3], .int .i64 lo] w fun e w' => e = .returned (.int .u64 x) ∧ Below w.heap.size w w'))
    (D2 : Hid (∀ w, Calls Tryz.prog 213 #[.agg #[.int .u64 a0, .int .u64 a1, .int .u64 a2, .int .u64 a3], .int .i64 hi] w fun e w' => e = .returned (.int .u64 y) ∧ Below w.heap.size w w')) (w : World)
    (cA0 : w.cell? ⟨b1, 0, none⟩ = some (.int .u64 a0)) (cA1 : w.cell? ⟨b1, 1, none⟩ = some (.int .u64 a1)) (cA2 : w.cell? ⟨b1, 2, none⟩ = some (.int .u64 a2)) (cA3 : w.cell? ⟨b1, 3, none⟩ = some (.int .u64 a3)) (cW : w.cell? ⟨b2, 0, none⟩ = some (.int .i64 wh)) (cP : w.cell? ⟨b3, 0, none⟩ = some (.int .i64 p)) :
    Calls Tryz.prog 212 #[.int .i64 i, .pointer (some ⟨b1, 0, none⟩), .pointer (some ⟨b2, 0, none⟩), .pointer (some ⟨b3, 0, none⟩)] w fun e w' =>
      e = .returned (.int .u64 Z) ∧ Below w.heap.size w w' := by
  go_enter Tryz.func212, Tryz.ntmps212
  go_upto_region 1 with fail
  refine wp_region_noPanic ?_
  refine wp_region_F [] [] (LS w (fun _ _ => True) (fun _ _ _ => True)) (by kernel_rfl) (bs := []) (vs := []) (by kernel_rfl) rfl (LS.before noBits_nil bR.drew trivial) ?_
  refine wpF_take (i := 0) (v := ?vq37) rfl (by kernel_rfl) (by kernel_rfl) (fun _ _ _ h => h) (LS.load (by rfl) ?yq37) ?rq37
  case yq37 => (intro wq hb; have lcA0 := cL hb cA0; have lcA1 := cL hb cA1; have lcA2 := cL hb cA2; have lcA3 := cL hb cA3; go_simp; try (with_reducible rfl))
  try simp only [zA, zB, zC, Act.put, zD, zE, zF]
  refine wpF_yield (i := 1) (v := ?vq38) rfl (by kernel_rfl) (by kernel_rfl) (fun _ _ _ h => h) (Or.inl ⟨by rfl, ?yq38⟩) ?rq38
  case yq38 => (intro wq; go_simp; try (with_reducible rfl))
  try simp only [zA, zB, zC, Act.put, zD, zE, zF]
  refine wpF_take (i := 2) (v := ?vq39) rfl (by kernel_rfl) (by kernel_rfl) (fun _ _ _ h => h) (LS.load (by rfl) ?yq39) ?rq39
  case yq39 => (intro wq hb; have lcW := cL hb cW; go_simp; try (with_reducible rfl))
  try simp only [zA, zB, zC, Act.put, zD, zE, zF]
  refine wpF_yield (i := 3) (v := ?vq40) rfl (by kernel_rfl) (by kernel_rfl) (fun _ _ _ h => h) (Or.inl ⟨by rfl, ?yq40⟩) ?rq40
  case yq40 => (intro wq; go_simp; try (with_reducible rfl))
  try simp only [zA, zB, zC, Act.put, zD, zE, zF]
  refine wpF_take (i := 4) (v := _) rfl (by kernel_rfl) (by kernel_rfl) (fun _ _ _ h => h) (LS.call lasts_true (by rfl) _ _ ?yq41 (D1.out)) ?rq41
  case yq41 => (intro wq; go_simp; try (with_reducible rfl))
  try simp only [zA, zB, zC, Act.put, zD, zE, zF]
  refine wpF_take (i := 5) (v := ?vq42) rfl (by kernel_rfl) (by kernel_rfl) (fun _ _ _ h => h) (LS.load (by rfl) ?yq42) ?rq42
  case yq42 => (intro wq hb; have lcP := cL hb cP; go_simp; try (with_reducible rfl))
  try simp only [zA, zB, zC, Act.put, zD, zE, zF]
  refine wpF_yield (i := 6) (v := ?vq43) rfl (by kernel_rfl) (by kernel_rfl) (fun _ _ _ h => h) (Or.inl ⟨by rfl, ?yq43⟩) ?rq43
  case yq43 => (intro wq; go_simp; try (with_reducible rfl))
  try simp only [zA, zB, zC, Act.put, zD, zE, zF]
  refine wpF_take (i := 7) (v := ?vq44) rfl (by kernel_rfl) (by kernel_rfl) (fun _ _ _ h => h) (LS.load (by rfl) ?yq44) ?rq44
  case yq44 => (intro wq hb; have lcA0 := cL hb cA0; have lcA1 := cL hb cA1; have lcA2 := cL hb cA2; have lcA3 := cL hb cA3; go_simp; try (with_reducible rfl))
  try simp only [zA, zB, zC, Act.put, zD, zE, zF]
  refine wpF_yield (i := 8) (v := ?vq45) rfl (by kernel_rfl) (by kernel_rfl) (fun _ _ _ h => h) (Or.inl ⟨by rfl, ?yq45⟩) ?rq45
  case yq45 => (intro wq; go_simp; try (with_reducible rfl))
  try simp only [zA, zB, zC, Act.put, zD, zE, zF]
  refine wpF_take (i := 9) (v := ?vq46) rfl (by kernel_rfl) (by kernel_rfl) (fun _ _ _ h => h) (LS.load (by rfl) ?yq46) ?rq46
  case yq46 => (intro wq hb; have lcW := cL hb cW; go_simp; try (with_reducible rfl))
  try simp only [zA, zB, zC, Act.put, zD, zE, zF]
  refine wpF_yield (i := 10) (v := ?vq47) rfl (by kernel_rfl) (by kernel_rfl) (fun _ _ _ h => h) (Or.inl ⟨by rfl, ?yq47⟩) ?rq47
  case yq47 => (intro wq; go_simp; try (with_reducible rfl))
  try simp only [zA, zB, zC, Act.put, zD, zE, zF]
  refine wpF_yield (i := 11) (v := ?vq48) rfl (by kernel_rfl) (by kernel_rfl) (fun _ _ _ h => h) (Or.inl ⟨by rfl, ?yq48⟩) ?rq48
  case yq48 => (intro wq; go_simp; try (with_reducible rfl))
  try simp only [zA, zB, zC, Act.put, zD, zE, zF]
  refine wpF_take (i := 12) (v := _) rfl (by kernel_rfl) (by kernel_rfl) (fun _ _ _ h => h) (LS.call lasts_true (by rfl) _ _ ?yq49 (D2.out)) ?rq49
  case yq49 => (intro wq; go_simp; try (with_reducible rfl))
  try simp only [zA, zB, zC, Act.put, zD, zE, zF]
  refine wpF_take (i := 13) (v := ?vq50) rfl (by kernel_rfl) (by kernel_rfl) (fun _ _ _ h => h) (LS.load (by rfl) ?yq50) ?rq50
  case yq50 => (intro wq hb; have lcP := cL hb cP; go_simp; try (with_reducible rfl))
  try simp only [zA, zB, zC, Act.put, zD, zE, zF]
  refine wpF_yield (i := 14) (v := ?vq51) rfl (by kernel_rfl) (by kernel_rfl) (fun _ _ _ h => h) (Or.inl ⟨by rfl, ?yq51⟩) ?rq51
  case yq51 => (intro wq; go_simp; try (with_reducible rfl))
  try simp only [zA, zB, zC, Act.put, zD, zE, zF]
  refine wpF_yield (i := 15) (v := ?vq52) rfl (by kernel_rfl) (by kernel_rfl) (fun _ _ _ h => h) (Or.inl ⟨by rfl, ?yq52⟩) ?rq52
  case yq52 => (intro wq; go_simp; try (with_reducible rfl))
  try simp only [zA, zB, zC, Act.put, zD, zE, zF]
  refine wpF_yield (i := 16) (v := ?vq53) rfl (by kernel_rfl) (by kernel_rfl) (fun _ _ _ h => h) (Or.inl ⟨by rfl, ?yq53⟩) ?rq53
  case yq53 => (intro wq; go_simp; try (with_reducible rfl))
  try simp only [zA, zB, zC, Act.put, zD, zE, zF]
  refine wpF_yield (i := 17) (v := ?vq54) rfl (by kernel_rfl) (by kernel_rfl) (fun _ _ _ h => h) (Or.inl ⟨by rfl, ?yq54⟩) ?rq54
  case yq54 => (intro wq; go_simp; try (with_reducible rfl))
  try simp only [zA, zB, zC, Act.put, zD, zE, zF]
  refine wpF_done (bs := []) (vs := []) (by kernel_rfl) (by kernel_rfl) rfl (fun W2 hS => ?_) _
  refine NoPanic.normal ?_
  go_wp2_with fail
  go_ret
  exact ⟨rfl, (hS.1 noBits_nil).1⟩
theorem right4_core {b1 b2 b3 : Nat} (a0 a1 a2 a3 i wh p q lo hi x y X Y Z : Int) (wlo : IntKind.i64.wrap (i + wh) = lo) (whi : IntKind.i64.wrap (lo + 1) = hi) (wq : IntKind.i64.wrap (64 - p) = q)
    (s1 : Op.shift .shr .u64 x .i64 p = pure (.int .u64 X)) (s2 : Op.shift .shl .u64 y .i64 q = pure (.int .u64 Y)) (hz : bits .or .u64 X Y = Z)
    (D1 : Hid (∀ w, Calls Tryz.prog 213 #[.agg #[.int .u64 a0, .int .u64 a1, .int .u64 a2, .int .u64 a3], .int .i64 lo] w fun e w' => e = .returned (.int .u64 x) ∧ Below w.heap.size w w'))
    (D2 : Hid (∀ w, Calls Tryz.prog 213 #[.agg #[.int .u64 a0, .int .u64 a1, .int .u64 a2, .int .u64 a3], .int .i64 hi] w fun e w' => e = .returned (.int .u64 y) ∧ Below w.heap.size w w')) (w : World)
    (cA0 : w.cell? ⟨b1, 0, none⟩ = some (.int .u64 a0)) (cA1 : w.cell? ⟨b1, 1, none⟩ = some (.int .u64 a1)) (cA2 : w.cell? ⟨b1, 2, none⟩ = some (.int .u64 a2)) (cA3 : w.cell? ⟨b1, 3, none⟩ = some (.int .u64 a3)) (cW : w.cell? ⟨b2, 0, none⟩ = some (.int .i64 wh)) (cP : w.cell? ⟨b3, 0, none⟩ = some (.int .i64 p)) :
    Calls Tryz.prog 216 #[.int .i64 i, .pointer (some ⟨b1, 0, none⟩), .pointer (some ⟨b2, 0, none⟩), .pointer (some ⟨b3, 0, none⟩)] w fun e w' =>
      e = .returned (.int .u64 Z) ∧ Below w.heap.size w w' := by
  go_enter Tryz.func216, Tryz.ntmps216
  go_upto_region 1 with fail
  refine wp_region_noPanic ?_
  refine wp_region_F [] [] (LS w (fun _ _ => True) (fun _ _ _ => True)) (by kernel_rfl) (bs := []) (vs := []) (by kernel_rfl) rfl (LS.before noBits_nil bR.drew trivial) ?_
  refine wpF_take (i := 0) (v := ?vq55) rfl (by kernel_rfl) (by kernel_rfl) (fun _ _ _ h => h) (LS.load (by rfl) ?yq55) ?rq55
  case yq55 => (intro wq hb; have lcA0 := cL hb cA0; have lcA1 := cL hb cA1; have lcA2 := cL hb cA2; have lcA3 := cL hb cA3; go_simp; try (with_reducible rfl))
  try simp only [zA, zB, zC, Act.put, zD, zE, zF]
  refine wpF_yield (i := 1) (v := ?vq56) rfl (by kernel_rfl) (by kernel_rfl) (fun _ _ _ h => h) (Or.inl ⟨by rfl, ?yq56⟩) ?rq56
  case yq56 => (intro wq; go_simp; try (with_reducible rfl))
  try simp only [zA, zB, zC, Act.put, zD, zE, zF]
  refine wpF_take (i := 2) (v := ?vq57) rfl (by kernel_rfl) (by kernel_rfl) (fun _ _ _ h => h) (LS.load (by rfl) ?yq57) ?rq57
  case yq57 => (intro wq hb; have lcW := cL hb cW; go_simp; try (with_reducible rfl))
  try simp only [zA, zB, zC, Act.put, zD, zE, zF]
  refine wpF_yield (i := 3) (v := ?vq58) rfl (by kernel_rfl) (by kernel_rfl) (fun _ _ _ h => h) (Or.inl ⟨by rfl, ?yq58⟩) ?rq58
  case yq58 => (intro wq; go_simp; try (with_reducible rfl))
  try simp only [zA, zB, zC, Act.put, zD, zE, zF]
  refine wpF_take (i := 4) (v := _) rfl (by kernel_rfl) (by kernel_rfl) (fun _ _ _ h => h) (LS.call lasts_true (by rfl) _ _ ?yq59 (D1.out)) ?rq59
  case yq59 => (intro wq; go_simp; try (with_reducible rfl))
  try simp only [zA, zB, zC, Act.put, zD, zE, zF]
  refine wpF_take (i := 5) (v := ?vq60) rfl (by kernel_rfl) (by kernel_rfl) (fun _ _ _ h => h) (LS.load (by rfl) ?yq60) ?rq60
  case yq60 => (intro wq hb; have lcP := cL hb cP; go_simp; try (with_reducible rfl))
  try simp only [zA, zB, zC, Act.put, zD, zE, zF]
  refine wpF_yield (i := 6) (v := ?vq61) rfl (by kernel_rfl) (by kernel_rfl) (fun _ _ _ h => h) (Or.inl ⟨by rfl, ?yq61⟩) ?rq61
  case yq61 => (intro wq; go_simp; try (with_reducible rfl))
  try simp only [zA, zB, zC, Act.put, zD, zE, zF]
  refine wpF_take (i := 7) (v := ?vq62) rfl (by kernel_rfl) (by kernel_rfl) (fun _ _ _ h => h) (LS.load (by rfl) ?yq62) ?rq62
  case yq62 => (intro wq hb; have lcA0 := cL hb cA0; have lcA1 := cL hb cA1; have lcA2 := cL hb cA2; have lcA3 := cL hb cA3; go_simp; try (with_reducible rfl))
  try simp only [zA, zB, zC, Act.put, zD, zE, zF]
  refine wpF_yield (i := 8) (v := ?vq63) rfl (by kernel_rfl) (by kernel_rfl) (fun _ _ _ h => h) (Or.inl ⟨by rfl, ?yq63⟩) ?rq63
  case yq63 => (intro wq; go_simp; try (with_reducible rfl))
  try simp only [zA, zB, zC, Act.put, zD, zE, zF]
  refine wpF_take (i := 9) (v := ?vq64) rfl (by kernel_rfl) (by kernel_rfl) (fun _ _ _ h => h) (LS.load (by rfl) ?yq64) ?rq64
  case yq64 => (intro wq hb; have lcW := cL hb cW; go_simp; try (with_reducible rfl))
  try simp only [zA, zB, zC, Act.put, zD, zE, zF]
  refine wpF_yield (i := 10) (v := ?vq65) rfl (by kernel_rfl) (by kernel_rfl) (fun _ _ _ h => h) (Or.inl ⟨by rfl, ?yq65⟩) ?rq65
  case yq65 => (intro wq; go_simp; try (with_reducible rfl))
  try simp only [zA, zB, zC, Act.put, zD, zE, zF]
  refine wpF_yield (i := 11) (v := ?vq66) rfl (by kernel_rfl) (by kernel_rfl) (fun _ _ _ h => h) (Or.inl ⟨by rfl, ?yq66⟩) ?rq66
  case yq66 => (intro wq; go_simp; try (with_reducible rfl))
  try simp only [zA, zB, zC, Act.put, zD, zE, zF]
  refine wpF_take (i := 12) (v := _) rfl (by kernel_rfl) (by kernel_rfl) (fun _ _ _ h => h) (LS.call lasts_true (by rfl) _ _ ?yq67 (D2.out)) ?rq67
  case yq67 => (intro wq; go_simp; try (with_reducible rfl))
  try simp only [zA, zB, zC, Act.put, zD, zE, zF]
  refine wpF_take (i := 13) (v := ?vq68) rfl (by kernel_rfl) (by kernel_rfl) (fun _ _ _ h => h) (LS.load (by rfl) ?yq68) ?rq68
  case yq68 => (intro wq hb; have lcP := cL hb cP; go_simp; try (with_reducible rfl))
  try simp only [zA, zB, zC, Act.put, zD, zE, zF]
  refine wpF_yield (i := 14) (v := ?vq69) rfl (by kernel_rfl) (by kernel_rfl) (fun _ _ _ h => h) (Or.inl ⟨by rfl, ?yq69⟩) ?rq69
  case yq69 => (intro wq; go_simp; try (with_reducible rfl))
  try simp only [zA, zB, zC, Act.put, zD, zE, zF]
  refine wpF_yield (i := 15) (v := ?vq70) rfl (by kernel_rfl) (by kernel_rfl) (fun _ _ _ h => h) (Or.inl ⟨by rfl, ?yq70⟩) ?rq70
  case yq70 => (intro wq; go_simp; try (with_reducible rfl))
  try simp only [zA, zB, zC, Act.put, zD, zE, zF]
  refine wpF_yield (i := 16) (v := ?vq71) rfl (by kernel_rfl) (by kernel_rfl) (fun _ _ _ h => h) (Or.inl ⟨by rfl, ?yq71⟩) ?rq71
  case yq71 => (intro wq; go_simp; try (with_reducible rfl))
  try simp only [zA, zB, zC, Act.put, zD, zE, zF]
  refine wpF_yield (i := 17) (v := ?vq72) rfl (by kernel_rfl) (by kernel_rfl) (fun _ _ _ h => h) (Or.inl ⟨by rfl, ?yq72⟩) ?rq72
  case yq72 => (intro wq; go_simp; try (with_reducible rfl))
  try simp only [zA, zB, zC, Act.put, zD, zE, zF]
  refine wpF_done (bs := []) (vs := []) (by kernel_rfl) (by kernel_rfl) rfl (fun W2 hS => ?_) _
  refine NoPanic.normal ?_
  go_wp2_with fail
  go_ret
  exact ⟨rfl, (hS.1 noBits_nil).1⟩
end Go.Proofs.YtjdjonekoodalaaGreatDoor
