/-
  Products of two numbers of a format: exact in the next wider one, and rounded from there; plain arithmetic.
-/
import Derived.Test.YtjnohbpebdnngaaGreatDoorMul19V
import Derived.Test.YtjnohbpebdnngaaGreatDoorAdd18F
set_option linter.unusedVariables false
set_option linter.unusedSimpArgs false
set_option maxRecDepth 100000
namespace Go.Proofs.YtjnohbpebdnngaaGreatDoor
open Go.RowKit

/-- What a number taken apart is rounded to, by its size. -/
theorem pk_vF {f g m b : Int} {ng : Bool} (f0 : 0 ≤ f) (g0 : 0 ≤ g) (b0 : 0 ≤ b) : pkB f m ng (uE g b) (uS g b * full) = dcB f m ng (vF g b) (-1099511628031) false ∧ ∀ t, pkFl f m t ng (uE g b) (uS g b * full) = dcFl f m t ng (vF g b) (-1099511628031) false := by
  have r := room_u (f := g) g0 b0
  have er := uE_range (f := g) g0 b0
  obtain ⟨d1, d2⟩ := dc_pk (f := f) (m := m) (exp := uE g b) (x := uS g b * full) (ng := ng) f0 r.1 r.2.1
  rw [clip_id (by omega) (by omega)] at d1 d2
  have s := dc_scale (f := f) (m := m) (q := uS g b * full) (E := uE g b - 255) (ng := ng) (uE g b + 1099511627776).toNat r.1
  rw [show uE g b - 255 - (((uE g b + 1099511627776).toNat : Nat) : Int) = -1099511628031 by omega] at s
  have v : vF g b = uS g b * full * 2 ^ (uE g b + 1099511627776).toNat := by unfold vF baseT; rw [clT_u g0 b0]
  rw [v]
  exact ⟨(s.1.trans d1).symm, fun t => ((s.2 t).trans (d2 t)).symm⟩
/-- A product's size, over the exponent that lies below all numbers. -/
theorem wide_fits {f m a b : Int} {ng : Bool} (f0 : 0 ≤ f) (hf : f ≤ 2) (hm : m < 5) (a0 : 0 ≤ a) (b0 : 0 ≤ b) (ca : clsF f a ≤ 2) (cb : clsF f b ≤ 2) : ∃ q, (∀ g, 0 ≤ g → dcB g m ng (vF f a * vF f b) (-2199023256062) false = dcB g m ng q (-1099511628031) false ∧ ∀ t, dcFl g m t ng (vF f a * vF f b) (-2199023256062) false = dcFl g m t ng q (-1099511628031) false) ∧
    ∀ B, dcB (f + 1) m ng q (-1099511628031) false = B → (∀ t, dcFl (f + 1) m t ng q (-1099511628031) false = 0) ∧ 0 ≤ B ∧ B < full ∧ negF (f + 1) B = ng ∧ vF (f + 1) B = q := by
  have ra := cls_range f a; have rb := cls_range f b
  have f4 : f < 4 := by omega
  obtain ⟨v, m0, m1, x0, x1⟩ := vF_val f0 f4 a0 ca
  obtain ⟨w, n0, n1, y0, y1⟩ := vF_val f0 f4 b0 cb
  obtain ⟨p0, p1, p2, p3, p4, p5, p6, p7, p8⟩ := f_nums f0 f4
  have k : 2 * fP f ≤ fP (f + 1) ∧ 2 * (fE f : Int) + 1 ≤ fE (f + 1) ∧ 2 - (fE (f + 1) : Int) - fP (f + 1) ≤ 2 * (2 - fE f - fP f) := by
    obtain rfl | rfl | rfl : f = 0 ∨ f = 1 ∨ f = 2 := by omega
    all_goals decide
  obtain ⟨K, hK⟩ : ∃ K : Nat, (K : Int) = 1099511628031 := ⟨1099511628031, rfl⟩
  obtain ⟨j, hj⟩ : ∃ j : Nat, (j : Int) = uX f a + uX f b + 1099511628031 := ⟨(uX f a + uX f b + 1099511628031).toNat, by omega⟩
  have e : vF f a * vF f b = uM f a * uM f b * 2 ^ j * 2 ^ K := by
    obtain ⟨i, hi⟩ : ∃ i : Nat, (i : Int) = uX f a + 1099511628031 := ⟨(uX f a + 1099511628031).toNat, by omega⟩
    obtain ⟨l, hl⟩ : ∃ l : Nat, (l : Int) = uX f b + 1099511628031 := ⟨(uX f b + 1099511628031).toNat, by omega⟩
    rw [v, w, show (uX f a + 1099511628031).toNat = i by omega, show (uX f b + 1099511628031).toNat = l by omega, Int.mul_assoc (uM f a * uM f b), ← Int.pow_add, show j + K = i + l by omega, Int.pow_add]
    simp only [Int.mul_assoc, Int.mul_left_comm]
  have sc : ∀ g, 0 ≤ g → dcB g m ng (vF f a * vF f b) (-2199023256062) false = dcB g m ng (uM f a * uM f b * 2 ^ j) (-1099511628031) false ∧ ∀ t, dcFl g m t ng (vF f a * vF f b) (-2199023256062) false = dcFl g m t ng (uM f a * uM f b * 2 ^ j) (-1099511628031) false := fun g _ => by
    have s := dc_scale (f := g) (m := m) (q := uM f a * uM f b * 2 ^ j) (E := -1099511628031) (ng := ng) K (Int.mul_nonneg (Int.mul_nonneg m0 n0) (by have := two_pow_pos j; omega))
    rw [show (-1099511628031 : Int) - (K : Int) = -2199023256062 by omega, ← e] at s
    exact s
  refine ⟨uM f a * uM f b * 2 ^ j, sc, fun B hB => ?_⟩
  have mp := Int.mul_nonneg m0 n0
  by_cases z : uM f a * uM f b = 0
  · rw [z, Int.zero_mul] at hB ⊢
    rw [dc_zero.1, if_pos ⟨by omega, hm⟩] at hB
    obtain ⟨g0, g1⟩ := make_full (show 0 ≤ f + 1 by omega) ng 0 0
    obtain ⟨c, n⟩ := nought_cls (f := f + 1) (by omega) (by omega) ng
    rw [hB] at g0 g1 c n
    exact ⟨fun t => dc_zero.2 t, g0, g1, n, (vF_zero (by omega) (by omega) g0 (by omega)).2 c⟩
  · have na : clsF f a ≠ 0 := fun h => z (by rw [uM_zero f0 f4 h, Int.zero_mul])
    have nb : clsF f b ≠ 0 := fun h => z (by rw [uM_zero f0 f4 h, Int.mul_zero])
    have ca' : clsF f a = 1 ∨ clsF f a = 2 := by omega
    have cb' : clsF f b = 1 ∨ clsF f b = 2 := by omega
    have ua := un_range f0 f4 a0 ca'; have ub := un_range f0 f4 b0 cb'
    obtain ⟨d0, d1, d2⟩ := ml_dcE f0 f4 a0 b0 ca' cb'
    have mpos : 0 < uM f a * uM f b := by omega
    have pj := two_pow_pos j
    have qp : 0 < uM f a * uM f b * 2 ^ j := Int.mul_pos mpos pj
    have u := ulpF_eq (f := f + 1) (by omega) (by omega)
    have M1 : uM f a * uM f b < 2 ^ fP (f + 1) := by
      have h1 : uM f a * uM f b ≤ 2 ^ fP f * uM f b := Int.mul_le_mul_of_nonneg_right (by omega) n0
      have h2 : (2 : Int) ^ fP f * uM f b < 2 ^ fP f * 2 ^ fP f := Int.mul_lt_mul_of_pos_left n1 (two_pow_pos _)
      rw [← Int.pow_add] at h2
      have := two_pow_le (show fP f + fP f ≤ fP (f + 1) by omega)
      omega
    have dq : dcE (uM f a * uM f b * 2 ^ j) (-1099511628031) ≤ fE (f + 1) := by
      have : dcE (uM f a * uM f b * 2 ^ j) (-1099511628031) = dcE (vF f a * vF f b) (-2199023256062) := by
        rw [e]; unfold dcE; rw [blen_shl qp K]; omega
      omega
    obtain ⟨g1, g2⟩ := dc_fits (f := f + 1) (m := m) (ng := ng) (q := uM f a * uM f b * 2 ^ j) (by omega) (by omega) hm rfl mpos M1 (by omega) dq
    have un : uM f a * uM f b * 2 ^ j % 2 ^ ulpF (f + 1) = 0 := by
      rw [show j = (j - ulpF (f + 1)) + ulpF (f + 1) by omega, Int.pow_add, ← Int.mul_assoc]; exact Int.mul_emod_left ..
    obtain ⟨r1, r2, r3, r4, _⟩ := dc_unit (f := f + 1) (m := m) (ng := ng) (by omega) (by omega) hm (by omega) (ulpF (f + 1)) u un B hB
    rw [hB] at g2
    exact ⟨g1, r1, r2, r4, g2⟩
/-- The stage's theorem. -/
theorem ml_wide {f m a b A B : Int} (f0 : 0 ≤ f) (hf : f ≤ 2) (hm : m < 5) (a0 : 0 ≤ a) (a1 : a < full) (b0 : 0 ≤ b) (b1 : b < full) (ca : clsF f a ≤ 2) (cb : clsF f b ≤ 2)
    (A0 : 0 ≤ A) (A1 : A < full) (cA : clsF (f + 1) A ≤ 2) (nA : negF (f + 1) A = negF f a) (eA : uE (f + 1) A = uE f a) (sA : uS (f + 1) A = uS f a)
    (B0 : 0 ≤ B) (B1 : B < full) (cB : clsF (f + 1) B ≤ 2) (nB : negF (f + 1) B = negF f b) (eB : uE (f + 1) B = uE f b) (sB : uS (f + 1) B = uS f b) : ∀ P, mlB (f + 1) m A B = P →
    (∀ t, mlFl (f + 1) m t A B = 0) ∧ 0 ≤ P ∧ P < full ∧ pkB f m (negF (f + 1) P) (uE (f + 1) P) (uS (f + 1) P * full) = mlB f m a b ∧ ∀ t, pkFl f m t (negF (f + 1) P) (uE (f + 1) P) (uS (f + 1) P * full) = mlFl f m t a b := by
  intro P hP
  have n : mlN (f + 1) A B = mlN f a b := by unfold mlN; rw [nA, nB]
  have vA : vF (f + 1) A = vF f a := by unfold vF; rw [eA, sA]
  have vB : vF (f + 1) B = vF f b := by unfold vF; rw [eB, sB]
  obtain ⟨e1, e2⟩ := ml_fin (m := m) (show 0 ≤ f + 1 by omega) (show f + 1 < 4 by omega) hm A0 A1 B0 B1 cA cB
  obtain ⟨g1, g2⟩ := ml_val (f := f + 1) (m := m) (ng := mlN f a b) (by omega) (by omega) A0 B0 cA cB
  obtain ⟨h1, h2⟩ := ml_fin (m := m) f0 (show f < 4 by omega) hm a0 a1 b0 b1 ca cb
  obtain ⟨k1, k2⟩ := ml_val (f := f) (m := m) (ng := mlN f a b) f0 (by omega) a0 b0 ca cb
  obtain ⟨q, sc, F⟩ := wide_fits (m := m) (ng := mlN f a b) f0 hf hm a0 b0 ca cb
  rw [vA, vB] at g1 g2
  rw [n] at e1 e2
  have p : dcB (f + 1) m (mlN f a b) q (-1099511628031) false = P := by rw [← (sc (f + 1) (by omega)).1, ← g1, ← e1]; exact hP
  obtain ⟨fl, P0, P1, nP, vP⟩ := F P p
  obtain ⟨u1, u2⟩ := pk_vF (f := f) (g := f + 1) (m := m) (ng := mlN f a b) f0 (by omega) P0
  rw [vP] at u1 u2
  refine ⟨fun t => by rw [e2, g2, (sc (f + 1) (by omega)).2, fl], P0, P1, ?_, fun t => ?_⟩
  · rw [nP, u1, h1, k1, (sc f f0).1]
  · rw [nP, u2, h2, k2, (sc f f0).2]

end Go.Proofs.YtjnohbpebdnngaaGreatDoor
