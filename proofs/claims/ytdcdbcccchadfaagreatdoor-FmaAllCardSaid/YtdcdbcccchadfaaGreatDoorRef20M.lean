import Derived.Test.YtdcdbcccchadfaaGreatDoorRef18S
import Derived.Test.YtdcdbcccchadfaaGreatDoorFma20M
set_option linter.unusedVariables false
set_option linter.unusedSimpArgs false
set_option maxRecDepth 100000
namespace Go.Proofs.YtdcdbcccchadfaaGreatDoor
open Go.RowKit
theorem rg_exact {f a b c : Int} (f0 : 0 ≤ f) (hf : f < 4) (a0 : 0 ≤ a) (b0 : 0 ≤ b) (c0 : 0 ≤ c) (ca : clsF f a ≤ 2) (cb : clsF f b ≤ 2) (cc : clsF f c ≤ 2) : ∀ X Y E, rfE (uX f a + uX f b) (uX f c) = E → rfX (uM f a * uM f b) (uX f a + uX f b) E = X → rfX (uM f c) (uX f c) E = Y →
    fmX f a b c = rfQ (mlN f a b) (negF f c) X Y * 2 ^ (E + 1099511628031).toNat ∧ (rfQ (mlN f a b) (negF f c) X Y = 0 ↔ fmX f a b c = 0) ∧ (rfQ (mlN f a b) (negF f c) X Y ≠ 0 → rfN (mlN f a b) (negF f c) X Y = fmT f a b c) ∧ -40000 ≤ E := by
  intro X Y E hE hX hY
  obtain ⟨p0, p1, p2, p3, p4, p5, p6, p7, p8⟩ := f_nums f0 hf
  obtain ⟨_, ma0, ma1, xa0, xa1⟩ := vF_val f0 hf a0 ca
  obtain ⟨_, mb0, mb1, xb0, xb1⟩ := vF_val f0 hf b0 cb
  obtain ⟨vc, mc0, mc1, xc0, xc1⟩ := vF_val f0 hf c0 cc
  have vp := pF_val f0 hf a0 b0 ca cb
  have hE2 : E ≤ uX f a + uX f b ∧ E ≤ uX f c ∧ -40000 ≤ E := by rw [← hE]; unfold rfE; split <;> omega
  have hp := two_pow_pos (E + 1099511628031).toNat
  have eA : pF f a b = X * 2 ^ (E + 1099511628031).toNat := by
    rw [vp, ← hX]; unfold rfX; rw [Int.mul_assoc (uM f a * uM f b), ← Int.pow_add]; congr 2; omega
  have eB : vF f c = Y * 2 ^ (E + 1099511628031).toNat := by
    rw [vc, ← hY]; unfold rfX; rw [Int.mul_assoc, ← Int.pow_add]; congr 2; omega
  have lt : pF f a b < vF f c ↔ X < Y := by rw [eA, eB]; exact Int.mul_lt_mul_right hp
  have eX : fmX f a b c = rfQ (mlN f a b) (negF f c) X Y * 2 ^ (E + 1099511628031).toNat := by
    unfold fmX rfQ
    by_cases h : mlN f a b = negF f c
    · rw [if_pos h, if_pos h, eA, eB, Int.add_mul]
    · rw [if_neg h, if_neg h]
      by_cases l : X < Y
      · rw [if_pos (lt.2 l), if_pos l, eA, eB, Int.sub_mul]
      · rw [if_neg (fun k => l (lt.1 k)), if_neg l, eA, eB, Int.sub_mul]
  refine ⟨eX, ?_, ?_, hE2.2.2⟩
  · rw [eX, Int.mul_eq_zero]
    exact ⟨.inl, fun h => h.resolve_right (pow_pos' _)⟩
  · intro _
    rw [fmT_eq]; unfold rfN
    by_cases h : mlN f a b = negF f c
    · rw [if_pos h, if_pos h]
    · rw [if_neg h, if_neg h]
      by_cases l : X < Y
      · rw [if_pos l, if_pos (lt.2 l)]
      · rw [if_neg l, if_neg (fun k => l (lt.1 k))]
theorem rg_fma {f m a b c : Int} (f0 : 0 ≤ f) (hf : f < 4) (a0 : 0 ≤ a) (b0 : 0 ≤ b) (c0 : 0 ≤ c) (ca : clsF f a ≤ 2) (cb : clsF f b ≤ 2) (cc : clsF f c ≤ 2) : ∀ X Y E Q n, rfX (uM f a * uM f b) (uX f a + uX f b) (rfE (uX f a + uX f b) (uX f c)) = X → rfX (uM f c) (uX f c) (rfE (uX f a + uX f b) (uX f c)) = Y → rfE (uX f a + uX f b) (uX f c) = E → rfQ (mlN f a b) (negF f c) X Y = Q → (if Q = 0 then noM m (mlN f a b) (negF f c) else rfN (mlN f a b) (negF f c) X Y) = n →
    dcB f m n Q E false = pkB f m (fmN f m a b c) (fmE f a b c) (fmS f a b c) ∧ ∀ t, dcFl f m t n Q E false = pkFl f m t (fmN f m a b c) (fmE f a b c) (fmS f a b c) := by
  intro X Y E Q n hX hY hE hQ hn
  rw [hE] at hX hY
  obtain ⟨eX, ez, en, hE2⟩ := rg_exact f0 hf a0 b0 c0 ca cb cc X Y E hE hX hY
  obtain ⟨d1, d2, d3⟩ := fm_exact (m := m) (ng := fmN f m a b c) f0 a0 b0 c0
  have pn := pF_nonneg (f := f) f0 a0 b0
  have vn := vF_nonneg (f := f) f0 c0
  have q0 : 0 ≤ Q := by
    have h : 0 ≤ fmX f a b c := by unfold fmX; repeat' split
                                   all_goals omega
    rw [eX, hQ] at h
    exact Int.nonneg_of_mul_nonneg_left h (two_pow_pos _)
  have nn : n = fmN f m a b c := by
    rw [← hn]; unfold fmN
    rw [hQ] at ez en
    by_cases z : Q = 0
    · rw [if_pos z, if_pos (d3.2 (ez.1 z))]
    · rw [if_neg z, if_neg (fun k => z (ez.2 (d3.1 k)))]; exact en z
  have sc := dc_scale (f := f) (m := m) (E := E) (ng := fmN f m a b c) (E + 1099511628031).toNat q0
  rw [show E - (((E + 1099511628031).toNat : Nat) : Int) = -1099511628031 by omega, ← hQ, ← eX] at sc
  rw [nn, d1, ← hQ]
  exact ⟨sc.1.symm, fun t => by rw [d2]; exact (sc.2 t).symm⟩
end Go.Proofs.YtdcdbcccchadfaaGreatDoor
