import Derived.Laws.EntriesVeiled
import Derived.Test.YtjdjonekoodalaaGreatDoorGzB
set_option linter.unusedVariables false
set_option linter.unusedSimpArgs false
set_option maxRecDepth 100000
namespace Go.Proofs.YtjdjonekoodalaaGreatDoor
open Go.RowKit
theorem rm_sum {f m x y : Int} {t : Bool} (f0 : 0 ≤ f) (hf : f < 4) (hm : m < 5) (x0 : 0 ≤ x) (x1 : x < full) (y0 : 0 ≤ y) (y1 : y < full) (cx : clsF f x ≤ 2) (cy : clsF f y ≤ 2) (s : Bool) (fl : adFl f m t x y s = 0) :
    ∀ B, adB f m x y s = B → 0 ≤ B ∧ B < full ∧ clsF f B ≤ 2 ∧ ∀ D, D ∣ vF f x → D ∣ vF f y → D ∣ vF f B := by
  intro B hB
  obtain ⟨d1, d2⟩ := ad_dc (m := m) f0 hf hm x0 x1 y0 y1 cx cy (s := s) _ rfl
  generalize (if adX f x y s = 0 then noM m (negF f x) s else if negF f x = s then negF f x else if vF f x < vF f y then s else negF f x) = ng at d1 d2
  rw [d2] at fl
  rw [d1] at hB
  have X : adX f x y s = vF f x + vF f y ∨ adX f x y s = vF f x - vF f y ∨ adX f x y s = vF f y - vF f x := by
    unfold adX
    split
    · exact .inl rfl
    · split
      · exact .inr (.inr rfl)
      · exact .inr (.inl rfl)
  have vx := vF_nonneg (f := f) f0 x0
  have vy := vF_nonneg (f := f) f0 y0
  have nn : 0 ≤ adX f x y s := by
    unfold adX
    split
    · omega
    · split <;> omega
  have dv : ∀ D, D ∣ vF f x → D ∣ vF f y → D ∣ adX f x y s := fun D h1 h2 => by
    rcases X with e | e | e <;> rw [e]
    · exact Int.dvd_add h1 h2
    · exact Int.dvd_sub h1 h2
    · exact Int.dvd_sub h2 h1
  by_cases z : adX f x y s = 0
  · rw [z, dc_zero.1, if_pos ⟨hf, hm⟩] at hB
    obtain ⟨g0, g1⟩ := make_full f0 (f := f) ng 0 0
    obtain ⟨k, n⟩ := nought_cls f0 hf ng
    rw [hB] at g0 g1 k n
    refine ⟨g0, g1, by omega, fun D h1 h2 => ?_⟩
    rw [(vF_zero f0 hf g0 (by omega)).2 k]
    exact Int.dvd_zero D
  · have u := ulpF_eq f0 hf
    have un := dv _ (vF_unit f0 hf x0 cx) (vF_unit f0 hf y0 cy)
    have b := blen_above (Int.le_of_dvd (by omega) un)
    obtain ⟨p0, p1, p2, p3, p4, p5, p6, p7, p8⟩ := f_nums f0 hf
    obtain ⟨g1, g2, g3, _, g5, _⟩ := dc_exactN f0 hf hm (show 0 < adX f x y s by omega) (by omega) fl B hB
    exact ⟨g1, g2, g3, fun D h1 h2 => by rw [g5]; exact dv D h1 h2⟩
theorem rm_prod {f m p b : Int} {t : Bool} (f0 : 0 ≤ f) (hf : f < 4) (hm : m < 5) (pp : plainF f p) (cp : clsF f p = 2) (b0 : 0 ≤ b) (b1 : b < full) (cb : clsF f b = 1 ∨ clsF f b = 2) (J : Nat) (hJ : (J : Int) = 1099511628031) (j : Nat) (vp : vF f p = 2 ^ j * 2 ^ J) (fl : mlFl f m t p b = 0) :
    ∀ B, mlB f m p b = B → 0 ≤ B ∧ B < full ∧ clsF f B ≤ 2 ∧ vF f b ∣ vF f B := by
  intro B hB
  obtain ⟨a0, a1, c2, na, cut⟩ := pp
  obtain ⟨e1, e2⟩ := ml_fin (m := m) f0 hf hm a0 a1 b0 b1 c2 (show clsF f b ≤ 2 by omega)
  obtain ⟨g1, g2⟩ := ml_dc (f := f) (m := m) (ng := mlN f p b) f0 a0 b0
  have pv := pF_vF f0 hf a0 b0 c2 (show clsF f b ≤ 2 by omega) J hJ
  obtain ⟨p0, p1, p2, p3, p4, p5, p6, p7, p8⟩ := f_nums f0 hf
  obtain ⟨va, _, _, xa0, xa1⟩ := vF_val f0 hf a0 c2
  obtain ⟨vb, _, _, xb0, xb1⟩ := vF_val f0 hf b0 (show clsF f b ≤ 2 by omega)
  obtain ⟨mp, _⟩ := um_pos f0 hf a0 (.inr cp)
  obtain ⟨mq, _⟩ := um_pos f0 hf b0 cb
  have ep := pF_val f0 hf a0 b0 c2 (show clsF f b ≤ 2 by omega)
  have mm := Int.mul_pos mp mq
  have bl : blen (pF f p b) = blen (uM f p * uM f b) + (uX f p + uX f b + 1099511628031).toNat := by rw [ep]; exact blen_shl mm _
  have pq : 0 < pF f p b := by rw [ep]; exact Int.mul_pos mm (two_pow_pos _)
  rw [e2, g2] at fl
  rw [e1, g1] at hB
  obtain ⟨q1, q2, q3, _, q5, _⟩ := dc_exactN f0 hf hm pq (by omega) fl B hB
  have hp := two_pow_pos J
  have e : pF f p b = 2 ^ j * vF f b := by
    apply Int.eq_of_mul_eq_mul_right (show (2 : Int) ^ J ≠ 0 by omega)
    rw [pv, vp, Int.mul_assoc, Int.mul_assoc, Int.mul_comm (2 ^ J) (vF f b)]
  refine ⟨q1, q2, q3, ?_⟩
  rw [q5, e]
  exact Int.dvd_mul_left ..
def p2F (f : Int) (j : Nat) : Int := makeF f false (fE f + j) 0
theorem p2_is {f : Int} (f0 : 0 ≤ f) (hf : f < 4) (J : Nat) (hJ : (J : Int) = 1099511628031) (j : Nat) (hj : j ≤ 11) : plainF f (p2F f j) ∧ clsF f (p2F f j) = 2 ∧ vF f (p2F f j) = 2 ^ j * 2 ^ J := by
  obtain ⟨p0, p1, p2, p3, p4, p5, p6, p7, p8⟩ := f_nums f0 hf
  have hp := two_pow_pos (fP f - 1)
  obtain ⟨h1, h2, _, _, h5⟩ := mk_nor f0 hf (y := fE f + j) (k := 0) (by omega) (by omega) (by omega) (by omega) (p2F f j) rfl
  refine ⟨h1, h2, ?_⟩
  rw [h5, Int.zero_add, ← Int.pow_add, ← Int.pow_add]
  congr 1
  omega
theorem p2_twice {f : Int} (f0 : 0 ≤ f) (hf : f < 4) (j : Nat) (hj : j ≤ 10) : adB f 0 (p2F f j) (p2F f j) false = p2F f (j + 1) ∧ ∀ t, adFl f 0 t (p2F f j) (p2F f j) false = 0 := by
  obtain ⟨J, hJ⟩ : ∃ J : Nat, (J : Int) = 1099511628031 := ⟨1099511628031, rfl⟩
  obtain ⟨a1, _, a3⟩ := p2_is f0 hf J hJ j (by omega)
  obtain ⟨b1, _, b3⟩ := p2_is f0 hf J hJ (j + 1) (by omega)
  refine sum_is f0 hf (by decide) a1 a1 b1 ?_
  rw [a3, b3, Int.pow_succ, Int.mul_assoc, Int.mul_comm 2, ← Int.mul_assoc]
  omega
theorem low_bit : ∀ k : Fin 2001, k.val ≠ 0 → ∃ j : Fin 11, bits .and .i64 (k.val : Int) (-(k.val : Int)) = 2 ^ j.val ∧ (2 : Int) ^ j.val ≤ k.val := by decide +kernel
end Go.Proofs.YtjdjonekoodalaaGreatDoor
