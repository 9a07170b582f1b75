import Derived.Test.YtdcdbcccchadfaaGreatDoorFma20L
import Derived.Test.YtdcdbcccchadfaaGreatDoorAdd18F
import Derived.Test.YtdcdbcccchadfaaGreatDoorRest0
set_option linter.unusedVariables false
set_option linter.unusedSimpArgs false
set_option maxRecDepth 100000
namespace Go.Proofs.YtdcdbcccchadfaaGreatDoor
open Go.RowKit
theorem two_dvd {i j : Nat} (h : i ≤ j) : (2 : Int) ^ i ∣ 2 ^ j := ⟨2 ^ (j - i), by rw [← Int.pow_add]; congr 1; omega⟩
theorem near_cut {q : Int} {d : Nat} {m : Int} {ng : Bool} (d1 : 1 ≤ d) (hm : m = 0 ∨ m = 1) :
    (cutQ q d false m ng = q / 2 ^ d ∧ 2 * (q % 2 ^ d) ≤ 2 ^ d) ∨ (cutQ q d false m ng = q / 2 ^ d + 1 ∧ 2 ^ d ≤ 2 * (q % 2 ^ d)) := by
  have e : (2 : Int) ^ d = 2 ^ (d - 1) * 2 := pow_top d1
  have r0 := Int.emod_nonneg q (pow_pos' d)
  unfold cutQ
  rw [floor_pos (by omega), Int.toNat_natCast]
  by_cases h : nextM m ng (decide (q / 2 ^ d % 2 = 1)) (restQ q d false) = true
  · rw [if_pos h]
    refine .inr ⟨rfl, ?_⟩
    apply Classical.byContradiction; intro k
    have rq : restQ q d false = 0 ∨ restQ q d false = 1 := by
      unfold restQ; rw [if_neg (by omega), Int.toNat_natCast]
      by_cases z : q % 2 ^ d = 0
      · rw [if_pos ⟨z, rfl⟩]; exact .inl rfl
      · rw [if_neg (fun w => z w.1), if_pos (by omega)]; exact .inr rfl
    rcases hm with rfl | rfl <;> rcases rq with rq | rq <;> rw [rq] at h <;> revert h <;> unfold nextM <;> simp
  · rw [if_neg h]
    refine .inl ⟨rfl, ?_⟩
    apply Classical.byContradiction; intro k
    have rq : restQ q d false = 3 := by
      unfold restQ; rw [if_neg (by omega), Int.toNat_natCast, if_neg (by omega), if_neg (by omega), if_neg (by omega)]
    apply h
    rcases hm with rfl | rfl <;> rw [rq] <;> unfold nextM <;> simp
theorem dc_near {f m q : Int} {ng : Bool} (f0 : 0 ≤ f) (hf : f < 4) (hm : m = 0 ∨ m = 1) (q0 : 0 < q) (e0 : 1 - fE f ≤ dcE q (-1099511628031)) (d : Nat) (hd : (d : Int) = blen q - fP f) (d1 : 1 ≤ d) : ∀ B, dcB f m ng q (-1099511628031) false = B → clsF f B ≤ 2 →
    ∃ N, vF f B = N * 2 ^ d ∧ ((N = q / 2 ^ d ∧ 2 * (q % 2 ^ d) ≤ 2 ^ d) ∨ (N = q / 2 ^ d + 1 ∧ 2 ^ d ≤ 2 * (q % 2 ^ d))) ∧ dcE q (-1099511628031) ≤ fE f ∧ ∀ t, dcFl f m t ng q (-1099511628031) false = 0 ↔ q % 2 ^ d = 0 := by
  intro B hB cB
  obtain ⟨p0, p1, p2, p3, p4, p5, p6, p7, p8⟩ := f_nums f0 hf
  have hm5 : m < 5 := by omega
  have Z : ¬ (q = 0 ∧ false = false) := fun h => by omega
  have FM : (f < 4 ∧ m < 5) ∧ ¬ (q = 0 ∧ false = false) := ⟨⟨hf, hm5⟩, Z⟩
  have eE : dcE q (-1099511628031) = blen q - 1 + -1099511628031 := rfl
  have L : pkL f (dcE q (-1099511628031)) = dcE q (-1099511628031) := by rcases pkL_cases f (dcE q (-1099511628031)) with h | h <;> omega
  have U : dcU f q (-1099511628031) = d := by unfold dcU; rw [L]; omega
  have ov : ¬ (fE f : Int) < dcA f m ng q (-1099511628031) false := fun h => by
    have b : B = infF f ng := by
      rw [← hB]; unfold dcB; rw [if_pos ⟨hf, hm5⟩, if_neg Z, if_pos h, (over_inf ⟨hf, hm5⟩ (by rcases hm with rfl | rfl <;> rfl)).1]
    rw [b, (inf_cls f0 hf ng).1] at cB; omega
  obtain ⟨c0, c1, cA⟩ := dcA_cases f0 hf q0 m ng (-1099511628031) false
  have bv : B = ptF f ng (dcE q (-1099511628031)) (cutQ q d false m ng) := by
    rw [← hB]; unfold dcB; rw [if_pos ⟨hf, hm5⟩, if_neg Z, if_neg ov, U, L]
  have fl : ∀ t, dcFl f m t ng q (-1099511628031) false = 0 ↔ q % 2 ^ d = 0 := fun t => by
    have rz := rest_zero (q := q) (n := (d : Int)) (by omega)
    rw [Int.toNat_natCast] at rz
    unfold dcFl
    rw [if_pos FM, if_neg ov, U, ← rz]
    by_cases z : restQ q d false = 0
    · rw [if_pos z]; exact ⟨fun _ => z, fun _ => rfl⟩
    · rw [if_neg z]
      refine ⟨fun h => ?_, fun h => absurd h z⟩
      exfalso; revert h; repeat' split
      all_goals decide
  rw [← hd] at c0 c1 cA
  have e1 : dcE q (-1099511628031) ≤ fE f := by rcases cA with ⟨h, _⟩ | ⟨h, _⟩ <;> omega
  refine ⟨cutQ q d false m ng, ?_, near_cut d1 hm, e1, fl⟩
  have tp := pow_top (show 1 ≤ fP f by omega)
  rcases cA with ⟨h1, _, h3⟩ | ⟨h1, _, h3⟩
  · have nl : cutQ q d false m ng < 2 ^ fP f := by omega
    rw [bv, pt_nor f0 hf ng c0 nl (by omega) (by omega)]
    generalize cutQ q d false m ng = N at *
    obtain ⟨a1, a2, _⟩ := make_fields f0 hf ng (dcE q (-1099511628031) + fE f) N
    rw [expOf_id f0 hf (by omega) (by omega)] at a1
    rw [show N = (N - 2 ^ (fP f - 1)) + 2 ^ (fP f - 1) by omega, Int.add_emod_right, Int.emod_eq_of_lt (by omega) (by omega), show N - 2 ^ (fP f - 1) + 2 ^ (fP f - 1) = N by omega] at a2
    have c : clsF f (makeF f ng (dcE q (-1099511628031) + fE f) N) = 2 := (cls_2 hf).2 ⟨by omega, by omega⟩
    have v := (vF_val f0 hf (make_full f0 ng (dcE q (-1099511628031) + fE f) N).1 (by omega)).1
    rw [v]
    unfold uM uX
    rw [if_neg (by omega), if_neg (by omega), a1, a2, show N - 2 ^ (fP f - 1) + 2 ^ (fP f - 1) = N by omega,
      show (dcE q (-1099511628031) + (fE f : Int) - fE f - ((fP f - 1 : Nat) : Int) + 1099511628031).toNat = d by omega]
  · rw [bv, h3, pt_top f0 hf ng e0 (by omega)]
    obtain ⟨a1, a2, _⟩ := make_fields f0 hf ng (dcE q (-1099511628031) + fE f + 1) (2 ^ (fP f - 1))
    rw [expOf_id f0 hf (by omega) (by omega)] at a1
    rw [Int.emod_self] at a2
    have c : clsF f (makeF f ng (dcE q (-1099511628031) + fE f + 1) (2 ^ (fP f - 1))) = 2 := (cls_2 hf).2 ⟨by omega, by omega⟩
    have v := (vF_val f0 hf (make_full f0 ng (dcE q (-1099511628031) + fE f + 1) (2 ^ (fP f - 1))).1 (by omega)).1
    rw [v]
    unfold uM uX
    rw [if_neg (by omega), if_neg (by omega), a1, a2, Int.zero_add,
      show (dcE q (-1099511628031) + (fE f : Int) + 1 - fE f - ((fP f - 1 : Nat) : Int) + 1099511628031).toNat = 1 + d by omega, Int.pow_add, ← Int.mul_assoc]
    congr 1
    rw [Int.pow_one, tp]
theorem fma_rest {f m a b : Int} (f0 : 0 ≤ f) (hf : f < 4) (hm : m = 0 ∨ m = 1) (a0 : 0 ≤ a) (a1 : a < full) (b0 : 0 ≤ b) (b1 : b < full) (ca : clsF f a = 1 ∨ clsF f a = 2) (cb : clsF f b = 1 ∨ clsF f b = 2) (he : 2 * (fP f : Int) - fE f ≤ uE f a + uE f b) : ∀ B, mlB f m a b = B → clsF f B ≤ 2 → 0 ≤ B → B < full →
    ∀ R, fmB f m a b (turnF f B) = R → 0 ≤ R ∧ R < full ∧ (∀ t, fmFl f m t a b (turnF f B) = 0) ∧ ∀ t, (clsF f R = 0 ↔ mlFl f m t a b = 0) := by
  intro B hB cB B0 B1 R hR
  obtain ⟨p0, p1, p2, p3, p4, p5, p6, p7, p8⟩ := f_nums f0 hf
  have hm5 : m < 5 := by omega
  obtain ⟨va, m0, m1, x0, x1⟩ := vF_val f0 hf a0 (by omega)
  obtain ⟨vb, n0, n1, y0, y1⟩ := vF_val f0 hf b0 (by omega)
  have ma : uM f a ≠ 0 := fun h => by
    rw [h, Int.zero_mul] at va
    have := (vF_zero f0 hf a0 (by omega)).1 va; omega
  have mb : uM f b ≠ 0 := fun h => by
    rw [h, Int.zero_mul] at vb
    have := (vF_zero f0 hf b0 (by omega)).1 vb; omega
  have xa : uE f a = uX f a + blen (uM f a) - 1 := by unfold uE; rw [if_pos ca]
  have xb : uE f b = uX f b + blen (uM f b) - 1 := by unfold uE; rw [if_pos cb]
  have la := blen_le m0 m1; have lb := blen_le n0 n1
  have pv := pF_val f0 hf a0 b0 (show clsF f a ≤ 2 by omega) (show clsF f b ≤ 2 by omega)
  obtain ⟨j, hj⟩ : ∃ j : Nat, (j : Int) = uX f a + uX f b + 1099511628031 := ⟨(uX f a + uX f b + 1099511628031).toNat, by omega⟩
  rw [show (uX f a + uX f b + 1099511628031).toNat = j by omega] at pv
  have M0 : 0 < uM f a * uM f b := Int.mul_pos (by omega) (by omega)
  have ML : (blen (uM f a) : Int) + blen (uM f b) - 1 ≤ blen (uM f a * uM f b) ∧ blen (uM f a * uM f b) ≤ blen (uM f a) + blen (uM f b) := by
    have pa := blen_pos (show 0 < uM f a by omega); have pb := blen_pos (show 0 < uM f b by omega)
    have ha := blen_low (show 0 < uM f a by omega); have hb := blen_low (show 0 < uM f b by omega)
    have ua := lt_blen (uM f a) m0; have ub := lt_blen (uM f b) n0
    constructor
    · have h1 : (2 : Int) ^ (blen (uM f a) - 1) * 2 ^ (blen (uM f b) - 1) ≤ uM f a * uM f b := Int.mul_le_mul ha hb (by have := two_pow_pos (blen (uM f b) - 1); omega) (by omega)
      rw [← Int.pow_add] at h1
      have := blen_above h1
      omega
    · have h1 : uM f a * uM f b ≤ 2 ^ blen (uM f a) * uM f b := Int.mul_le_mul_of_nonneg_right (by omega) n0
      have h2 : (2 : Int) ^ blen (uM f a) * uM f b < 2 ^ blen (uM f a) * 2 ^ blen (uM f b) := Int.mul_lt_mul_of_pos_left ub (two_pow_pos _)
      rw [← Int.pow_add] at h2
      exact blen_le (by omega) (by omega)
  generalize uM f a * uM f b = MM at *
  have hp := two_pow_pos j
  have P0 : 0 < pF f a b := by rw [pv]; exact Int.mul_pos M0 hp
  have bl : blen (pF f a b) = blen MM + j := by rw [pv]; exact blen_shl M0 j
  have eP : dcE (pF f a b) (-1099511628031) = blen (pF f a b) - 1 + -1099511628031 := rfl
  have ul := ulpF_eq f0 hf
  obtain ⟨d, hd⟩ : ∃ d : Nat, (d : Int) = blen (pF f a b) - fP f := ⟨blen (pF f a b) - fP f, by omega⟩
  obtain ⟨g1, g2⟩ := ml_fin (m := m) f0 hf hm5 a0 a1 b0 b1 (show clsF f a ≤ 2 by omega) (show clsF f b ≤ 2 by omega)
  obtain ⟨d1, d2⟩ := ml_dc (f := f) (m := m) (ng := mlN f a b) f0 a0 b0
  have hB' : dcB f m (mlN f a b) (pF f a b) (-1099511628031) false = B := by rw [← d1, ← g1]; exact hB
  obtain ⟨N, vB, hN, e1, fl⟩ := dc_near f0 hf hm P0 (by omega) d hd (by omega) B hB' cB
  have un : ∀ x : Int, x % 2 ^ j = 0 → x % 2 ^ ulpF f = 0 := fun x h => by
    apply Int.emod_eq_zero_of_dvd
    exact Int.dvd_trans (two_dvd (show ulpF f ≤ j by omega)) (Int.dvd_of_emod_eq_zero h)
  have Pj : pF f a b % 2 ^ j = 0 := by rw [pv]; exact Int.mul_emod_left ..
  obtain ⟨_, _, _, nB, _⟩ := dc_unit (m := m) (ng := mlN f a b) f0 hf hm5 (show 0 ≤ pF f a b by omega) (ulpF f) ul (un _ Pj) B hB'
  obtain ⟨tc, te, ts, tn⟩ := turn_same f0 hf B0
  obtain ⟨t0, t1⟩ := turn_full (f := f) (b := B) f0
  have vT : vF f (turnF f B) = vF f B := by unfold vF; rw [te, ts]
  obtain ⟨r1, r2⟩ := fm_dc (m := m) f0 hf hm5 a0 a1 b0 b1 t0 t1 (show clsF f a ≤ 2 by omega) (show clsF f b ≤ 2 by omega) (by omega) _ rfl
  have X : fmX f a b (turnF f B) = if pF f a b < vF f B then vF f B - pF f a b else pF f a b - vF f B := by
    unfold fmX; rw [tn, nB, vT, if_neg (by cases mlN f a b <;> decide)]
  generalize (if fmX f a b (turnF f B) = 0 then noM m (mlN f a b) (negF f (turnF f B)) else if mlN f a b = negF f (turnF f B) then mlN f a b else if pF f a b < vF f (turnF f B) then negF f (turnF f B) else mlN f a b) = n at r1 r2
  rw [r1] at hR
  have dm := Int.emod_add_mul_ediv (pF f a b) (2 ^ d)
  have rr0 := Int.emod_nonneg (pF f a b) (pow_pos' d)
  have hpd := two_pow_pos d
  rw [Int.mul_comm] at dm
  have key : ∀ q, fmX f a b (turnF f B) = q → 0 ≤ q ∧ 2 * q ≤ 2 ^ d ∧ (q = 0 ↔ pF f a b % 2 ^ d = 0) ∧ (j < d → q % 2 ^ j = 0) := fun q hq => by
    rw [X, vB] at hq
    have dv : j < d → (N * 2 ^ d) % 2 ^ j = 0 := fun h => by
      rw [show d = (d - j) + j by omega, Int.pow_add, ← Int.mul_assoc]; exact Int.mul_emod_left ..
    have mods : j < d → q % 2 ^ j = 0 := fun h => by
      have h1 := Int.dvd_of_emod_eq_zero Pj; have h2 := Int.dvd_of_emod_eq_zero (dv h)
      apply Int.emod_eq_zero_of_dvd
      rw [← hq]; split
      · exact Int.dvd_sub h2 h1
      · exact Int.dvd_sub h1 h2
    rcases hN with ⟨h1, h2⟩ | ⟨h1, h2⟩
    · have : q = pF f a b % 2 ^ d := by rw [← hq, h1, if_neg (by omega)]; omega
      exact ⟨by omega, by omega, by omega, mods⟩
    · have rl := Int.emod_lt_of_pos (pF f a b) hpd
      have : q = 2 ^ d - pF f a b % 2 ^ d := by
        rw [← hq, h1, Int.add_mul, Int.one_mul, if_pos (by omega)]; omega
      exact ⟨by omega, by omega, by omega, mods⟩
  obtain ⟨k0, k1, k2, k3⟩ := key _ rfl
  generalize fmX f a b (turnF f B) = q at *
  have flm : ∀ t, mlFl f m t a b = 0 ↔ pF f a b % 2 ^ d = 0 := fun t => by rw [g2, d2]; exact fl t
  by_cases z : q = 0
  · subst z
    rw [dc_zero.1, if_pos ⟨hf, hm5⟩] at hR
    obtain ⟨w0, w1⟩ := make_full f0 (f := f) n 0 0
    rw [← hR]
    refine ⟨w0, w1, fun t => by rw [r2, dc_zero.2], fun t => ?_⟩
    rw [flm]
    exact ⟨fun _ => k2.1 rfl, fun _ => (nought_cls f0 hf n).1⟩
  · have jd : j < d := by
      apply Classical.byContradiction; intro h
      apply z; rw [k2]
      apply Int.emod_eq_zero_of_dvd
      exact Int.dvd_trans (two_dvd (show d ≤ j by omega)) (Int.dvd_of_emod_eq_zero Pj)
    have qj := k3 jd
    obtain ⟨M, hM⟩ : ∃ M, q = M * 2 ^ j := by
      obtain ⟨c, hc⟩ := Int.dvd_of_emod_eq_zero qj
      exact ⟨c, by rw [hc, Int.mul_comm]⟩
    have Mp : 0 < M := by
      have : 0 < M * 2 ^ j := by omega
      exact Int.pos_of_mul_pos_left this hp
    have Ml : M < 2 ^ fP f := by
      have e2 : (2 : Int) ^ d = 2 ^ (d - 1 - j) * 2 * 2 ^ j := by rw [← Int.pow_succ, ← Int.pow_add]; congr 1; omega
      have h1 : M * 2 ^ j ≤ 2 ^ (d - 1 - j) * 2 ^ j := by
        have : 2 ^ (d - 1 - j) * 2 * 2 ^ j = 2 * (2 ^ (d - 1 - j) * (2 : Int) ^ j) := by rw [Int.mul_comm (2 ^ (d - 1 - j)) 2, Int.mul_assoc]
        omega
      have h2 : M ≤ 2 ^ (d - 1 - j) := Int.le_of_mul_le_mul_right h1 hp
      have h3 := two_pow_le (show d - 1 - j ≤ fP f - 1 by omega)
      have := pow_top (show 1 ≤ fP f by omega)
      have := two_pow_pos (fP f - 1)
      omega
    have ql : dcE q (-1099511628031) ≤ fE f := by
      have : q < 2 ^ d := by omega
      have := blen_le k0 this
      have eq : dcE q (-1099511628031) = blen q - 1 + -1099511628031 := rfl
      omega
    obtain ⟨f1, f2⟩ := dc_fits (m := m) (ng := n) f0 hf hm5 hM Mp Ml (by omega) ql
    obtain ⟨w0, w1, _, _, _, w5, _⟩ := dc_unit (m := m) (ng := n) f0 hf hm5 k0 (ulpF f) ul (un _ qj) R hR
    refine ⟨w0, w1, fun t => by rw [r2]; exact f1 t, fun t => ?_⟩
    rw [flm, w5]; exact k2
end Go.Proofs.YtdcdbcccchadfaaGreatDoor
