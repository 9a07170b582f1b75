import Derived.Test.YtbighggnfkdncaaGreatDoorGxB
set_option linter.unusedVariables false
set_option linter.unusedSimpArgs false
set_option maxRecDepth 100000
namespace Go.Proofs.YtbighggnfkdncaaGreatDoor
open Go.RowKit
def lsF (f b : Int) : Int := adB (f + 1) 0 (makeF (f + 1) false (fE (f + 1)) (fracF f b * 2 ^ (fP (f + 1) - fP f))) (makeF (f + 1) false (fE (f + 1)) 0) true
def wdF (f b : Int) : Int := if 0 < expF f b then makeF (f + 1) false (expF f b - fE f + fE (f + 1)) (fracF f b * 2 ^ (fP (f + 1) - fP f)) else mlB (f + 1) 0 (lsF f b) (makeF (f + 1) false (1 - fE f + fE (f + 1)) 0)
theorem wide_nums {f : Int} (f0 : 0 ≤ f) (hf : f ≤ 2) : 2 * fP f ≤ fP (f + 1) ∧ 2 * fE f + 1 ≤ fE (f + 1) ∧ fP f + 2 * fE f + 64 ≤ fP (f + 1) + fE (f + 1) ∧ fP (f + 1) ≤ 113 := by
  obtain rfl | rfl | rfl : f = 0 ∨ f = 1 ∨ f = 2 := by omega
  all_goals decide
theorem frac_wide {f : Int} (f0 : 0 ≤ f) (hf : f ≤ 2) (b : Int) : 0 ≤ fracF f b * 2 ^ (fP (f + 1) - fP f) ∧ fracF f b * 2 ^ (fP (f + 1) - fP f) < 2 ^ (fP (f + 1) - 1) := by
  obtain ⟨k1, _, _, _⟩ := wide_nums f0 hf
  obtain ⟨p0, p1, p2, p3, p4, p5, p6, p7, p8⟩ := f_nums f0 (show f < 4 by omega)
  obtain ⟨r0, r1⟩ := frac_range (b := b) f0 (show f < 4 by omega)
  have hp := two_pow_pos (fP (f + 1) - fP f)
  refine ⟨Int.mul_nonneg r0 (by omega), ?_⟩
  have h := pow_lt_mul (fP (f + 1) - fP f) r1
  rw [← Int.pow_add, show fP f - 1 + (fP (f + 1) - fP f) = fP (f + 1) - 1 by omega] at h
  exact h
theorem wd_less {f b : Int} (f0 : 0 ≤ f) (hf : f ≤ 2) (b0 : 0 ≤ b) (cb : clsF f b = 1) (J : Nat) (hJ : (J : Int) = 1099511628031) : plainF (f + 1) (lsF f b) ∧ vF (f + 1) (lsF f b) = fracF f b * 2 ^ (J + 1 - fP f) := by
  have g0 : 0 ≤ f + 1 := by omega
  have hg : f + 1 < 4 := by omega
  obtain ⟨k1, k2, k3, k4⟩ := wide_nums f0 hf
  obtain ⟨p0, p1, p2, p3, p4, p5, p6, p7, p8⟩ := f_nums f0 (show f < 4 by omega)
  obtain ⟨x0, x1⟩ := frac_wide f0 hf b
  obtain ⟨z1, z2⟩ := (cls_1 (show f < 4 by omega)).1 cb
  obtain ⟨r0, r1⟩ := frac_range (b := b) f0 (show f < 4 by omega)
  have hp := two_pow_pos (fP (f + 1) - 1)
  obtain ⟨px, cx, _, _, vx⟩ := mk_nor g0 hg (y := fE (f + 1)) (k := fracF f b * 2 ^ (fP (f + 1) - fP f)) (by omega) (by omega) x0 x1 _ rfl
  obtain ⟨po, co, _, _, vo⟩ := mk_nor g0 hg (y := fE (f + 1)) (k := 0) (by omega) (by omega) (by omega) (by omega) _ rfl
  have e : (fE (f + 1) - fE (f + 1) - (fP (f + 1) - 1 : Nat) + 1099511628031 : Int).toNat = J + 1 - fP (f + 1) := by omega
  rw [e] at vx vo
  unfold lsF
  generalize makeF (f + 1) false (fE (f + 1)) (fracF f b * 2 ^ (fP (f + 1) - fP f)) = x at *
  generalize makeF (f + 1) false (fE (f + 1)) 0 = o at *
  have hj := two_pow_pos (J + 1 - fP (f + 1))
  have lt : ¬ vF (f + 1) x < vF (f + 1) o := by
    rw [vx, vo]
    have := Int.mul_le_mul_of_nonneg_right (show 0 + (2 : Int) ^ (fP (f + 1) - 1) ≤ fracF f b * 2 ^ (fP (f + 1) - fP f) + 2 ^ (fP (f + 1) - 1) by omega) (show (0 : Int) ≤ 2 ^ (J + 1 - fP (f + 1)) by omega)
    omega
  have X : adX (f + 1) x o true = fracF f b * 2 ^ (J + 1 - fP f) := by
    unfold adX
    rw [px.2.2.2.1, if_neg (by decide), if_neg lt, vx, vo, ← Int.sub_mul, show fracF f b * 2 ^ (fP (f + 1) - fP f) + 2 ^ (fP (f + 1) - 1) - (0 + 2 ^ (fP (f + 1) - 1)) = fracF f b * 2 ^ (fP (f + 1) - fP f) by omega, Int.mul_assoc, ← Int.pow_add]
    congr 2; omega
  have q0 : 0 < fracF f b * 2 ^ (J + 1 - fP f) := Int.mul_pos (by omega) (two_pow_pos _)
  obtain ⟨d1, _⟩ := ad_dc (m := 0) g0 hg (by decide) px.1 px.2.1 po.1 po.2.1 px.2.2.1 po.2.2.1 (s := true) false (by
    rw [X, if_neg (by omega), px.2.2.2.1, if_neg (by decide), if_neg lt])
  rw [X] at d1
  have u := ulpF_eq g0 hg
  have bl := blen_le r0 r1
  have bp := blen_pos (show 0 < fracF f b by omega)
  have bq := blen_shl (show 0 < fracF f b by omega) (J + 1 - fP f)
  obtain ⟨a1, a2, _⟩ := dc_fitsP (m := 0) (M := fracF f b) g0 hg (by decide) rfl (by omega) (by have := two_pow_le (show fP f - 1 ≤ fP (f + 1) by omega); omega) (show ulpF (f + 1) ≤ J + 1 - fP f by omega) (by omega) (by unfold dcE; omega) _ d1.symm
  exact ⟨a1, a2⟩
theorem wd_val {f b : Int} (f0 : 0 ≤ f) (hf : f ≤ 2) (b0 : 0 ≤ b) (cb : clsF f b = 1 ∨ clsF f b = 2) : plainF (f + 1) (wdF f b) ∧ vF (f + 1) (wdF f b) = vF f b := by
  have g0 : 0 ≤ f + 1 := by omega
  have hg : f + 1 < 4 := by omega
  obtain ⟨k1, k2, k3, k4⟩ := wide_nums f0 hf
  obtain ⟨p0, p1, p2, p3, p4, p5, p6, p7, p8⟩ := f_nums f0 (show f < 4 by omega)
  obtain ⟨x0, x1⟩ := frac_wide f0 hf b
  obtain ⟨y0, y1, y2, y3⟩ := exp_range f0 (show f < 4 by omega) b0
  obtain ⟨vb, mb0, mb1, xb0, xb1⟩ := vF_val f0 (show f < 4 by omega) b0 (show clsF f b ≤ 2 by omega)
  obtain ⟨J, hJ⟩ : ∃ J : Nat, (J : Int) = 1099511628031 := ⟨1099511628031, rfl⟩
  have hp := two_pow_pos (fP (f + 1) - 1)
  unfold wdF
  rcases cb with cb | cb
  · obtain ⟨z1, z2⟩ := (cls_1 (show f < 4 by omega)).1 cb
    obtain ⟨r0, r1⟩ := frac_range (b := b) f0 (show f < 4 by omega)
    rw [if_neg (by omega)]
    obtain ⟨pl, vl⟩ := wd_less f0 hf b0 cb J hJ
    obtain ⟨pp, cp, _, _, vp⟩ := mk_nor g0 hg (y := 1 - fE f + fE (f + 1)) (k := 0) (by omega) (by omega) (by omega) (by omega) _ rfl
    generalize lsF f b = l at *
    generalize makeF (f + 1) false (1 - fE f + fE (f + 1)) 0 = p at *
    have M : vF f b = fracF f b * 2 ^ (J + 2 - fP f - fE f) := by
      rw [vb]; unfold uM uX
      rw [if_pos z1, if_pos z1]
      congr 2; omega
    obtain ⟨e1, _⟩ := ml_fin (m := 0) g0 hg (by decide) pl.1 pl.2.1 pp.1 pp.2.1 pl.2.2.1 pp.2.2.1
    obtain ⟨e2, _⟩ := ml_dc (f := f + 1) (m := 0) (ng := mlN (f + 1) l p) (a := l) (b := p) g0 pl.1 pp.1
    have n : mlN (f + 1) l p = false := by unfold mlN; rw [pl.2.2.2.1, pp.2.2.2.1]; rfl
    have pv := pF_vF g0 hg pl.1 pp.1 pl.2.2.1 pp.2.2.1 J hJ
    have pe : pF (f + 1) l p = vF f b := by
      refine Int.eq_of_mul_eq_mul_right (a := 2 ^ J) (by have := two_pow_pos J; omega) ?_
      rw [pv, vl, vp, M, Int.zero_add, ← Int.pow_add, Int.mul_assoc, Int.mul_assoc, ← Int.pow_add, ← Int.pow_add]
      congr 2; omega
    rw [n, pe] at e2
    rw [n] at e1
    have u := ulpF_eq g0 hg
    have bl := blen_le r0 r1
    have bp := blen_pos (show 0 < fracF f b by omega)
    have bq := blen_shl (show 0 < fracF f b by omega) (J + 2 - fP f - fE f)
    rw [← M] at bq
    obtain ⟨a1, a2, _⟩ := dc_fitsP (m := 0) (M := fracF f b) g0 hg (by decide) M (by omega) (by have := two_pow_le (show fP f - 1 ≤ fP (f + 1) by omega); omega) (show ulpF (f + 1) ≤ J + 2 - fP f - fE f by omega) (by omega) (by unfold dcE; omega) _ (e1.trans e2).symm
    exact ⟨a1, a2⟩
  · obtain ⟨z1, z2⟩ := (cls_2 (show f < 4 by omega)).1 cb
    rw [if_pos (by omega)]
    obtain ⟨pp, cp, _, _, vp⟩ := mk_nor g0 hg (y := expF f b - fE f + fE (f + 1)) (k := fracF f b * 2 ^ (fP (f + 1) - fP f)) (by omega) (by omega) x0 x1 _ rfl
    refine ⟨pp, ?_⟩
    rw [vp, vb]
    unfold uM uX
    rw [if_neg z1, if_neg z1, show (2 : Int) ^ (fP (f + 1) - 1) = 2 ^ (fP f - 1) * 2 ^ (fP (f + 1) - fP f) by rw [← Int.pow_add]; congr 1; omega, ← Int.add_mul, Int.mul_assoc, ← Int.pow_add]
    congr 2; omega
theorem wd_square {f W n : Int} {c : Nat} (f0 : 0 ≤ f) (hf : f ≤ 2) (p : plainF (f + 1) W) (n0 : 0 < n) (n1 : n ≤ 2 ^ fP f) (l : Int) (l0 : 1 - fE f ≤ l) (l1 : l < fE f) (hc : (c : Int) = l - (fP f - 1 : Nat) + 1099511628031) (hv : vF (f + 1) W = n * 2 ^ c) (T : Nat) (hT : (T : Int) = 2 * l - 2 * fP f + 2 + 1099511628031) : plainF (f + 1) (mlB (f + 1) 0 W W) ∧ vF (f + 1) (mlB (f + 1) 0 W W) = n * n * 2 ^ T := by
  have g0 : 0 ≤ f + 1 := by omega
  have hg : f + 1 < 4 := by omega
  obtain ⟨k1, k2, k3, k4⟩ := wide_nums f0 hf
  obtain ⟨p0, p1, p2, p3, p4, p5, p6, p7, p8⟩ := f_nums f0 (show f < 4 by omega)
  obtain ⟨J, hJ⟩ : ∃ J : Nat, (J : Int) = 1099511628031 := ⟨1099511628031, rfl⟩
  obtain ⟨e1, _⟩ := ml_fin (m := 0) g0 hg (by decide) p.1 p.2.1 p.1 p.2.1 p.2.2.1 p.2.2.1
  obtain ⟨e2, _⟩ := ml_dc (f := f + 1) (m := 0) (ng := mlN (f + 1) W W) (a := W) (b := W) g0 p.1 p.1
  have n' : mlN (f + 1) W W = false := by unfold mlN; rw [p.2.2.2.1]; rfl
  have pv := pF_vF g0 hg p.1 p.1 p.2.2.1 p.2.2.1 J hJ
  have pe : pF (f + 1) W W = n * n * 2 ^ T := by
    refine Int.eq_of_mul_eq_mul_right (a := 2 ^ J) (by have := two_pow_pos J; omega) ?_
    rw [pv, hv, sq_scale, ← Int.pow_add, Int.mul_assoc (n * n), ← Int.pow_add]
    congr 2; omega
  rw [n', pe] at e2
  rw [n'] at e1
  have nn := Int.mul_pos n0 n0
  have n2 : n * n ≤ 2 ^ fP f * 2 ^ fP f := Int.mul_le_mul n1 n1 (by omega) (by have := two_pow_pos (fP f); omega)
  rw [← Int.pow_add] at n2
  have n3 := two_pow_le (show fP f + fP f + 1 ≤ fP (f + 1) by
    obtain rfl | rfl | rfl : f = 0 ∨ f = 1 ∨ f = 2 := by omega
    all_goals decide)
  have hq := two_pow_pos (fP f + fP f)
  rw [Int.pow_succ] at n3
  have u := ulpF_eq g0 hg
  have bl := blen_le (show 0 ≤ n * n by omega) (show n * n < 2 ^ (fP f + fP f + 1) by rw [Int.pow_succ]; omega)
  have bp := blen_pos nn
  have bq := blen_shl nn T
  obtain ⟨a1, a2, _⟩ := dc_fitsP (m := 0) (M := n * n) g0 hg (by decide) rfl nn (by omega) (show ulpF (f + 1) ≤ T by omega) (by omega) (by unfold dcE; omega) _ (e1.trans e2).symm
  exact ⟨a1, a2⟩
theorem sq_cut {f a : Int} {K : Int} (k : Nat) (hk : K = 2 ^ k) (f0 : 0 ≤ f) (hf : f < 4) (a0 : 0 ≤ a) (ca : clsF f a = 1 ∨ clsF f a = 2) : ∀ n, sqS f a / (K * full) = n → n * K * (n * K) ≤ sqN f a ∧ sqN f a < (n + 1) * K * ((n + 1) * K) ∧ (sqS f a % (K * full) = 0 ↔ n * K * (n * K) = sqN f a) := by
  intro n hn
  obtain ⟨n0, n1⟩ := sqN_range f0 hf a0 ca
  obtain ⟨hr, r0, r1⟩ := sq_root f0 hf a0 ca
  have hp := two_pow_pos 127
  obtain ⟨q0, q1, q2⟩ := hr
  rw [Int.pow_zero] at q2
  have K0 : 0 < K := hk ▸ two_pow_pos k
  have F : (1 : Int) < full := by decide
  have KF : 0 < K * full := Int.mul_pos K0 (by omega)
  have dm := Int.emod_add_mul_ediv (sqS f a) (K * full)
  have e0 := Int.emod_nonneg (sqS f a) (show K * full ≠ 0 by omega)
  have e1 := Int.emod_lt_of_pos (sqS f a) KF
  rw [hn] at dm
  have ex : exactN (sqN f a) = true ↔ rootN (sqN f a) * rootN (sqN f a) = sqN f a := by unfold exactN; exact beq_iff_eq
  have es : sqS f a = rootN (sqN f a) * full + (if exactN (sqN f a) then 0 else 1) := rfl
  generalize rootN (sqN f a) = r at *
  have sp : K * full * n = n * K * full := by rw [Int.mul_comm, ← Int.mul_assoc]
  rw [sp] at dm
  have b2 : (exactN (sqN f a) = true ∧ sqS f a = r * full) ∨ (exactN (sqN f a) ≠ true ∧ sqS f a = r * full + 1) := by
    by_cases x : exactN (sqN f a) = true
    · rw [if_pos x] at es; exact .inl ⟨x, by omega⟩
    · rw [if_neg x] at es; exact .inr ⟨x, es⟩
  have n1K : (n + 1) * K * full = n * K * full + K * full := by rw [Int.add_mul, Int.add_mul, Int.one_mul]
  have nn : 0 ≤ n := by rw [← hn]; exact Int.ediv_nonneg (by have := Int.mul_nonneg q0 (show 0 ≤ full by omega); omega) (by omega)
  have nK : 0 ≤ n * K := Int.mul_nonneg nn (by omega)
  have l1 : n * K ≤ r := by
    have : n * K * full < (r + 1) * full := by rw [Int.add_mul, Int.one_mul]; omega
    have := Int.lt_of_mul_lt_mul_right this (by omega)
    omega
  have l2 : r + 1 ≤ (n + 1) * K := by
    have : r * full < (n + 1) * K * full := by omega
    have := Int.lt_of_mul_lt_mul_right this (by omega)
    omega
  have m1 := sq_le nK l1
  have m2 := sq_le (show 0 ≤ r + 1 by omega) l2
  refine ⟨by omega, by omega, fun h => ?_, fun h => ?_⟩
  · rw [h] at dm
    have e : sqS f a = n * K * full := by omega
    rcases b2 with ⟨x, y⟩ | ⟨x, y⟩
    · have : r = n * K := Int.eq_of_mul_eq_mul_right (show full ≠ 0 by omega) (by omega)
      rw [← this]; exact ex.1 x
    · exfalso
      have z : (n * K - r) * full = 1 := by rw [Int.sub_mul]; omega
      rw [show full = 2 * 2 ^ 127 by decide +kernel, Int.mul_left_comm] at z
      omega
  · have e : n * K = r := by
      apply Classical.byContradiction; intro c
      have := sq_mono nK (show n * K < r by omega)
      omega
    have x := ex.2 (by rw [← e]; exact h)
    have y : sqS f a = n * K * full := by
      rcases b2 with ⟨_, y⟩ | ⟨z, _⟩
      · rw [y, e]
      · exact absurd x z
    omega
theorem sq_between {f a : Int} (f0 : 0 ≤ f) (hf : f ≤ 2) (pa : plainF f a) (ca : clsF f a = 1 ∨ clsF f a = 2) : ∀ R N X Y, sqB f 4 a = R → wdF f a = N → mlB (f + 1) 0 (wdF f R) (wdF f R) = X → mlB (f + 1) 0 (wdF f (R + 1)) (wdF f (R + 1)) = Y →
    0 ≤ R ∧ R + 1 < full ∧ clsF f R = 2 ∧ clsF f (R + 1) = 2 ∧ plainF (f + 1) (wdF f R) ∧ plainF (f + 1) (wdF f (R + 1)) ∧ plainF (f + 1) N ∧ plainF (f + 1) X ∧ plainF (f + 1) Y ∧ X ≤ N ∧ N < Y ∧ ∀ t, (X = N ↔ sqFl f 4 t a = 0) := by
  intro R N X Y hR hN hX hY
  have f4 : f < 4 := by omega
  have g0 : 0 ≤ f + 1 := by omega
  have hg : f + 1 < 4 := by omega
  obtain ⟨a0, a1, _, na, cut⟩ := pa
  obtain ⟨p0, p1, p2, p3, p4, p5, p6, p7, p8⟩ := f_nums f0 f4
  obtain ⟨s0, s1⟩ := sqS_range f0 f4 a0 ca
  obtain ⟨q1, q2⟩ := sq_num (m := 4) f4 (by decide) a0 a1 ca na
  obtain ⟨r1, r2, x0, x1, n0, n1, _, _⟩ := sq_pt (m := 4) f0 f4 (by decide) a0 ca
  have er := sqE_range (f := f) f0 a0
  have c4 : cutQ (sqS f a) (256 - fP f) false 4 false = floorQ (sqS f a) (256 - fP f) := by unfold cutQ nextM; rw [if_neg]; split <;> simp
  have fl := floor_lt_gen (k := fP f) (n := (256 : Int) - fP f) (b := 256) (show 0 ≤ sqS f a by have := two_pow_pos 255; omega) (by rw [wfull_pow]; exact s1) (by omega)
  rw [c4] at r1 n0 n1
  obtain ⟨k, hk⟩ : ∃ k : Nat, k = 128 - fP f := ⟨_, rfl⟩
  have KF : (2 : Int) ^ k * full = 2 ^ ((256 : Int) - fP f).toNat := by rw [← full_pow, ← Int.pow_add]; congr 1; omega
  rw [floor_pos (by omega), ← KF] at r1 n0 n1 fl
  obtain ⟨n, hn⟩ : ∃ n, sqS f a / (2 ^ k * full) = n := ⟨_, rfl⟩
  obtain ⟨t1, t2, t3⟩ := sq_cut k rfl f0 f4 a0 ca n hn
  rw [hn] at r1 n0 n1 fl
  rw [q1, r1] at hR
  have hR2 : ptF f false (sqE f a) (n + 1) = R + 1 := by rw [ptF_succ, hR]
  have hpp := two_pow_pos (fP f - 1)
  obtain ⟨pR, cR, vR⟩ := pt_nor2 f0 f4 x0 x1 n0 n1 R hR
  obtain ⟨pS, cS, vS⟩ := pt_nor2 f0 f4 x0 x1 (show 2 ^ (fP f - 1) ≤ n + 1 by omega) (by omega) (R + 1) hR2
  obtain ⟨wR, wvR⟩ := wd_val f0 hf pR.1 (.inr cR)
  obtain ⟨wS, wvS⟩ := wd_val f0 hf pS.1 (.inr cS)
  obtain ⟨wN, wvN⟩ := wd_val f0 hf a0 ca
  obtain ⟨c, hc⟩ : ∃ c : Nat, (c : Int) = sqE f a - (fP f - 1 : Nat) + 1099511628031 := ⟨(sqE f a - (fP f - 1 : Nat) + 1099511628031).toNat, by omega⟩
  rw [show (sqE f a - ((fP f - 1 : Nat) : Int) + 1099511628031).toNat = c by omega] at vR vS
  obtain ⟨T, hT⟩ : ∃ T : Nat, (T : Int) = 2 * sqE f a + 1099511627777 := ⟨(2 * sqE f a + 1099511627777).toNat, by omega⟩
  obtain ⟨U, hU⟩ : ∃ U : Nat, (U : Int) = 2 * sqE f a - 2 * fP f + 2 + 1099511628031 := ⟨(2 * sqE f a - 2 * fP f + 2 + 1099511628031).toNat, by omega⟩
  obtain ⟨pX, vX⟩ := wd_square f0 hf wR (by omega) n1 (sqE f a) x0 x1 hc (wvR.trans vR) U hU
  obtain ⟨pY, vY⟩ := wd_square f0 hf wS (show 0 < n + 1 by omega) (by omega) (sqE f a) x0 x1 hc (wvS.trans vS) U hU
  rw [sq_val f0 f4 a0 ca T hT] at wvN
  rw [hN] at wN wvN
  rw [hX] at pX vX
  rw [hY] at pY vY
  have hTp := two_pow_pos T
  have eU : ∀ z : Int, z * z * 2 ^ U = z * 2 ^ k * (z * 2 ^ k) * 2 ^ T := fun z => by
    rw [sq_scale, ← Int.pow_add, Int.mul_assoc (z * z), ← Int.pow_add]
    congr 2; omega
  rw [eU] at vX vY
  have same : ∀ A B, plainF (f + 1) A → plainF (f + 1) B → vF (f + 1) A = vF (f + 1) B → A = B := fun A B hA hB e => by
    have e1 := (dc_same (m := 4) g0 hg (by decide) hA.1 hA.2.2.1).1
    have e2 := (dc_same (m := 4) g0 hg (by decide) hB.1 hB.2.2.1).1
    rw [hA.2.2.2.1, hA.2.2.2.2, e] at e1
    rw [hB.2.2.2.1, hB.2.2.2.2] at e2
    exact e1.symm.trans e2
  have le : vF (f + 1) X ≤ vF (f + 1) N := by
    rw [vX, wvN]; exact Int.mul_le_mul_of_nonneg_right t1 (by omega)
  have lt : vF (f + 1) N < vF (f + 1) Y := by
    rw [vY, wvN]; exact Int.mul_lt_mul_of_pos_right t2 hTp
  refine ⟨pR.1, pS.2.1, cR, cS, wR, wS, wN, pX, pY, ?_, ?_, fun t => ?_⟩
  · apply Classical.byContradiction; intro h
    have := sz_mono g0 hg wN pX (by omega)
    have := same X N pX wN (by omega)
    omega
  · apply Classical.byContradiction; intro h
    have := sz_mono g0 hg pY wN (by omega)
    omega
  · have rz := rest_zero (q := sqS f a) (n := (256 : Int) - fP f) (by omega)
    rw [← KF] at rz
    rw [q2, r2]
    constructor
    · intro h
      have e : vF (f + 1) X = vF (f + 1) N := by rw [h]
      rw [vX, wvN] at e
      rw [if_pos (rz.2 (t3.2 (Int.eq_of_mul_eq_mul_right (by omega) e)))]
    · intro h
      by_cases z : restQ (sqS f a) ((256 : Int) - fP f) false = 0
      · refine same X N pX wN ?_
        rw [vX, wvN, t3.1 (rz.1 z)]
      · rw [if_neg z] at h; omega
end Go.Proofs.YtbighggnfkdncaaGreatDoor
