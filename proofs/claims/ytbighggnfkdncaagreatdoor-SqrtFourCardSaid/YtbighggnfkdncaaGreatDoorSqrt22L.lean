import Derived.Test.YtbighggnfkdncaaGreatDoorMul19O
import Derived.Test.YtbighggnfkdncaaGreatDoorAdd18N
set_option linter.unusedVariables false
set_option linter.unusedSimpArgs false
set_option maxRecDepth 100000
namespace Go.Proofs.YtbighggnfkdncaaGreatDoor
open Go.RowKit
theorem sq_exact {f m a s : Int} (f0 : 0 ≤ f) (hf : f < 4) (hm : m < 5) (pa : plainF f a) (ca : clsF f a = 1 ∨ clsF f a = 2) (s0 : 0 ≤ s) (cs : clsF f s = 1 ∨ clsF f s = 2) (J : Nat) (hJ : (J : Int) = 1099511628031) (hv : vF f s * 2 ^ J = vF f a * vF f a) :
    pkB f m false (sqE f s) (sqS f s) = a ∧ ∀ t, pkFl f m t false (sqE f s) (sqS f s) = 0 := by
  obtain ⟨a0, a1, _, na, cut⟩ := pa
  obtain ⟨va, _, _, xa0, xa1⟩ := vF_val f0 hf a0 (show clsF f a ≤ 2 by omega)
  obtain ⟨mp, m1, _⟩ := um_pos f0 hf a0 ca
  obtain ⟨n0, n1⟩ := sqN_range f0 hf s0 cs
  obtain ⟨s2, s3⟩ := sqS_range f0 hf s0 cs
  have er := sqE_range (f := f) f0 s0
  have p8 := fP_19 f0
  obtain ⟨p0, p1, p2, p3, p4, p5, p6, p7, _⟩ := f_nums f0 hf
  obtain ⟨T, hT⟩ : ∃ T : Nat, (T : Int) = 2 * sqE f s + 1099511627777 := ⟨(2 * sqE f s + 1099511627777).toNat, by omega⟩
  obtain ⟨V, hV⟩ : ∃ V : Nat, (V : Int) = sqE f s + 1099511627904 := ⟨(sqE f s + 1099511627904).toNat, by omega⟩
  obtain ⟨U, hU⟩ : ∃ U : Nat, (U : Int) = uX f a + 1099511628031 := ⟨(uX f a + 1099511628031).toNat, by omega⟩
  rw [sq_val f0 hf s0 cs T hT, va, show (uX f a + 1099511628031).toNat = U by omega, Int.mul_assoc, ← Int.pow_add, show T + J = V + V by omega, Int.pow_add] at hv
  have lt : V ≤ U := by
    apply Classical.byContradiction; intro k
    have h1 : uM f a * 2 ^ U < 2 ^ (fP f + U) := by rw [Int.pow_add]; exact Int.mul_lt_mul_of_pos_right m1 (two_pow_pos U)
    have h0 : 0 ≤ uM f a * 2 ^ U := Int.mul_nonneg (by omega) (by have := two_pow_pos U; omega)
    have h2 := sq_mono h0 h1
    rw [sq_scale, ← Int.pow_add, ← Int.pow_add] at h2
    rw [sq_scale, ← Int.pow_add, ← Int.pow_add] at hv
    have h3 : 2 ^ 254 * (2 ^ V * 2 ^ V) ≤ sqN f s * (2 ^ V * 2 ^ V) := Int.mul_le_mul_of_nonneg_right n0 (by rw [← Int.pow_add]; have := two_pow_pos (V + V); omega)
    rw [← Int.pow_add, ← Int.pow_add] at h3
    have h4 := two_pow_le (show fP f + U + (fP f + U) ≤ 254 + (V + V) by omega)
    have h5 : uM f a * uM f a * 2 ^ (U + U) < 2 ^ (254 + (V + V)) := by omega
    omega
  obtain ⟨D, hD⟩ : ∃ D : Nat, U = D + V := ⟨U - V, by omega⟩
  obtain ⟨q, hq⟩ : ∃ q : Int, uM f a * 2 ^ D = q := ⟨_, rfl⟩
  have q0 : 0 < q := by rw [← hq]; exact Int.mul_pos mp (two_pow_pos D)
  have eq : sqN f s = q * q := by
    have pv := two_pow_pos V
    have eU : uM f a * 2 ^ U = q * 2 ^ V := by rw [hD, Int.pow_add, ← Int.mul_assoc, hq]
    rw [eU, sq_scale] at hv
    refine Int.eq_of_mul_eq_mul_right (a := 2 ^ V * 2 ^ V) ?_ hv
    have := Int.mul_pos pv pv
    omega
  have rt := root_sq (r := q) (by omega) (by rw [← eq]; exact n1)
  have sv : sqS f s = uM f a * 2 ^ (D + 128) := by
    unfold sqS exactN
    rw [eq, rt, if_pos (beq_iff_eq.2 rfl), Int.pow_add, ← Int.mul_assoc, hq, full_pow]
    omega
  obtain ⟨d1, d2⟩ := dc_pk (f := f) (m := m) (exp := sqE f s) (x := sqS f s) (ng := false) f0 (by have := two_pow_pos 255; omega) s3
  rw [clip_id (by omega) (by omega)] at d1 d2
  obtain ⟨k1, k2⟩ := dc_scale (f := f) (m := m) (q := uM f a) (E := uX f a) (ng := false) (D + 128) (by omega)
  obtain ⟨l1, l2⟩ := dc_scale (f := f) (m := m) (q := uM f a) (E := uX f a) (ng := false) U (by omega)
  rw [← sv, show uX f a - ((D + 128 : Nat) : Int) = sqE f s - 255 by omega] at k1 k2
  obtain ⟨g1, g2⟩ := dc_same (m := m) f0 hf hm a0 (show clsF f a ≤ 2 by omega)
  rw [na, va, show (uX f a + 1099511628031).toNat = U by omega, cut] at g1
  rw [na, va, show (uX f a + 1099511628031).toNat = U by omega] at g2
  rw [show uX f a - (U : Int) = -1099511628031 by omega] at l1 l2
  exact ⟨d1.symm.trans (k1.trans (l1.symm.trans g1)), fun t => (d2 t).symm.trans ((k2 t).trans ((l2 t).symm.trans (g2 t)))⟩
theorem plain_zero {f a : Int} (f0 : 0 ≤ f) (hf : f < 4) (p : plainF f a) (c : clsF f a = 0) : a = 0 := by
  obtain ⟨a0, a1, _, na, cut⟩ := p
  have h := cut_val f0 hf a0 na
  obtain ⟨z1, z2⟩ := (cls_0 hf).1 c
  rw [z1, z2, cut, Int.zero_mul] at h
  omega
theorem sq_square {f m a : Int} {t : Bool} (f0 : 0 ≤ f) (hf : f < 4) (hm : m < 5) (pa : plainF f a) (fl : mlFl f m t a a = 0) : ∀ s, mlB f m a a = s → 0 ≤ s ∧ s < full ∧ sqB f m s = a ∧ ∀ t, sqFl f m t s = 0 := by
  intro s hs
  have pa' := pa
  obtain ⟨a0, a1, c2, na, cut⟩ := pa
  have rc := cls_range f a
  obtain ⟨e1, e2⟩ := ml_fin (m := m) f0 hf hm a0 a1 a0 a1 c2 c2
  have n : mlN f a a = false := by unfold mlN; simp
  rw [n] at e1 e2
  by_cases z : clsF f a = 0
  · have az := plain_zero f0 hf pa' z
    obtain ⟨r1, r2, r3, r4⟩ := ml_range (f := f) f0 a0 a0
    have S : mlS f a a = 0 := by unfold mlS tmS numC; rw [if_neg (by simp; omega)]
    rw [e1, S, (pk_zero hf hm).1] at hs
    have mk : makeF f false 0 0 = 0 := by
      unfold makeF; rw [if_pos hf, expOf_id f0 hf (by decide) (by have := f_nums f0 hf; omega)]; simp
    rw [mk] at hs
    have sa : s = a := by omega
    rw [sa]
    have i : sqI f a = false := by unfold sqI; rw [na]; rfl
    obtain ⟨q1, q2⟩ := sq_some (m := m) hf hm a0 a1 (by omega) i
    rw [q1, if_pos (.inl z)]
    exact ⟨a0, a1, cut, fun t => by rw [q2, if_pos (.inl z)]⟩
  · have ca : clsF f a = 1 ∨ clsF f a = 2 := by omega
    obtain ⟨g1, g2⟩ := ml_dc (f := f) (m := m) (ng := false) f0 a0 a0
    obtain ⟨J, hJ⟩ : ∃ J : Nat, (J : Int) = 1099511628031 := ⟨1099511628031, rfl⟩
    have pv := pF_vF f0 hf a0 a0 c2 c2 J hJ
    have vp := (vF_dcE f0 hf a0 ca).1
    obtain ⟨p0, p1, p2, p3, p4, p5, p6, p7, p8⟩ := f_nums f0 hf
    obtain ⟨va, _, _, xa0, xa1⟩ := vF_val f0 hf a0 c2
    obtain ⟨mp, _⟩ := um_pos f0 hf a0 ca
    have ep := pF_val f0 hf a0 a0 c2 c2
    have mm := Int.mul_pos mp mp
    have bl : blen (pF f a a) = blen (uM f a * uM f a) + (uX f a + uX f a + 1099511628031).toNat := by rw [ep]; exact blen_shl mm _
    have pp : 0 < pF f a a := by rw [ep]; exact Int.mul_pos mm (two_pow_pos _)
    rw [e2, g2] at fl
    rw [e1, g1] at hs
    obtain ⟨ps, vs, cs⟩ := dc_exactV f0 hf hm pp (by omega) fl s hs
    rw [← vs] at pv
    obtain ⟨h1, h2⟩ := sq_exact (m := m) f0 hf hm pa' ca ps.1 cs J hJ pv
    obtain ⟨q1, q2⟩ := sq_num (m := m) hf hm ps.1 ps.2.1 cs ps.2.2.2.1
    exact ⟨ps.1, ps.2.1, q1.trans h1, fun t => (q2 t).trans (h2 t)⟩
theorem sqS_mono {f a b : Int} (f0 : 0 ≤ f) (hf : f < 4) (a0 : 0 ≤ a) (b0 : 0 ≤ b) (ca : clsF f a = 1 ∨ clsF f a = 2) (cb : clsF f b = 1 ∨ clsF f b = 2) (h : sqN f a ≤ sqN f b) : sqS f a ≤ sqS f b := by
  obtain ⟨n0, n1⟩ := sqN_range f0 hf a0 ca
  obtain ⟨k0, k1⟩ := sqN_range f0 hf b0 cb
  have hp := two_pow_pos 254
  have l := root_le (show 0 ≤ sqN f a by omega) h k1
  obtain ⟨_, _, r2, _⟩ := root_range (a := sqN f a) (by omega) n1
  obtain ⟨_, _, s2, _⟩ := root_range (a := sqN f b) (by omega) k1
  unfold sqS
  by_cases e : rootN (sqN f a) = rootN (sqN f b)
  · rw [e]
    by_cases x : exactN (sqN f b) = true
    · have : exactN (sqN f a) = true := by
        unfold exactN at x ⊢
        have y := beq_iff_eq.1 x
        rw [e] at r2 ⊢
        exact beq_iff_eq.2 (by omega)
      rw [if_pos x, if_pos this]; exact Int.le_refl _
    · rw [if_neg x]; split <;> omega
  · have h1 : (rootN (sqN f a) + 1) * full ≤ rootN (sqN f b) * full := Int.mul_le_mul_of_nonneg_right (by omega) (by decide)
    rw [Int.add_mul, Int.one_mul] at h1
    have F : (1 : Int) < full := by decide
    split <;> split <;> omega
theorem sq_lex {f a b : Int} (f0 : 0 ≤ f) (hf : f < 4) (a0 : 0 ≤ a) (b0 : 0 ≤ b) (ca : clsF f a = 1 ∨ clsF f a = 2) (cb : clsF f b = 1 ∨ clsF f b = 2) (h : lexU f a b ∨ (uE f a = uE f b ∧ uS f a = uS f b)) : sqE f a < sqE f b ∨ (sqE f a = sqE f b ∧ sqS f a ≤ sqS f b) := by
  obtain ⟨_, _, s0, s1, _⟩ := un_range f0 hf a0 ca
  obtain ⟨_, _, t0, t1, _⟩ := un_range f0 hf b0 cb
  by_cases k : sqE f a < sqE f b
  · exact .inl k
  · right
    have e : sqE f a = sqE f b := by
      rcases h with (h | ⟨h, _⟩) | ⟨h, _⟩
      all_goals (unfold sqE at k ⊢; omega)
    refine ⟨e, sqS_mono f0 hf a0 b0 ca cb ?_⟩
    unfold sqE at e
    by_cases u : uE f a = uE f b
    · have s : uS f a ≤ uS f b := by
        rcases h with (h | ⟨_, h⟩) | ⟨_, h⟩
        · omega
        · omega
        · omega
      unfold sqN
      rw [u]
      exact Int.mul_le_mul_of_nonneg_right s (by have := two_pow_pos (127 + (uE f b % 2).toNat); omega)
    · have lt : uE f a < uE f b := by
        rcases h with (h | ⟨h, _⟩) | ⟨h, _⟩
        · exact h
        · exact absurd h u
        · exact absurd h u
      unfold sqN
      rw [show (uE f a % 2).toNat = 0 by omega, show (uE f b % 2).toNat = 1 by omega]
      have p7 := two_pow_pos 127
      have h1 : uS f a * 2 ^ (127 + 0) ≤ full * 2 ^ 127 := Int.mul_le_mul_of_nonneg_right (by omega) (by omega)
      have h2 : 2 ^ 127 * 2 ^ 128 ≤ uS f b * 2 ^ (127 + 1) := Int.mul_le_mul_of_nonneg_right t0 (by decide)
      have h3 : full * 2 ^ 127 = 2 ^ 127 * 2 ^ 128 := by decide +kernel
      omega
theorem sq_size {f m b : Int} (f0 : 0 ≤ f) (hf : f < 4) (hm : m < 5) (s : sizeF f b) : (b = infF f false ∧ sqB f m b = infF f false) ∨ (b = 0 ∧ sqB f m b = 0) ∨ (plainF f b ∧ (clsF f b = 1 ∨ clsF f b = 2) ∧ sqB f m b = numB f m false (sqE f b) (sqS f b) ∧ 0 ≤ sqB f m b ∧ sqB f m b ≤ infF f false) := by
  have rc := cls_range f b
  rcases s with p | p
  · have p' := p
    obtain ⟨b0, b1, c2, nb, cut⟩ := p
    by_cases z : clsF f b = 0
    · have bz := plain_zero f0 hf p' z
      obtain ⟨q1, _⟩ := sq_some (m := m) hf hm b0 b1 (by omega) (show sqI f b = false by unfold sqI; rw [nb]; rfl)
      rw [if_pos (.inl z), cut] at q1
      exact .inr (.inl ⟨bz, by omega⟩)
    · have cb : clsF f b = 1 ∨ clsF f b = 2 := by omega
      obtain ⟨q1, _⟩ := sq_num (m := m) hf hm b0 b1 cb nb
      obtain ⟨_, _, _, _, _, _, eE, eS⟩ := sq_pt (m := m) f0 hf hm b0 cb
      obtain ⟨s0, s1⟩ := sqS_range f0 hf b0 cb
      have hp := two_pow_pos 255
      obtain ⟨k1, _⟩ := pk_num (exp := sqE f b) (x := sqS f b) (ng := false) hf hm (by omega)
      rw [eE, eS] at k1
      rw [← wfull_pow] at s1
      have r := num_range (m := m) (e := sqE f b) f0 hf hm s0 s1
      rw [k1] at q1
      exact .inr (.inr ⟨p', cb, q1, by omega, by omega⟩)
  · obtain ⟨c3, n3⟩ := inf_cls f0 hf false
    obtain ⟨i0, i1⟩ := make_full f0 (f := f) false (2 * fE f + 1) 0
    obtain ⟨_, _, _, _, i5, i6⟩ := make_parts f0 hf false (2 * fE f + 1) 0
    have ic : cutF f (infF f false) = infF f false := Int.emod_eq_of_lt i5 i6
    rw [← p] at c3 n3
    obtain ⟨q1, _⟩ := sq_some (m := m) (a := b) hf hm (by rw [p]; exact i0) (by rw [p]; exact i1) (by omega) (show sqI f b = false by unfold sqI; rw [n3]; rfl)
    rw [if_pos (.inr c3)] at q1
    refine .inl ⟨p, ?_⟩
    rw [q1, p]; exact ic
theorem sq_mono22 {f m lo hi : Int} (f0 : 0 ≤ f) (hf : f < 4) (hm : m < 5) (l : sizeF f lo) (h : sizeF f hi) (le : lo ≤ hi) : sqB f m lo ≤ sqB f m hi := by
  have pi := fun {b : Int} (p : plainF f b) => plain_inf f0 hf p
  have i0 : 0 ≤ infF f false := (make_full f0 (f := f) false (2 * fE f + 1) 0).1
  have z0 : 0 < infF f false := by
    rcases Int.lt_or_eq_of_le i0 with h | h
    · exact h
    · exfalso
      have c := (inf_cls f0 hf false).1
      have z := (nought_cls f0 hf false).1
      have mk : makeF f false 0 0 = 0 := by
        unfold makeF; rw [if_pos hf, expOf_id f0 hf (by decide) (by have := f_nums f0 hf; omega)]; simp
      rw [mk] at z
      rw [← h] at c
      omega
  rcases sq_size (m := m) f0 hf hm l with ⟨a1, a2⟩ | ⟨a1, a2⟩ | ⟨a1, a2, a3, a4, a5⟩
  · rcases sq_size (m := m) f0 hf hm h with ⟨b1, b2⟩ | ⟨b1, b2⟩ | ⟨b1, b2, b3, b4, b5⟩
    · omega
    · omega
    · have := pi b1; omega
  · rcases sq_size (m := m) f0 hf hm h with ⟨b1, b2⟩ | ⟨b1, b2⟩ | ⟨b1, b2, b3, b4, b5⟩ <;> omega
  · rcases sq_size (m := m) f0 hf hm h with ⟨b1, b2⟩ | ⟨b1, b2⟩ | ⟨b1, b2, b3, b4, b5⟩
    · omega
    · have z : lo = 0 := by have := a1.1; omega
      rw [z] at a2
      have mk : makeF f false 0 0 = 0 := by
        unfold makeF; rw [if_pos hf, expOf_id f0 hf (by decide) (by have := f_nums f0 hf; omega)]; simp
      have zc := (nought_cls f0 hf false).1
      rw [mk] at zc
      omega
    · obtain ⟨s0, s1⟩ := sqS_range f0 hf a1.1 a2
      obtain ⟨t0, t1⟩ := sqS_range f0 hf b1.1 b2
      rw [← wfull_pow] at s1 t1
      obtain ⟨o1, o2⟩ := order_un f0 hf a1.1 b1.1 a2 b2 a1.2.2.2.1 b1.2.2.2.1
      rw [a1.2.2.2.2, b1.2.2.2.2] at o1 o2
      rw [a3, b3]
      refine num_mono f0 hf hm s0 s1 t0 t1 (sq_lex f0 hf a1.1 b1.1 a2 b2 ?_)
      rcases Int.lt_or_eq_of_le le with q | q
      · exact .inl (o1.1 q)
      · exact .inr (o2.1 q)
theorem sq_four {f m a : Int} (f0 : 0 ≤ f) (hf : f < 4) (hm : m < 5) (pa : plainF f a) (e0 : 1 ≤ expF f a) (e1 : expF f a + 2 ≤ 2 * fE f) : ∀ b r, makeF f false (expF f a + 2) (fracF f a) = b → sqB f m a = r →
    0 ≤ b ∧ b < full ∧ 0 ≤ r ∧ r < full ∧ negF f r = false ∧ sqB f m b = adB f m r r false ∧ ∀ t, sqFl f m t b = sqFl f m t a := by
  intro b r hb hr
  obtain ⟨a0, a1, c2, na, cut⟩ := pa
  obtain ⟨p0, p1, p2, p3, p4, p5, p6, p7, p8⟩ := f_nums f0 hf
  have ca : clsF f a = 2 := (cls_2 hf).2 ⟨by omega, by omega⟩
  obtain ⟨k0, k1⟩ := frac_range (b := a) f0 hf
  obtain ⟨pb, cb, y1, y2, _⟩ := mk_nor f0 hf (show 1 ≤ expF f a + 2 by omega) e1 k0 k1 b hb
  obtain ⟨_, _, ua, sa⟩ := un_nor f0 hf a0 ca
  obtain ⟨_, _, ub, sb⟩ := un_nor f0 hf pb.1 cb
  have eS : uS f b = uS f a := by rw [sa, sb, y2]
  have eE : uE f b = uE f a + 2 := by rw [ua, ub, y1]; omega
  have eN : sqN f b = sqN f a := by unfold sqN; rw [eS, eE, show (uE f a + 2) % 2 = uE f a % 2 by omega]
  have qS : sqS f b = sqS f a := by unfold sqS; rw [eN]
  have qE : sqE f b = sqE f a + 1 := by unfold sqE; rw [eE]; omega
  obtain ⟨g1, g2⟩ := sq_num (m := m) hf hm a0 a1 (.inr ca) na
  obtain ⟨h1, h2⟩ := sq_num (m := m) hf hm pb.1 pb.2.1 (.inr cb) pb.2.2.2.1
  obtain ⟨r1, r2, x0, x1, n0, n1, _, _⟩ := sq_pt (m := m) f0 hf hm a0 (.inr ca)
  obtain ⟨t1, t2, z0, z1, _, _, _, _⟩ := sq_pt (m := m) f0 hf hm pb.1 (.inr cb)
  rw [qS] at t1 t2
  rw [qE] at t1 t2 z0 z1
  rw [g1, r1] at hr
  obtain ⟨pr, cr, vr⟩ := pt_nor2 f0 hf x0 x1 n0 n1 r hr
  obtain ⟨s, hs⟩ : ∃ s, ptF f false (sqE f a + 1) (cutQ (sqS f a) (256 - fP f) false m false) = s := ⟨_, rfl⟩
  obtain ⟨ps, cs, vs⟩ := pt_nor2 f0 hf z0 z1 n0 n1 s hs
  refine ⟨pb.1, pb.2.1, pr.1, pr.2.1, pr.2.2.2.1, ?_, fun t => ?_⟩
  · have v2 : vF f r + vF f r = vF f s := by
      obtain ⟨c, hc⟩ : ∃ c : Nat, (c : Int) = sqE f a - (fP f - 1 : Nat) + 1099511628031 := ⟨(sqE f a - (fP f - 1 : Nat) + 1099511628031).toNat, by omega⟩
      rw [vr, vs, show (sqE f a - ((fP f - 1 : Nat) : Int) + 1099511628031).toNat = c by omega, show (sqE f a + 1 - ((fP f - 1 : Nat) : Int) + 1099511628031).toNat = c + 1 by omega, Int.pow_succ, ← Int.mul_assoc]
      omega
    obtain ⟨d1, _⟩ := ad_pos (m := m) f0 hf hm pr pr
    obtain ⟨w1, _⟩ := dc_same (m := m) f0 hf hm ps.1 ps.2.2.1
    rw [ps.2.2.2.1, ps.2.2.2.2] at w1
    rw [h1, qS, qE, t1, hs, d1, v2, w1]
  · rw [h2, g2, qS, qE, t2, r2]
end Go.Proofs.YtbighggnfkdncaaGreatDoor
