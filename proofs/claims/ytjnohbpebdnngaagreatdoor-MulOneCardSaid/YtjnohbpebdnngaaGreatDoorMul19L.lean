/-
  Products of two numbers of a format: by 1 and by 2; order; plain arithmetic.
-/
import Derived.Test.YtjnohbpebdnngaaGreatDoorMul19A
import Derived.Test.YtjnohbpebdnngaaGreatDoorMul19V
import Derived.Test.YtjnohbpebdnngaaGreatDoorAdd18N
set_option linter.unusedVariables false
set_option linter.unusedSimpArgs false
set_option maxRecDepth 100000
namespace Go.Proofs.YtjnohbpebdnngaaGreatDoor
open Go.RowKit

/-! ### powers of 2 -/
theorem pow_fields {f e : Int} (f0 : 0 ≤ f) (hf : f < 4) (e0 : 1 ≤ e) (e1 : e ≤ 2 * fE f) : ∀ o, makeF f false e 0 = o → 0 ≤ o ∧ o < full ∧ clsF f o = 2 ∧ negF f o = false ∧ uE f o = e - fE f ∧ uS f o = 2 ^ 127 := by
  intro o ho
  obtain ⟨p0, p1, p2, p3, p4, p5, p6, p7, p8⟩ := f_nums f0 hf
  obtain ⟨m1, m2, m3⟩ := make_fields f0 hf false e 0
  obtain ⟨g0, g1⟩ := make_full f0 (f := f) false e 0
  rw [expOf_id f0 hf (by omega) (by omega)] at m1
  rw [Int.zero_emod] at m2
  rw [ho] at m1 m2 m3 g0 g1
  have c : clsF f o = 2 := (cls_2 hf).2 ⟨by omega, by omega⟩
  have um : uM f o = 2 ^ (fP f - 1) := by unfold uM; rw [if_neg (by omega), m2, Int.zero_add]
  have bl : blen (uM f o) = fP f - 1 + 1 := by
    rw [um]
    refine blen_of (Int.le_refl _) ?_
    have := two_pow_pos (fP f - 1)
    rw [Int.pow_succ]; omega
  refine ⟨g0, g1, c, m3, ?_, ?_⟩
  · unfold uE; rw [if_pos (.inr c), bl]
    unfold uX; rw [if_neg (by omega), m1]; omega
  · unfold uS; rw [if_pos (.inr c), bl, um, ← Int.pow_add]; congr 1; omega
theorem pk_double {f m e x : Int} {ng : Bool} (f0 : 0 ≤ f) (x0 : 0 ≤ x) (x1 : x * 2 < wfull) (e0 : -1099511627776 ≤ e) (e1 : e + 1 ≤ 1099511627776) : pkB f m ng (e + 1) x = pkB f m ng e (x * 2) ∧ ∀ t, pkFl f m t ng (e + 1) x = pkFl f m t ng e (x * 2) := by
  obtain ⟨a1, a2⟩ := dc_pk (f := f) (m := m) (exp := e + 1) (x := x) (ng := ng) f0 x0 (by omega)
  obtain ⟨b1, b2⟩ := dc_pk (f := f) (m := m) (exp := e) (x := x * 2) (ng := ng) f0 (by omega) x1
  obtain ⟨s1, s2⟩ := dc_scale (f := f) (m := m) (q := x) (E := e + 1 - 255) (ng := ng) 1 x0
  rw [clip_id (by omega) (by omega)] at a1 a2 b1 b2
  rw [show e + 1 - 255 - ((1 : Nat) : Int) = e - 255 by omega, show (2 : Int) ^ 1 = 2 from rfl] at s1 s2
  exact ⟨a1.symm.trans (s1.symm.trans b1), fun t => (a2 t).symm.trans ((s2 t).symm.trans (b2 t))⟩
theorem half_full (s : Int) : s * 2 ^ 127 * 2 = s * full := by
  rw [Int.mul_assoc]; congr 1
/-- With a power of 2: the number itself, its exponent moved. -/
theorem ml_pow {f m a e : Int} (f0 : 0 ≤ f) (hf : f < 4) (hm : m < 5) (a0 : 0 ≤ a) (a1 : a < full) (ca : clsF f a ≤ 2) (e0 : 1 ≤ e) (e1 : e ≤ 2 * fE f) : ∀ o, makeF f false e 0 = o →
    mlB f m a o = pkB f m (negF f a) (uE f a + (e - fE f)) (uS f a * full) ∧ ∀ t, mlFl f m t a o = pkFl f m t (negF f a) (uE f a + (e - fE f)) (uS f a * full) := by
  intro o ho
  obtain ⟨p0, p1, p2, p3, p4, p5, p6, p7, p8⟩ := f_nums f0 hf
  obtain ⟨o0, o1, oc, on, oe, os⟩ := pow_fields f0 hf e0 e1 o ho
  obtain ⟨h1, h2⟩ := ml_fin (m := m) f0 hf hm a0 a1 o0 o1 ca (by omega)
  have N : mlN f a o = negF f a := by unfold mlN; rw [on]; cases negF f a <;> rfl
  have S : mlS f a o = uS f a * 2 ^ 127 := by rw [mlS_eq, os]
  have er := uE_range (f := f) f0 a0
  have rm := room_u (f := f) f0 a0
  obtain ⟨s0, s1⟩ := uS_range (f := f) f0 a0
  have cr := cls_range f a
  rw [N, S] at h1 h2
  by_cases c : clsF f a = 1 ∨ clsF f a = 2
  · have E := mlE_num (f := f) f0 a0 o0 c (.inr oc)
    rw [oe] at E
    obtain ⟨d1, d2⟩ := pk_double (f := f) (m := m) (e := uE f a + (e - fE f)) (x := uS f a * 2 ^ 127) (ng := negF f a) f0 (Int.mul_nonneg s0 (by decide)) (by rw [half_full]; exact rm.2.1) (by omega) (by omega)
    rw [half_full] at d1 d2
    rw [E] at h1 h2
    exact ⟨h1.trans d1, fun t => (h2 t).trans (d2 t)⟩
  · have z := (u_none c).2
    rw [z, Int.zero_mul, (pk_zero hf hm).1] at h1
    rw [z, Int.zero_mul, (pk_zero hf hm).1]
    refine ⟨h1, fun t => ?_⟩
    rw [h2 t, z, Int.zero_mul, (pk_zero hf hm).2, (pk_zero hf hm).2]
theorem ml_inf {f m a o : Int} (hf : f < 4) (hm : m < 5) (a0 : 0 ≤ a) (a1 : a < full) (o0 : 0 ≤ o) (o1 : o < full) (c3 : clsF f a = 3) (oc : clsF f o = 1 ∨ clsF f o = 2 ∨ clsF f o = 3) : mlB f m a o = infF f (mlN f a o) ∧ ∀ t, mlFl f m t a o = 0 := by
  obtain ⟨e1, e2⟩ := ml_some (m := m) hf hm a0 a1 o0 o1 (by unfold nanF; rw [c3]; rfl) (by unfold nanF; rw [decide_eq_false]; omega)
  have i : mlI f a o = false := by unfold mlI badC; rw [decide_eq_false]; omega
  rw [e1, i, if_neg (by decide), if_pos (.inl c3)]
  exact ⟨rfl, fun t => by rw [e2, i, if_neg (by decide), if_pos (.inl c3)]⟩
/-- By 1. -/
theorem ml_one {f m a : Int} (f0 : 0 ≤ f) (hf : f < 4) (hm : m < 5) (a0 : 0 ≤ a) (a1 : a < full) (na : nanF f a = false) : ∀ o, makeF f false (fE f) 0 = o → 0 ≤ o ∧ o < full ∧ mlB f m a o = cutF f a ∧ ∀ t, mlFl f m t a o = 0 := by
  intro o ho
  obtain ⟨p0, p1, p2, p3, p4, p5, p6, p7, p8⟩ := f_nums f0 hf
  obtain ⟨o0, o1, oc, on, oe, os⟩ := pow_fields f0 hf (by omega) (by omega) o ho
  have c4 : clsF f a ≤ 3 := by unfold nanF at na; have := of_decide_eq_false na; omega
  refine ⟨o0, o1, ?_⟩
  by_cases c3 : clsF f a = 3
  · obtain ⟨e1, e2⟩ := ml_inf (m := m) hf hm a0 a1 o0 o1 c3 (.inr (.inl oc))
    rw [e1, show mlN f a o = negF f a by unfold mlN; rw [on]; cases negF f a <;> rfl, inf_cut f0 hf a0 c3]
    exact ⟨rfl, e2⟩
  · obtain ⟨h1, h2⟩ := ml_pow (m := m) f0 hf hm a0 a1 (by omega) (by omega) (by omega) o ho
    obtain ⟨g1, g2⟩ := pk_same (m := m) f0 hf hm a0 (by omega)
    rw [show uE f a + ((fE f : Int) - fE f) = uE f a by omega] at h1 h2
    exact ⟨h1.trans g1, fun t => (h2 t).trans (g2 t)⟩
/-- By 2: the number added to itself. -/
theorem ml_two {f m a : Int} (f0 : 0 ≤ f) (hf : f < 4) (hm : m < 5) (a0 : 0 ≤ a) (a1 : a < full) (na : nanF f a = false) : ∀ o, makeF f false (fE f + 1) 0 = o → 0 ≤ o ∧ o < full ∧ mlB f m a o = adB f m a a (negF f a) ∧ ∀ t, mlFl f m t a o = adFl f m t a a (negF f a) := by
  intro o ho
  obtain ⟨p0, p1, p2, p3, p4, p5, p6, p7, p8⟩ := f_nums f0 hf
  obtain ⟨o0, o1, oc, on, oe, os⟩ := pow_fields f0 hf (by omega) (by omega) o ho
  have c4 : clsF f a ≤ 3 := by unfold nanF at na; have := of_decide_eq_false na; omega
  refine ⟨o0, o1, ?_⟩
  by_cases c3 : clsF f a = 3
  · obtain ⟨e1, e2⟩ := ml_inf (m := m) hf hm a0 a1 o0 o1 c3 (.inr (.inl oc))
    obtain ⟨g1, g2⟩ := ad_some (m := m) (s := negF f a) hf hm a0 a1 a0 a1 na na
    have i : adI f a a (negF f a) = false := by unfold adI; rw [decide_eq_false]; exact fun k => k.2.2 rfl
    rw [e1, g1, i, if_neg (by decide), if_pos c3, show mlN f a o = negF f a by unfold mlN; rw [on]; cases negF f a <;> rfl]
    exact ⟨rfl, fun t => by rw [e2, g2, i, if_neg (by decide), if_pos c3]⟩
  · have ca : clsF f a ≤ 2 := by omega
    obtain ⟨h1, h2⟩ := ml_pow (m := m) f0 hf hm a0 a1 ca (by omega) (by omega) o ho
    obtain ⟨e1, e2⟩ := ad_fin (m := m) (s := negF f a) f0 hf hm a0 a1 a0 a1 ca ca
    obtain ⟨d1, d2, d3⟩ := ad_exact (m := m) (ng := negF f a) (s := negF f a) f0 a0 a0
    have n : adN f m a a (negF f a) = negF f a := by
      unfold adN noM adT; rw [if_pos rfl, if_pos rfl]; split <;> rfl
    have x : adX f a a (negF f a) = vF f a * 2 := by unfold adX; rw [if_pos rfl]; omega
    have r := room_u (f := f) f0 a0
    have er := uE_range (f := f) f0 a0
    obtain ⟨k1, k2⟩ := dc_pk (f := f) (m := m) (exp := uE f a + 1) (x := uS f a * full) (ng := negF f a) f0 r.1 r.2.1
    rw [clip_id (by omega) (by omega)] at k1 k2
    obtain ⟨s1, s2⟩ := dc_scale (f := f) (m := m) (q := uS f a * full) (E := uE f a + 1 - 255) (ng := negF f a) ((uE f a + 1099511627776).toNat + 1) r.1
    rw [show uE f a + 1 - 255 - (((uE f a + 1099511627776).toNat + 1 : Nat) : Int) = -1099511628031 by omega] at s1 s2
    have v : vF f a * 2 = uS f a * full * 2 ^ ((uE f a + 1099511627776).toNat + 1) := by
      unfold vF baseT; rw [clT_u f0 a0, Int.mul_assoc, ← Int.pow_succ]
    rw [show uE f a + ((fE f : Int) + 1 - fE f) = uE f a + 1 by omega] at h1 h2
    rw [n] at e1 e2
    rw [x, v] at d1 d2
    exact ⟨(h1.trans (k1.symm.trans s1.symm)).trans (d1.symm.trans e1.symm), fun t => ((h2 t).trans ((k2 t).symm.trans (s2 t).symm)).trans ((d2 t).symm.trans (e2 t).symm)⟩

/-! ### order -/
theorem order_ml {f m lo hi z : Int} (f0 : 0 ≤ f) (hf : f < 4) (hm : m < 5) (l : plainF f lo) (h : plainF f hi) (pz : plainF f z) (cz : clsF f z ≠ 0) (le : lo ≤ hi) : mlB f m lo z ≤ mlB f m hi z := by
  have v := sz_mono f0 hf l h le
  obtain ⟨l0, l1, l2, l3, l4⟩ := l
  obtain ⟨h0, h1, h2, h3, h4⟩ := h
  obtain ⟨z0, z1, z2, z3, z4⟩ := pz
  have rl := cls_range f lo; have rh := cls_range f hi; have rz := cls_range f z
  have cz' : clsF f z = 1 ∨ clsF f z = 2 := by omega
  have vz := vF_nonneg f0 z0; have vl := vF_nonneg f0 l0; have vh := vF_nonneg f0 h0
  have n1 : mlN f lo z = false := by unfold mlN; rw [l3, z3]; rfl
  have n2 : mlN f hi z = false := by unfold mlN; rw [h3, z3]; rfl
  rw [(ml_fin f0 hf hm l0 l1 z0 z1 l2 z2).1, (ml_fin f0 hf hm h0 h1 z0 z1 h2 z2).1, n1, n2, (ml_val f0 hf l0 z0 l2 z2).1, (ml_val f0 hf h0 z0 h2 z2).1]
  have zz : ∀ b, 0 ≤ b → clsF f b ≤ 2 → 0 < vF f b * vF f z → clsF f b = 1 ∨ clsF f b = 2 := fun b b0 b2 p => by
    have rb := cls_range f b
    apply Classical.byContradiction; intro k
    rw [(vF_zero f0 hf b0 b2).2 (by omega), Int.zero_mul] at p; omega
  have el := uE_range (f := f) f0 l0; have eh := uE_range (f := f) f0 h0; have ez := uE_range (f := f) f0 z0
  refine dc_mono f0 (Int.mul_nonneg vl vz) (Int.mul_le_mul_of_nonneg_right v vz) (fun p => ?_) (fun p => ?_) ?_
  · have := ml_dcE f0 hf l0 z0 (zz lo l0 l2 p) cz'; omega
  · have := ml_dcE f0 hf h0 z0 (zz hi h0 h2 p) cz'; omega
  · by_cases p : 0 < vF f hi * vF f z
    · have := ml_dcE f0 hf h0 z0 (zz hi h0 h2 p) cz'; omega
    · have e : vF f hi * vF f z = 0 := by have := Int.mul_nonneg vh vz; omega
      rw [e]; decide

end Go.Proofs.YtjnohbpebdnngaaGreatDoor
