/-
  Sums of two numbers of a format: near numbers, order; plain arithmetic.
-/
import Derived.Test.YtjnohbpebdnngaaGreatDoorAdd18L
import Derived.Test.YtjnohbpebdnngaaGreatDoorAdd18F
set_option linter.unusedVariables false
set_option linter.unusedSimpArgs false
set_option maxRecDepth 100000
namespace Go.Proofs.YtjnohbpebdnngaaGreatDoor
open Go.RowKit

/-- An encoding without its sign. -/
def szF (f b : Int) : Int := makeF f false (expF f b) (fracF f b)
theorem sz_full {f b : Int} (f0 : 0 ≤ f) : 0 ≤ szF f b ∧ szF f b < full := make_full f0 _ _ _
/-- What a finite number without sign is. -/
def plainF (f b : Int) : Prop := 0 ≤ b ∧ b < full ∧ clsF f b ≤ 2 ∧ negF f b = false ∧ cutF f b = b
theorem sz_same {f b : Int} (f0 : 0 ≤ f) (hf : f < 4) (b0 : 0 ≤ b) (c : clsF f b ≤ 2) : plainF f (szF f b) ∧ vF f (szF f b) = vF f b := by
  obtain ⟨x0, x1, x2, x3⟩ := exp_range f0 hf b0
  obtain ⟨r0, r1⟩ := frac_range (b := b) f0 hf
  obtain ⟨e1, e2, e3⟩ := make_fields f0 hf false (expF f b) (fracF f b)
  rw [expOf_id f0 hf x0 x1] at e1
  rw [Int.emod_eq_of_lt r0 r1] at e2
  have cc := cls_congr (f := f) e1 e2
  have m : uM f (szF f b) = uM f b := by unfold uM szF; rw [e1, e2]
  have x : uX f (szF f b) = uX f b := by unfold uX szF; rw [e1]
  have cz : clsF f (szF f b) = clsF f b := cc
  obtain ⟨_, _, _, _, q5, q6⟩ := make_parts f0 hf false (expF f b) (fracF f b)
  obtain ⟨s0, s1⟩ := sz_full (f := f) (b := b) f0
  refine ⟨⟨s0, s1, by omega, e3, ?_⟩, ?_⟩
  · unfold cutF szF; exact Int.emod_eq_of_lt q5 q6
  · unfold vF uE uS; rw [cz, m, x]
theorem sz_turn {f b : Int} (f0 : 0 ≤ f) (hf : f < 4) (b0 : 0 ≤ b) : szF f (turnF f b) = szF f b := by
  obtain ⟨e1, e2, _⟩ := turn_fields f0 hf b0
  unfold szF; rw [e1, e2]
theorem dcE_bounds {f q : Int} (f0 : 0 ≤ f) (hf : f < 4) (hu : (2 : Int) ^ ulpF f ∣ q) (q0 : 0 ≤ q) (q1 : q < 2 ^ (topF + 1)) : (0 < q → -20000 ≤ dcE q (-1099511628031)) ∧ dcE q (-1099511628031) ≤ 20000 := by
  obtain ⟨p0, p1, p2, p3, p4, p5, p6, p7, p8⟩ := f_nums f0 hf
  have u := ulpF_eq f0 hf
  have l := blen_le q0 q1
  constructor
  · intro h
    have := blen_above (Int.le_of_dvd h hu)
    unfold dcE; omega
  · unfold topF at l; unfold dcE; omega
theorem vF_below {f b : Int} (f0 : 0 ≤ f) (b0 : 0 ≤ b) : vF f b < 2 ^ (topF + 1) := by
  have := vF_top (f := f) f0 b0
  have e2 : (2 : Int) ^ (topF + 1) = 2 ^ topF * 2 := Int.pow_succ ..
  have := two_pow_pos topF
  omega
/-- Greater encodings are greater numbers. -/
theorem sz_mono {f lo hi : Int} (f0 : 0 ≤ f) (hf : f < 4) (l : plainF f lo) (h : plainF f hi) (le : lo ≤ hi) : vF f lo ≤ vF f hi := by
  obtain ⟨l0, l1, l2, l3, l4⟩ := l
  obtain ⟨h0, h1, h2, h3, h4⟩ := h
  apply Classical.byContradiction; intro k
  have vl := vF_nonneg f0 l0; have vh := vF_nonneg f0 h0
  obtain ⟨a1, a2⟩ := dcE_bounds f0 hf (vF_unit f0 hf l0 l2) vl (vF_below f0 l0)
  obtain ⟨b1, b2⟩ := dcE_bounds f0 hf (vF_unit f0 hf h0 h2) vh (vF_below f0 h0)
  have M := dc_mono (m := 4) (E := -1099511628031) f0 vh (show vF f hi ≤ vF f lo by omega) (fun q => by have := b1 q; omega) (fun q => by have := a1 q; omega) (by omega)
  have s1 := (dc_same (m := 4) f0 hf (by decide) l0 l2).1
  have s2 := (dc_same (m := 4) f0 hf (by decide) h0 h2).1
  rw [l3, l4] at s1
  rw [h3, h4] at s2
  rw [s1, s2] at M
  have : lo = hi := by omega
  rw [this] at k; exact k (Int.le_refl _)
/-- A sum of two that are not negative. -/
theorem ad_pos {f m a b : Int} (f0 : 0 ≤ f) (hf : f < 4) (hm : m < 5) (pa : plainF f a) (pb : plainF f b) : adB f m a b false = dcB f m false (vF f a + vF f b) (-1099511628031) false ∧ (2 : Int) ^ ulpF f ∣ vF f a + vF f b ∧ 0 ≤ vF f a + vF f b ∧ vF f a + vF f b < 2 ^ (topF + 1) := by
  obtain ⟨a0, a1, a2, a3, a4⟩ := pa
  obtain ⟨b0, b1, b2, b3, b4⟩ := pb
  obtain ⟨e1, _⟩ := ad_fin (m := m) (s := false) f0 hf hm a0 a1 b0 b1 a2 b2
  obtain ⟨d1, _, d3⟩ := ad_exact (m := m) (ng := false) (s := false) f0 a0 b0
  have n : adN f m a b false = false := by
    unfold adN noM adT; rw [a3, if_pos rfl, if_pos rfl]; split <;> rfl
  have x : adX f a b false = vF f a + vF f b := by unfold adX; rw [if_pos a3]
  have r := adX_range false f0 a0 b0
  rw [x] at r d1
  refine ⟨by rw [e1, n, d1], Int.dvd_add (vF_unit f0 hf a0 a2) (vF_unit f0 hf b0 b2), r.1, r.2.1⟩
theorem order_ad {f m lo hi z : Int} (f0 : 0 ≤ f) (hf : f < 4) (hm : m < 5) (l : plainF f lo) (h : plainF f hi) (pz : plainF f z) (le : lo ≤ hi) : adB f m lo z false ≤ adB f m hi z false := by
  obtain ⟨e1, u1, n1, t1⟩ := ad_pos f0 hf hm l pz
  obtain ⟨e2, u2, n2, t2⟩ := ad_pos f0 hf hm h pz
  have v := sz_mono f0 hf l h le
  obtain ⟨a1, a2⟩ := dcE_bounds f0 hf u1 n1 t1
  obtain ⟨b1, b2⟩ := dcE_bounds f0 hf u2 n2 t2
  rw [e1, e2]
  exact dc_mono f0 n1 (by omega) (fun q => by have := a1 q; omega) (fun q => by have := b1 q; omega) (by omega)
theorem exp_mono {f lo hi : Int} (f0 : 0 ≤ f) (hf : f < 4) (l : plainF f lo) (h : plainF f hi) (le : lo ≤ hi) : uX f lo ≤ uX f hi := by
  obtain ⟨l0, l1, l2, l3, l4⟩ := l
  obtain ⟨h0, h1, h2, h3, h4⟩ := h
  have vl := cut_val f0 hf l0 l3
  have vh := cut_val f0 hf h0 h3
  rw [l4] at vl
  rw [h4] at vh
  obtain ⟨r0, r1⟩ := frac_range (b := lo) f0 hf
  obtain ⟨s0, s1⟩ := frac_range (b := hi) f0 hf
  obtain ⟨x0, _⟩ := exp_range f0 hf l0
  obtain ⟨y0, _⟩ := exp_range f0 hf h0
  have e : expF f lo ≤ expF f hi := by
    apply Classical.byContradiction; intro k
    have := mul_le_of (c := 2 ^ (fP f - 1)) (by have := two_pow_pos (fP f - 1); omega) (show expF f hi + 1 ≤ expF f lo by omega)
    rw [Int.add_mul, Int.one_mul] at this
    omega
  unfold uX; split <;> split <;> omega
/-- Of near numbers the difference is exact. -/
theorem near_zero {f m lo hi : Int} {ng : Bool} (f0 : 0 ≤ f) (hf : f < 4) (hm : m < 5) (l : plainF f lo) (h : plainF f hi) (le : lo ≤ hi) (tw : hi ≤ adB f 4 lo lo false) : 0 ≤ vF f hi - vF f lo ∧ ∀ t, dcFl f m t ng (vF f hi - vF f lo) (-1099511628031) false = 0 := by
  have XY := sz_mono f0 hf l h le
  refine ⟨by omega, ?_⟩
  obtain ⟨e1, u1, n1, t1⟩ := ad_pos (m := 4) f0 hf (by decide) l l
  have ex := exp_mono f0 hf l h le
  have l' := l; have h' := h
  obtain ⟨l0, l1, l2, l3, l4⟩ := l
  obtain ⟨h0, h1, h2, h3, h4⟩ := h
  have s2 := (dc_same (m := 4) f0 hf (by decide) h0 h2).1
  rw [h3, h4] at s2
  obtain ⟨p0, p1, p2, p3, p4, p5, p6, p7, p8⟩ := f_nums f0 hf
  have zero : vF f hi = vF f lo → ∀ t, dcFl f m t ng (vF f hi - vF f lo) (-1099511628031) false = 0 := fun k t => by
    rw [k, Int.sub_self]; exact dc_zero.2 t
  have cr := cls_range f lo
  by_cases c0 : clsF f lo = 0
  · have X0 := (vF_zero f0 hf l0 l2).2 c0
    rw [e1, X0, Int.add_zero, dc_zero.1, if_pos ⟨hf, by decide⟩, nought_val f0 hf, if_neg (by decide)] at tw
    exact zero (by have := sz_mono f0 hf h' l' (by omega); omega)
  · have cl : clsF f lo = 1 ∨ clsF f lo = 2 := by omega
    obtain ⟨Xp, Xe⟩ := vF_dcE f0 hf l0 cl
    have ch : clsF f hi = 1 ∨ clsF f hi = 2 := by
      have := cls_range f hi
      have := vF_zero f0 hf h0 h2
      omega
    obtain ⟨Yp, Ye⟩ := vF_dcE f0 hf h0 ch
    obtain ⟨xl, ml0, ml1, xl0, xl1⟩ := vF_val f0 hf l0 l2
    obtain ⟨xh, mh0, mh1, xh0, xh1⟩ := vF_val f0 hf h0 h2
    have u := ulpF_eq f0 hf
    have el := (un_range f0 hf l0 cl).1
    have eh := (un_range f0 hf h0 ch).1
    obtain ⟨jx, hjx⟩ : ∃ j : Nat, uX f lo + 1099511628031 = j := ⟨(uX f lo + 1099511628031).toNat, by omega⟩
    obtain ⟨jy, hjy⟩ : ∃ j : Nat, uX f hi + 1099511628031 = j := ⟨(uX f hi + 1099511628031).toNat, by omega⟩
    rw [hjx, Int.toNat_natCast] at xl
    rw [hjy, Int.toNat_natCast] at xh
    have px := two_pow_pos jx
    have mp : 0 < uM f lo := by
      apply Classical.byContradiction; intro k
      rw [show uM f lo = 0 by omega, Int.zero_mul] at xl; omega
    have Y2 : vF f hi ≤ vF f lo + vF f lo := by
      apply Classical.byContradiction; intro k
      have le2 := dcE_mono (E := -1099511628031) n1 (show vF f lo + vF f lo ≤ vF f hi by omega)
      obtain ⟨_, V⟩ := dc_fits (m := 4) (ng := false) (j := jx + 1) (M := uM f lo) f0 hf (by decide) (q := vF f lo + vF f lo) (by rw [xl, Int.pow_succ, ← Int.mul_assoc]; omega) mp ml1 (by omega) (by omega)
      obtain ⟨a1, a2⟩ := dcE_bounds f0 hf u1 n1 t1
      obtain ⟨b1, b2⟩ := dcE_bounds f0 hf (vF_unit f0 hf h0 h2) (by omega) (vF_below f0 h0)
      have M := dc_mono (m := 4) (E := -1099511628031) f0 n1 (show vF f lo + vF f lo ≤ vF f hi by omega) (fun q => by have := a1 q; omega) (fun q => by have := b1 q; omega) (by omega)
      rw [s2] at M
      rw [e1] at tw
      have : dcB f 4 false (vF f lo + vF f lo) (-1099511628031) false = hi := by omega
      rw [this] at V
      omega
    by_cases D0 : vF f hi = vF f lo
    · exact zero D0
    · have ed : vF f hi - vF f lo = (uM f hi * 2 ^ (jy - jx) - uM f lo) * 2 ^ jx := by
        rw [Int.sub_mul, Int.mul_assoc, ← Int.pow_add, show jy - jx + jx = jy by omega, xl, xh]
      have D1 : 0 < uM f hi * 2 ^ (jy - jx) - uM f lo := by
        have : 0 < (uM f hi * 2 ^ (jy - jx) - uM f lo) * 2 ^ jx := by rw [← ed]; omega
        exact Int.pos_of_mul_pos_left this px
      have D2 : uM f hi * 2 ^ (jy - jx) - uM f lo ≤ uM f lo := by
        apply Int.le_of_mul_le_mul_right _ px
        rw [← ed, ← xl]; omega
      have le3 := dcE_mono (E := -1099511628031) (show 0 ≤ vF f hi - vF f lo by omega) (show vF f hi - vF f lo ≤ vF f lo by omega)
      exact (dc_fits (j := jx) (M := uM f hi * 2 ^ (jy - jx) - uM f lo) f0 hf hm ed D1 (by omega) (by omega) (by omega)).1

theorem near_ad {f m a b : Int} (f0 : 0 ≤ f) (hf : f < 4) (hm : m < 5) (a0 : 0 ≤ a) (a1 : a < full) (b0 : 0 ≤ b) (b1 : b < full) (ca : clsF f a ≤ 2) (cb : clsF f b ≤ 2) (hn : negF f a = negF f b) :
    (szF f a ≤ szF f b → szF f b ≤ adB f 4 (szF f a) (szF f a) false → ∀ t, adFl f m t a b (!negF f b) = 0) ∧ (szF f b ≤ szF f a → szF f a ≤ adB f 4 (szF f b) (szF f b) false → ∀ t, adFl f m t a b (!negF f b) = 0) := by
  obtain ⟨pa, va⟩ := sz_same f0 hf a0 ca
  obtain ⟨pb, vb⟩ := sz_same f0 hf b0 cb
  obtain ⟨_, e2⟩ := ad_fin (m := m) (s := !negF f b) f0 hf hm a0 a1 b0 b1 ca cb
  obtain ⟨_, d2, _⟩ := ad_exact (m := m) (ng := adN f m a b (!negF f b)) (s := !negF f b) f0 a0 b0
  have nn : ¬ negF f a = !negF f b := by rw [hn]; cases negF f b <;> decide
  constructor
  · intro le tw t
    obtain ⟨k, z⟩ := near_zero (m := m) (ng := adN f m a b (!negF f b)) f0 hf hm pa pb le tw
    rw [va, vb] at k z
    have x : adX f a b (!negF f b) = vF f b - vF f a := by unfold adX; rw [if_neg nn]; split <;> omega
    rw [e2, d2, x]; exact z t
  · intro le tw t
    obtain ⟨k, z⟩ := near_zero (m := m) (ng := adN f m a b (!negF f b)) f0 hf hm pb pa le tw
    rw [va, vb] at k z
    have x : adX f a b (!negF f b) = vF f a - vF f b := by unfold adX; rw [if_neg nn]; split <;> omega
    rw [e2, d2, x]; exact z t

end Go.Proofs.YtjnohbpebdnngaaGreatDoor
