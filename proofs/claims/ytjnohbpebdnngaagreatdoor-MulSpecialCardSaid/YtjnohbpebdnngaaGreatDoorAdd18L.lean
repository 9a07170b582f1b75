/-
  Sums of two numbers of a format: what is tiny is exact; what a nought adds; both signs turned; near numbers; order; plain arithmetic.
-/
import Derived.Test.YtjnohbpebdnngaaGreatDoorAdd18M
set_option linter.unusedVariables false
set_option linter.unusedSimpArgs false
set_option maxRecDepth 100000
namespace Go.Proofs.YtjnohbpebdnngaaGreatDoor
open Go.RowKit

/-- What a sum of two finite numbers is. -/
theorem ad_res {f m a b : Int} {s : Bool} (f0 : 0 ≤ f) (hf : f < 4) (hm : m < 5) (a0 : 0 ≤ a) (a1 : a < full) (b0 : 0 ≤ b) (b1 : b < full) (ca : clsF f a ≤ 2) (cb : clsF f b ≤ 2) : ∀ B, adB f m a b s = B →
    0 ≤ B ∧ B < full ∧ cutF f B = B ∧ negF f B = adN f m a b s ∧ clsF f B ≤ 3 ∧ (clsF f B = 0 ↔ adX f a b s = 0) ∧ (∀ t, (adFl f m t a b s = 0 ∨ adFl f m t a b s = 16 ∨ adFl f m t a b s = 20) ∧ (clsF f B ≤ 1 → adFl f m t a b s = 0)) := by
  intro B hB
  obtain ⟨e1, e2⟩ := ad_fin (m := m) (s := s) f0 hf hm a0 a1 b0 b1 ca cb
  obtain ⟨d1, d2, d3⟩ := ad_exact (m := m) (ng := adN f m a b s) (s := s) f0 a0 b0
  have R := dc_unit (m := m) (ng := adN f m a b s) f0 hf hm (adX_range s f0 a0 b0).1 (ulpF f) (ulpF_eq f0 hf) (adX_unit s f0 hf a0 b0 ca cb) B (by rw [← d1, ← e1]; exact hB)
  obtain ⟨r1, r2, r3, r4, r5, r6, r7⟩ := R
  refine ⟨r1, r2, r3, r4, r5, r6, fun t => ?_⟩
  rw [e2, d2]; exact r7 t
/-- A number of the format is what its value is rounded to. -/
theorem dc_same {f m b : Int} (f0 : 0 ≤ f) (hf : f < 4) (hm : m < 5) (b0 : 0 ≤ b) (c : clsF f b ≤ 2) : dcB f m (negF f b) (vF f b) (-1099511628031) false = cutF f b ∧ ∀ t, dcFl f m t (negF f b) (vF f b) (-1099511628031) false = 0 := by
  obtain ⟨p1, p2⟩ := pk_same (m := m) f0 hf hm b0 c
  have r := room_u (f := f) f0 b0
  have er := uE_range (f := f) f0 b0
  obtain ⟨d1, d2⟩ := dc_pk (f := f) (m := m) (exp := uE f b) (x := uS f b * full) (ng := negF f b) f0 r.1 r.2.1
  rw [clip_id (by omega) (by omega)] at d1 d2
  have s := dc_scale (f := f) (m := m) (E := uE f b - 255) (ng := negF f b) (uE f b + 1099511627776).toNat r.1
  rw [show uE f b - 255 - (((uE f b + 1099511627776).toNat : Nat) : Int) = -1099511628031 by omega] at s
  have v : vF f b = uS f b * full * 2 ^ (uE f b + 1099511627776).toNat := by unfold vF baseT; rw [clT_u f0 b0]
  rw [v]
  exact ⟨s.1.trans (d1.trans p1), fun t => (s.2 t).trans ((d2 t).trans (p2 t))⟩
theorem adX_self (f a : Int) : adX f a a (!negF f a) = 0 := by
  unfold adX
  rw [if_neg (by cases negF f a <;> decide)]
  split <;> omega
/-- A difference is nought just of equal numbers. -/
theorem adX_zero {f a b : Int} (f0 : 0 ≤ f) (hf : f < 4) (a0 : 0 ≤ a) (b0 : 0 ≤ b) (ca : clsF f a ≤ 2) (cb : clsF f b ≤ 2) : adX f a b (!negF f b) = 0 ↔ (cutF f a = cutF f b ∨ (clsF f a = 0 ∧ clsF f b = 0)) := by
  have va := vF_nonneg f0 a0; have vb := vF_nonneg f0 b0
  have za := vF_zero f0 hf a0 ca; have zb := vF_zero f0 hf b0 cb
  have ex : adX f a b (!negF f b) = 0 ↔ (negF f a = negF f b ∧ vF f a = vF f b) ∨ (vF f a = 0 ∧ vF f b = 0) := by
    unfold adX
    by_cases h : negF f a = !negF f b
    · have hn : negF f a ≠ negF f b := by rw [h]; cases negF f b <;> decide
      rw [if_pos h]
      constructor
      · intro k; exact .inr (by omega)
      · rintro (⟨k, _⟩ | k)
        · exact absurd k hn
        · omega
    · have hn : negF f a = negF f b := by revert h; cases negF f a <;> cases negF f b <;> decide
      rw [if_neg h]
      constructor
      · intro k; exact .inl ⟨hn, by split at k <;> omega⟩
      · rintro (⟨_, k⟩ | k) <;> split <;> omega
  rw [ex]
  constructor
  · rintro (⟨h1, h2⟩ | h)
    · left
      rw [← (dc_same (m := 0) f0 hf (by decide) a0 ca).1, ← (dc_same (m := 0) f0 hf (by decide) b0 cb).1, h1, h2]
    · right; exact ⟨za.1 h.1, zb.1 h.2⟩
  · rintro (h | h)
    · left
      obtain ⟨e1, e2, e3⟩ := fields_of_cut f0 hf h
      have c := cls_congr (f := f) e2 e3
      have m : uM f a = uM f b := by unfold uM; rw [e2, e3]
      have x : uX f a = uX f b := by unfold uX; rw [e2]
      refine ⟨e1, ?_⟩
      unfold vF uE uS; rw [c, m, x]
    · right; exact ⟨za.2 h.1, zb.2 h.2⟩

/-! ### a nought -/
theorem inf_cut {f a : Int} (f0 : 0 ≤ f) (hf : f < 4) (a0 : 0 ≤ a) (c : clsF f a = 3) : infF f (negF f a) = cutF f a := by
  have ms := make_split f0 hf a0
  have : expF f a = 2 * fE f + 1 ∧ fracF f a = 0 := by
    unfold clsF at c; rw [if_pos hf] at c
    split at c
    · split at c <;> omega
    · split at c
      · split at c
        · rename_i a' b' c'; exact ⟨b', c'⟩
        · split at c <;> omega
      · omega
  rw [this.1, this.2] at ms; exact ms
theorem ad_nought {f m a z : Int} (s : Bool) (f0 : 0 ≤ f) (hf : f < 4) (hm : m < 5) (a0 : 0 ≤ a) (a1 : a < full) (z0 : 0 ≤ z) (z1 : z < full) (cz : clsF f z = 0) (na : nanF f a = false) :
    (clsF f a = 0 → clsF f (adB f m a z s) = 0 ∧ ∀ t, adFl f m t a z s = 0) ∧ (clsF f a ≠ 0 → adB f m a z s = cutF f a ∧ ∀ t, adFl f m t a z s = 0) := by
  have c4 : clsF f a ≤ 3 := by unfold nanF at na; have := of_decide_eq_false na; omega
  have vz := (vF_zero f0 hf z0 (by omega)).2 cz
  by_cases c3 : clsF f a = 3
  · refine ⟨fun h => by omega, fun _ => ?_⟩
    have nz : nanF f z = false := by unfold nanF; rw [cz]; rfl
    have ii : adI f a z s = false := by unfold adI; rw [decide_eq_false]; omega
    have an : anyN f [a, z] = false := by unfold anyN; simp [Int.emod_eq_of_lt a0 a1, Int.emod_eq_of_lt z0 z1, na, nz]
    obtain ⟨_, _, k3⟩ := pick_none (f := f) [a, z] an
    unfold adB adFl
    simp only [if_pos (show f < 4 ∧ m < 5 from ⟨hf, hm⟩), ii, k3, if_neg (show ¬ (false = true) by decide), if_pos c3]
    exact ⟨inf_cut f0 hf a0 c3, fun _ => trivial⟩
  · have ca : clsF f a ≤ 2 := by omega
    obtain ⟨r1, r2, r3, r4, r5, r6, r7⟩ := ad_res (s := s) f0 hf hm a0 a1 z0 z1 ca (by omega) _ rfl
    have va := vF_nonneg f0 a0
    have xa : adX f a z s = vF f a := by unfold adX; rw [vz]; repeat' split
                                         all_goals omega
    constructor
    · intro h
      have z' := r6.2 (by rw [xa]; exact (vF_zero f0 hf a0 ca).2 h)
      exact ⟨z', fun t => (r7 t).2 (by omega)⟩
    · intro h
      have nz : vF f a ≠ 0 := fun k => h ((vF_zero f0 hf a0 ca).1 k)
      obtain ⟨e1, e2⟩ := ad_fin (m := m) (s := s) f0 hf hm a0 a1 z0 z1 ca (by omega)
      obtain ⟨d1, d2, d3⟩ := ad_exact (m := m) (ng := adN f m a z s) (s := s) f0 a0 z0
      have sn : adN f m a z s = negF f a := by
        unfold adN
        rw [if_neg (fun k => nz (by rw [← xa]; exact d3.1 k))]
        unfold adT
        split
        · rfl
        · rw [if_neg]
          rw [cmpT_base, cmpI_lti]
          show ¬ vF f a < vF f z
          omega
      obtain ⟨g1, g2⟩ := dc_same (m := m) f0 hf hm a0 ca
      rw [e1, d1, xa, sn]
      refine ⟨g1, fun t => ?_⟩
      rw [e2, d2, xa, sn]; exact g2 t
theorem fl_and {x : Int} (h : x = 0 ∨ x = 16 ∨ x = 20) : bits .and .u8 x 8 = 0 ∧ bits .and .u8 x 3 = 0 := by
  rcases h with rfl | rfl | rfl <;> decide +kernel

/-! ### no order; both signs turned -/
theorem any_two {f a b : Int} (a0 : 0 ≤ a) (a1 : a < full) (b0 : 0 ≤ b) (b1 : b < full) (na : nanF f a = false) (nb : nanF f b = false) : anyN f [a, b] = false ∧ firstV f [a, b] = defF f := by
  constructor
  · unfold anyN; simp [Int.emod_eq_of_lt a0 a1, Int.emod_eq_of_lt b0 b1, na, nb]
  · unfold firstV; simp [List.find?, Int.emod_eq_of_lt a0 a1, Int.emod_eq_of_lt b0 b1, na, nb]
/-- What comes of two that are no NaNs. -/
theorem ad_some {f m a b : Int} {s : Bool} (hf : f < 4) (hm : m < 5) (a0 : 0 ≤ a) (a1 : a < full) (b0 : 0 ≤ b) (b1 : b < full) (na : nanF f a = false) (nb : nanF f b = false) :
    adB f m a b s = (if adI f a b s then defF f else if clsF f a = 3 then infF f (negF f a) else if clsF f b = 3 then infF f s else pkB f m (adN f m a b s) (adE f a b s) (adS f a b s)) ∧
    ∀ t, adFl f m t a b s = (if adI f a b s then 1 else if clsF f a = 3 then 0 else if clsF f b = 3 then 0 else pkFl f m t (adN f m a b s) (adE f a b s) (adS f a b s)) := by
  obtain ⟨an, fv⟩ := any_two a0 a1 b0 b1 na nb
  unfold adB adFl
  simp only [if_pos (show f < 4 ∧ m < 5 from ⟨hf, hm⟩)]
  cases adI f a b s with
  | true =>
    obtain ⟨k1, k2, k3⟩ := pick_inv hf [a, b]
    simp only [k1, k2, k3, fv, if_pos (rfl : true = true)]
    exact ⟨trivial, fun _ => trivial⟩
  | false =>
    obtain ⟨k1, k2, k3⟩ := pick_none (f := f) [a, b] an
    simp only [k3, if_neg (show ¬ (false = true) by decide)]
    exact ⟨trivial, fun _ => trivial⟩
theorem adE_turn (f a b : Int) : adE f b a (negF f a) = adE f a b (negF f b) ∧ adS f b a (negF f a) = adS f a b (negF f b) := by
  unfold adE adS
  by_cases h : negF f a = negF f b
  · rw [if_pos h.symm, if_pos h, if_pos h.symm, if_pos h, lev_turn, sum_turn]; exact ⟨rfl, rfl⟩
  · rw [if_neg (fun k => h k.symm), if_neg h, if_neg (fun k => h k.symm), if_neg h, lev_turn, diff_turn]; exact ⟨rfl, rfl⟩
theorem noM_turn (m : Int) (a b : Bool) : noM m b a = noM m a b := by unfold noM; cases a <;> cases b <;> rfl
theorem adN_turn (f m a b : Int) : adN f m b a (negF f a) = adN f m a b (negF f b) := by
  unfold adN
  rw [(adE_turn f a b).2]
  by_cases z : adS f a b (negF f b) = 0
  · rw [if_pos z, if_pos z]; exact noM_turn ..
  · rw [if_neg z, if_neg z]
    unfold adT
    by_cases h : negF f a = negF f b
    · rw [if_pos h.symm, if_pos h, h]
    · rw [if_neg (fun k => h k.symm), if_neg h]
      have ct := cmpT_turn (uE f a) (uS f a * full) (uE f b) (uS f b * full)
      have nz : cmpT (uE f a) (uS f a * full) (uE f b) (uS f b * full) ≠ 0 := fun k => z (by unfold adS; rw [if_neg h]; exact diff_same k)
      by_cases c : cmpT (uE f a) (uS f a * full) (uE f b) (uS f b * full) < 0
      · rw [if_neg (by omega), if_pos c]
      · rw [if_pos (by omega), if_neg c]
theorem ad_comm {f m a b : Int} (f0 : 0 ≤ f) (hf : f < 4) (hm : m < 5) (a0 : 0 ≤ a) (a1 : a < full) (b0 : 0 ≤ b) (b1 : b < full) (na : nanF f a = false) (nb : nanF f b = false) : adB f m b a (negF f a) = adB f m a b (negF f b) ∧ ∀ t, adFl f m t b a (negF f a) = adFl f m t a b (negF f b) := by
  obtain ⟨e1, e2⟩ := ad_some (m := m) (s := negF f b) hf hm a0 a1 b0 b1 na nb
  obtain ⟨g1, g2⟩ := ad_some (m := m) (s := negF f a) hf hm b0 b1 a0 a1 nb na
  have ii : adI f b a (negF f a) = adI f a b (negF f b) := by
    unfold adI; rw [decide_eq_decide]; constructor <;> rintro ⟨x, y, z⟩ <;> exact ⟨y, x, fun k => z k.symm⟩
  have sg : clsF f a = 3 → clsF f b = 3 → adI f a b (negF f b) = false → negF f a = negF f b := fun x y z => by
    unfold adI at z
    have := of_decide_eq_false z
    apply Classical.byContradiction; intro k; exact this ⟨x, y, k⟩
  obtain ⟨t1, t2⟩ := adE_turn f a b
  rw [e1, g1, ii, t1, t2, adN_turn]
  constructor
  · cases hi : adI f a b (negF f b) with
    | true => rfl
    | false =>
      simp only [if_neg (show ¬ (false = true) by decide)]
      by_cases c3 : clsF f a = 3
      · by_cases d3 : clsF f b = 3
        · simp only [if_pos c3, if_pos d3, sg c3 d3 hi]
        · simp only [if_pos c3, if_neg d3]
      · by_cases d3 : clsF f b = 3
        · simp only [if_neg c3, if_pos d3]
        · simp only [if_neg c3, if_neg d3]
  · intro t
    rw [e2, g2, ii, t1, t2, adN_turn]
    cases adI f a b (negF f b) with
    | true => rfl
    | false =>
      simp only [if_neg (show ¬ (false = true) by decide)]
      by_cases c3 : clsF f a = 3 <;> by_cases d3 : clsF f b = 3 <;> simp only [c3, d3, if_true, if_false]
theorem turn_make {f : Int} (f0 : 0 ≤ f) (hf : f < 4) (ng : Bool) (e k : Int) : turnF f (makeF f ng e k) = makeF f (!ng) e k := by
  obtain ⟨m1, m2, m3⟩ := make_fields f0 hf ng e k
  obtain ⟨r0, r1⟩ := expOf_range f0 hf e
  unfold turnF
  rw [m1, m2, m3]
  unfold makeF
  rw [if_pos hf, if_pos hf, expOf_id f0 hf r0 r1, Int.emod_emod]
theorem turn_up {f v : Int} (f0 : 0 ≤ f) (hf : f < 4) (v0 : 0 ≤ v) (v1 : v < 2 ^ (fW f - 1)) : turnF f v = v + 2 ^ (fW f - 1) ∧ turnF f (v + 2 ^ (fW f - 1)) = v := by
  obtain ⟨p0, p1, p2, p3, p4, p5, p6, p7, p8⟩ := f_nums f0 hf
  have hW : (2 : Int) ^ fW f = 2 ^ (fW f - 1) * 2 := pow_top (show 1 ≤ fW f by omega)
  have hp := two_pow_pos (fW f - 1)
  have n0 : negF f v = false := by unfold negF; rw [Int.ediv_eq_zero_of_lt v0 v1]; rfl
  have n1 : negF f (v + 2 ^ (fW f - 1)) = true := by
    unfold negF
    rw [show v + 2 ^ (fW f - 1) = v + 1 * 2 ^ (fW f - 1) by omega, Int.add_mul_ediv_right _ _ (by omega), Int.ediv_eq_zero_of_lt v0 v1, decide_eq_true hf]; rfl
  have s0 := make_split f0 hf v0
  have s1 := make_split f0 hf (b := v + 2 ^ (fW f - 1)) (by omega)
  have c0 : cutF f v = v := by unfold cutF; exact Int.emod_eq_of_lt v0 (by omega)
  have c1 : cutF f (v + 2 ^ (fW f - 1)) = v + 2 ^ (fW f - 1) := by unfold cutF; exact Int.emod_eq_of_lt (by omega) (by omega)
  rw [n0, c0] at s0
  rw [n1, c1, make_sign hf] at s1
  unfold turnF
  rw [n0, n1]
  refine ⟨?_, ?_⟩
  · rw [show (!false) = true from rfl, make_sign hf, s0]
  · rw [show (!true) = false from rfl]; omega
theorem pk_low {f m ex x : Int} (f0 : 0 ≤ f) (hf : f < 4) (hm : m < 5) (x0 : 0 ≤ x) (x1 : x < wfull) : 0 ≤ pkB f m false ex x ∧ pkB f m false ex x < 2 ^ (fW f - 1) := by
  by_cases z : x = 0
  · subst z
    rw [(pk_zero hf hm).1, nought_val f0 hf, if_neg (by decide)]; exact ⟨Int.le_refl _, two_pow_pos _⟩
  · rw [(pk_num hf hm z).1]
    obtain ⟨s0, s1⟩ := pkS_range (show 0 < x by omega) x1
    have := num_range (e := pkE ex x) f0 hf hm s0 s1
    have := inf_lt f0 hf
    omega
/-- The mirrored mode, the other sign. -/
theorem pk_turn {f m ex x : Int} (ng : Bool) (f0 : 0 ≤ f) (hf : f < 4) (hm : m < 5) (x0 : 0 ≤ x) (x1 : x < wfull) : pkB f (mirM m) (!ng) ex x = turnF f (pkB f m ng ex x) ∧ ∀ t, pkFl f (mirM m) t (!ng) ex x = pkFl f m t ng ex x := by
  have m5 : mirM m < 5 := by have := mir_known m; rw [decide_eq_decide] at this; exact this.2 hm
  cases ng with
  | false =>
    obtain ⟨a, b⟩ := pk_mir (exp := ex) (x := x) f0 hf hm
    obtain ⟨l0, l1⟩ := pk_low (ex := ex) f0 hf hm x0 x1
    rw [show (!false) = true from rfl, a, (turn_up f0 hf l0 l1).1]
    exact ⟨rfl, b⟩
  | true =>
    obtain ⟨a, b⟩ := pk_mir (exp := ex) (x := x) f0 hf m5
    obtain ⟨l0, l1⟩ := pk_low (ex := ex) f0 hf m5 x0 x1
    rw [mir_mir] at a b
    rw [show (!true) = false from rfl, a, (turn_up f0 hf l0 l1).2]
    exact ⟨rfl, fun t => (b t).symm⟩
theorem turn_ad {f m a b : Int} (f0 : 0 ≤ f) (hf : f < 4) (m0 : 0 ≤ m) (hm : m < 5) (a0 : 0 ≤ a) (a1 : a < full) (b0 : 0 ≤ b) (b1 : b < full) (na : nanF f a = false) (nb : nanF f b = false) : ∀ x y, adB f m a b (negF f b) = x → adB f (mirM m) (turnF f a) (turnF f b) (negF f (turnF f b)) = y →
    0 ≤ x ∧ x < full ∧ 0 ≤ y ∧ y < full ∧ (∀ t, adFl f (mirM m) t (turnF f a) (turnF f b) (negF f (turnF f b)) = adFl f m t a b (negF f b)) ∧
    ((nanF f x = true ∧ y = x) ∨ (nanF f x = false ∧ (y = turnF f x ∨ (clsF f x = 0 ∧ clsF f y = 0 ∧ (m ≤ 1 ∨ m = 4))))) := by
  intro x y hx hy
  have m5 : mirM m < 5 := by have := mir_known m; rw [decide_eq_decide] at this; exact this.2 hm
  obtain ⟨ta, ea, sa, ga⟩ := turn_same f0 hf a0
  obtain ⟨tb, eb, sb, gb⟩ := turn_same f0 hf b0
  obtain ⟨ta0, ta1⟩ := turn_full (f := f) (b := a) f0
  obtain ⟨tb0, tb1⟩ := turn_full (f := f) (b := b) f0
  have na' : nanF f (turnF f a) = false := by unfold nanF at *; rw [ta]; exact na
  have nb' : nanF f (turnF f b) = false := by unfold nanF at *; rw [tb]; exact nb
  obtain ⟨e1, e2⟩ := ad_some (m := m) (s := negF f b) hf hm a0 a1 b0 b1 na nb
  obtain ⟨g1, g2⟩ := ad_some (m := mirM m) (s := negF f (turnF f b)) hf m5 ta0 ta1 tb0 tb1 na' nb'
  have ii : adI f (turnF f a) (turnF f b) (negF f (turnF f b)) = adI f a b (negF f b) := by
    unfold adI; rw [ta, tb, ga, gb]; cases negF f a <;> cases negF f b <;> simp
  have nn : ((!negF f a) = (!negF f b)) ↔ negF f a = negF f b := by cases negF f a <;> cases negF f b <;> simp
  have EE : adE f (turnF f a) (turnF f b) (negF f (turnF f b)) = adE f a b (negF f b) := by
    unfold adE; rw [ga, gb, ea, sa, eb, sb]; simp only [nn]
  have SS : adS f (turnF f a) (turnF f b) (negF f (turnF f b)) = adS f a b (negF f b) := by
    unfold adS; rw [ga, gb, ea, sa, eb, sb]; simp only [nn]
  obtain ⟨er0, er1, sr0, sr1⟩ := ad_range (f := f) (negF f b) f0 a0 b0
  rw [e1] at hx
  rw [g1, ii, ta, tb, EE, SS, ga, gb] at hy
  rw [ii, ta, tb, EE, SS] at g2
  cases hi : adI f a b (negF f b) with
  | true =>
    rw [hi, if_pos rfl] at hx hy
    have d := def_full f0 (f := f)
    have dc := (def_cls f0 hf).1
    rw [← hx, ← hy]
    refine ⟨d.1, d.2, d.1, d.2, fun t => ?_, .inl ⟨by unfold nanF; rw [dc]; rfl, rfl⟩⟩
    rw [g2, e2, hi, if_pos rfl, if_pos rfl]
  | false =>
    have inf : ∀ g : Bool, 0 ≤ infF f g ∧ infF f g < full ∧ nanF f (infF f g) = false := fun g => by
      have := make_full f0 (f := f) g (2 * fE f + 1) 0
      exact ⟨this.1, this.2, by unfold nanF; rw [(inf_cls f0 hf g).1]; rfl⟩
    simp only [hi, if_neg (show ¬ (false = true) by decide)] at hx hy g2 e2
    by_cases c3 : clsF f a = 3
    · simp only [if_pos c3] at hx hy g2 e2
      rw [← hx, ← hy]
      exact ⟨(inf _).1, (inf _).2.1, (inf _).1, (inf _).2.1, fun t => by rw [g2, e2], .inr ⟨(inf _).2.2, .inl (turn_make f0 hf _ _ _).symm⟩⟩
    · simp only [if_neg c3] at hx hy g2 e2
      by_cases d3 : clsF f b = 3
      · simp only [if_pos d3] at hx hy g2 e2
        rw [← hx, ← hy]
        exact ⟨(inf _).1, (inf _).2.1, (inf _).1, (inf _).2.1, fun t => by rw [g2, e2], .inr ⟨(inf _).2.2, .inl (turn_make f0 hf _ _ _).symm⟩⟩
      · simp only [if_neg d3] at hx hy g2 e2
        by_cases z : adS f a b (negF f b) = 0
        · have n1 : adN f m a b (negF f b) = noM m (negF f a) (negF f b) := by unfold adN; rw [if_pos z]
          have n2 : adN f (mirM m) (turnF f a) (turnF f b) (negF f (turnF f b)) = noM (mirM m) (!negF f a) (!negF f b) := by unfold adN; rw [if_pos (by rw [SS]; exact z), ga, gb]
          rw [gb] at n2
          rw [n1, z, (pk_zero hf hm).1] at hx
          rw [n2, z, (pk_zero hf m5).1] at hy
          have ck : ∀ g : Bool, 0 ≤ makeF f g 0 0 ∧ makeF f g 0 0 < full ∧ clsF f (makeF f g 0 0) = 0 := fun g => by
            have := make_full f0 (f := f) g 0 0
            exact ⟨this.1, this.2, (nought_cls f0 hf g).1⟩
          rw [← hx, ← hy]
          refine ⟨(ck _).1, (ck _).2.1, (ck _).1, (ck _).2.1, fun t => ?_, .inr ⟨by unfold nanF; rw [(ck _).2.2]; rfl, ?_⟩⟩
          · rw [g2, e2, z, (pk_zero hf m5).2, (pk_zero hf hm).2]
          · by_cases mm : m ≤ 1 ∨ m = 4
            · exact .inr ⟨(ck _).2.2, (ck _).2.2, mm⟩
            · left
              rw [turn_make f0 hf]
              congr 1
              rcases (show m = 2 ∨ m = 3 by omega) with rfl | rfl <;> cases negF f a <;> cases negF f b <;> rfl
        · have n2 : adN f (mirM m) (turnF f a) (turnF f b) (!negF f b) = !adN f m a b (negF f b) := by
            rw [← gb]
            unfold adN; rw [if_neg (by rw [SS]; exact z), if_neg z]
            unfold adT
            rw [ga, gb, ea, sa, eb, sb]
            simp only [nn]
            split
            · rfl
            · split <;> rfl
          obtain ⟨p1, p2⟩ := pk_turn (ex := adE f a b (negF f b)) (x := adS f a b (negF f b)) (adN f m a b (negF f b)) f0 hf hm sr0 sr1
          obtain ⟨v0, v1, v2, v3⟩ := pk_class (ex := adE f a b (negF f b)) (ng := adN f m a b (negF f b)) f0 hf hm sr0 sr1
          rw [n2, p1, hx] at hy
          rw [hx] at v0 v1 v3
          obtain ⟨w0, w1⟩ := turn_full (f := f) (b := x) f0
          rw [hy] at w0 w1
          refine ⟨v0, v1, w0, w1, fun t => ?_, .inr ⟨by unfold nanF; rw [decide_eq_false]; rcases v3 with h | ⟨h, _⟩ <;> omega, .inl hy.symm⟩⟩
          rw [gb] at g2
          rw [gb, g2, e2, n2, p2]

end Go.Proofs.YtjnohbpebdnngaaGreatDoor
