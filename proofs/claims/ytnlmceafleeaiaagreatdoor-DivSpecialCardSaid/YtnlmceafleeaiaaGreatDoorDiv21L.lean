import Derived.Test.YtnlmceafleeaiaaGreatDoorGvA
import Derived.Test.YtnlmceafleeaiaaGreatDoorMul19L
import Derived.Test.YtnlmceafleeaiaaGreatDoorRest0
set_option linter.unusedVariables false
set_option linter.unusedSimpArgs false
set_option maxRecDepth 100000
namespace Go.Proofs.YtnlmceafleeaiaaGreatDoor
open Go.RowKit
theorem dv_congr {f m a b a' b' : Int} (hf : f < 4) (hm : m < 5) (a0 : 0 ≤ a) (a1 : a < full) (b0 : 0 ≤ b) (b1 : b < full) (a0' : 0 ≤ a') (a1' : a' < full) (b0' : 0 ≤ b') (b1' : b' < full) (na : nanF f a = false) (nb : nanF f b = false)
    (ca : clsF f a' = clsF f a) (ea : uE f a' = uE f a) (sa : uS f a' = uS f a) (cb : clsF f b' = clsF f b) (eb : uE f b' = uE f b) (sb : uS f b' = uS f b) (hn : mlN f a' b' = mlN f a b) :
    dvB f m a' b' = dvB f m a b ∧ ∀ t, dvFl f m t a' b' = dvFl f m t a b := by
  obtain ⟨e1, e2⟩ := dv_some (m := m) hf hm a0 a1 b0 b1 na nb
  obtain ⟨g1, g2⟩ := dv_some (m := m) hf hm a0' a1' b0' b1' (by unfold nanF at *; rw [ca]; exact na) (by unfold nanF at *; rw [cb]; exact nb)
  have i : dvI f a' b' = dvI f a b := by unfold dvI; rw [ca, cb]
  have e : dvE f a' b' = dvE f a b := by unfold dvE; rw [ea, eb]
  have s : dvS f a' b' = dvS f a b := by unfold dvS; rw [sa, sb]
  rw [e1, g1, i, e, s, ca, cb, hn]
  refine ⟨rfl, fun t => ?_⟩
  rw [e2, g2, i, e, s, ca, cb, hn]
theorem dv_turn2 {f m a b : Int} (f0 : 0 ≤ f) (hf : f < 4) (hm : m < 5) (a0 : 0 ≤ a) (a1 : a < full) (b0 : 0 ≤ b) (b1 : b < full) (na : nanF f a = false) (nb : nanF f b = false) : (dvB f m (turnF f a) (turnF f b) = dvB f m a b ∧ ∀ t, dvFl f m t (turnF f a) (turnF f b) = dvFl f m t a b) ∧ (dvB f m a (turnF f b) = dvB f m (turnF f a) b ∧ ∀ t, dvFl f m t a (turnF f b) = dvFl f m t (turnF f a) b) := by
  obtain ⟨ta, ea, sa, ga⟩ := turn_same f0 hf a0
  obtain ⟨tb, eb, sb, gb⟩ := turn_same f0 hf b0
  obtain ⟨ta0, ta1⟩ := turn_full (f := f) (b := a) f0
  obtain ⟨tb0, tb1⟩ := turn_full (f := f) (b := b) f0
  have na' : nanF f (turnF f a) = false := by unfold nanF at *; rw [ta]; exact na
  exact ⟨dv_congr hf hm a0 a1 b0 b1 ta0 ta1 tb0 tb1 na nb ta ea sa tb eb sb (by unfold mlN; rw [ga, gb]; cases negF f a <;> cases negF f b <;> rfl),
    dv_congr hf hm ta0 ta1 b0 b1 a0 a1 tb0 tb1 na' nb ta.symm ea.symm sa.symm tb eb sb (by unfold mlN; rw [ga, gb]; cases negF f a <;> cases negF f b <;> rfl)⟩
theorem dv_turn {f m a b : Int} (f0 : 0 ≤ f) (hf : f < 4) (hm : m < 5) (a0 : 0 ≤ a) (a1 : a < full) (b0 : 0 ≤ b) (b1 : b < full) (na : nanF f a = false) (nb : nanF f b = false) : ∀ x y, dvB f m a b = x → dvB f (mirM m) (turnF f a) b = y →
    0 ≤ x ∧ x < full ∧ 0 ≤ y ∧ y < full ∧ (∀ t, dvFl f (mirM m) t (turnF f a) b = dvFl f m t a b) ∧ ((nanF f x = true ∧ y = x) ∨ (nanF f x = false ∧ y = turnF f x)) := by
  intro x y hx hy
  have m5 : mirM m < 5 := by have := mir_known m; rw [decide_eq_decide] at this; exact this.2 hm
  obtain ⟨ta, ea, sa, ga⟩ := turn_same f0 hf a0
  obtain ⟨ta0, ta1⟩ := turn_full (f := f) (b := a) f0
  have na' : nanF f (turnF f a) = false := by unfold nanF at *; rw [ta]; exact na
  obtain ⟨e1, e2⟩ := dv_some (m := m) hf hm a0 a1 b0 b1 na nb
  obtain ⟨g1, g2⟩ := dv_some (m := mirM m) hf m5 ta0 ta1 b0 b1 na' nb
  have ii : dvI f (turnF f a) b = dvI f a b := by unfold dvI; rw [ta]
  have EE : dvE f (turnF f a) b = dvE f a b := by unfold dvE; rw [ea]
  have SS : dvS f (turnF f a) b = dvS f a b := by unfold dvS; rw [sa]
  have NN : mlN f (turnF f a) b = !mlN f a b := by unfold mlN; rw [ga]; cases negF f a <;> cases negF f b <;> rfl
  have ra := cls_range f a; have rb := cls_range f b
  have qa : clsF f a ≤ 3 := by unfold nanF at na; have := of_decide_eq_false na; omega
  have qb : clsF f b ≤ 3 := by unfold nanF at nb; have := of_decide_eq_false nb; omega
  rw [e1] at hx
  rw [g1, ii, ta, EE, SS, NN] at hy
  rw [ii, ta, EE, SS, NN] at g2
  have mk : ∀ (e k : Int) (n : Bool), clsF f (makeF f n e k) ≤ 3 → 0 ≤ makeF f n e k ∧ makeF f n e k < full ∧ 0 ≤ makeF f (!n) e k ∧ makeF f (!n) e k < full ∧ ((nanF f (makeF f n e k) = true ∧ makeF f (!n) e k = makeF f n e k) ∨ (nanF f (makeF f n e k) = false ∧ makeF f (!n) e k = turnF f (makeF f n e k))) := fun e k n h => by
    have p := make_full f0 (f := f) n e k; have q := make_full f0 (f := f) (!n) e k
    exact ⟨p.1, p.2, q.1, q.2, .inr ⟨num_nan h, (turn_make f0 hf _ _ _).symm⟩⟩
  have inf := mk (2 * fE f + 1) 0 (mlN f a b) (by have := (inf_cls f0 hf (mlN f a b)).1; unfold infF at this; omega)
  have nou := mk 0 0 (mlN f a b) (by have := (nought_cls f0 hf (mlN f a b)).1; omega)
  cases hi : dvI f a b with
  | true =>
    rw [hi, if_pos rfl] at hx hy
    have d := def_full f0 (f := f)
    have dc := (def_cls f0 hf).1
    rw [← hx, ← hy]
    refine ⟨d.1, d.2, d.1, d.2, fun t => ?_, .inl ⟨by unfold nanF; rw [dc]; rfl, rfl⟩⟩
    rw [g2, e2, hi, if_pos rfl, if_pos rfl]
  | false =>
    simp only [hi, if_neg (show ¬ (false = true) by decide)] at hx hy g2 e2
    by_cases c1 : clsF f a = 3
    · simp only [if_pos c1] at hx hy g2 e2
      rw [← hx, ← hy]
      exact ⟨inf.1, inf.2.1, inf.2.2.1, inf.2.2.2.1, fun t => by rw [g2, e2], inf.2.2.2.2⟩
    · simp only [if_neg c1] at hx hy g2 e2
      by_cases c2 : clsF f b = 3 ∨ clsF f a = 0
      · simp only [if_pos c2] at hx hy g2 e2
        rw [← hx, ← hy]
        exact ⟨nou.1, nou.2.1, nou.2.2.1, nou.2.2.2.1, fun t => by rw [g2, e2], nou.2.2.2.2⟩
      · simp only [if_neg c2] at hx hy g2 e2
        by_cases c3 : clsF f b = 0
        · simp only [if_pos c3] at hx hy g2 e2
          rw [← hx, ← hy]
          exact ⟨inf.1, inf.2.1, inf.2.2.1, inf.2.2.2.1, fun t => by rw [g2, e2], inf.2.2.2.2⟩
        · simp only [if_neg c3] at hx hy g2 e2
          obtain ⟨s0, s1⟩ := dv_range f0 hf a0 b0 (show clsF f a = 1 ∨ clsF f a = 2 by omega) (show clsF f b = 1 ∨ clsF f b = 2 by omega)
          have hp := two_pow_pos 254
          have sr0 : 0 ≤ dvS f a b := by omega
          obtain ⟨p1, p2⟩ := pk_turn (ex := dvE f a b) (x := dvS f a b) (mlN f a b) f0 hf hm sr0 s1
          obtain ⟨v0, v1, v2, v3⟩ := pk_class (ex := dvE f a b) (ng := mlN f a b) f0 hf hm sr0 s1
          rw [p1, hx] at hy
          rw [hx] at v0 v1 v3
          obtain ⟨w0, w1⟩ := turn_full (f := f) (b := x) f0
          rw [hy] at w0 w1
          refine ⟨v0, v1, w0, w1, fun t => by rw [g2, e2]; exact p2 t, .inr ⟨num_nan (by rcases v3 with h | ⟨h, _⟩ <;> omega), hy.symm⟩⟩
theorem dv_special {f m a z i : Int} {ng : Bool} (f0 : 0 ≤ f) (hf : f < 4) (hm : m < 5) (a0 : 0 ≤ a) (a1 : a < full) (ca : clsF f a = 1 ∨ clsF f a = 2) (z0 : 0 ≤ z) (z1 : z < full) (cz : clsF f z = 0) (nz : negF f z = ng) (i0 : 0 ≤ i) (i1 : i < full) (ci : clsF f i = 3) (ni : negF f i = ng) : ∀ g : Bool, (ng != negF f a) = g →
    (dvB f m a z = infF f g ∧ ∀ t, dvFl f m t a z = 2) ∧ (dvB f m z a = makeF f g 0 0 ∧ ∀ t, dvFl f m t z a = 0) ∧ (dvB f m a i = makeF f g 0 0 ∧ ∀ t, dvFl f m t a i = 0) ∧ (dvB f m i a = infF f g ∧ ∀ t, dvFl f m t i a = 0) ∧
    (∀ t, dvFl f m t z z = 1) ∧ (∀ t, dvFl f m t i i = 1) ∧ (dvB f m i z = infF f false ∧ ∀ t, dvFl f m t i z = 0) ∧ (dvB f m z i = makeF f false 0 0 ∧ ∀ t, dvFl f m t z i = 0) := by
  intro g hg
  have na := num_nan (f := f) (a := a) (by omega)
  have nnz := num_nan (f := f) (a := z) (by omega)
  have nni := num_nan (f := f) (a := i) (by omega)
  have no : ∀ x y, (clsF f x = 0 → clsF f y ≠ 0) → (clsF f x = 3 → clsF f y ≠ 3) → dvI f x y = false := fun x y h1 h2 => by
    unfold dvI badD; rw [decide_eq_false]; rintro (⟨h, k⟩ | ⟨h, k⟩)
    · exact h1 h k
    · exact h2 h k
  have ye : ∀ x y, (clsF f x = 0 ∧ clsF f y = 0) ∨ (clsF f x = 3 ∧ clsF f y = 3) → dvI f x y = true := fun x y h => by
    unfold dvI badD; rw [decide_eq_true]; exact h
  have n1 : mlN f a z = g := by unfold mlN; rw [nz, ← hg]; cases negF f a <;> cases ng <;> rfl
  have n2 : mlN f z a = g := by unfold mlN; rw [nz, ← hg]
  have n3 : mlN f a i = g := by unfold mlN; rw [ni, ← hg]; cases negF f a <;> cases ng <;> rfl
  have n4 : mlN f i a = g := by unfold mlN; rw [ni, ← hg]
  have n5 : mlN f i z = false := by unfold mlN; rw [ni, nz]; cases ng <;> rfl
  have n6 : mlN f z i = false := by unfold mlN; rw [ni, nz]; cases ng <;> rfl
  have ff : ¬ (false = true) := by decide
  refine ⟨?_, ?_, ?_, ?_, ?_, ?_, ?_, ?_⟩
  · obtain ⟨e1, e2⟩ := dv_some (m := m) hf hm a0 a1 z0 z1 na nnz
    have j := no a z (by omega) (by omega)
    simp only [j, if_neg ff, if_neg (show ¬ clsF f a = 3 by omega), if_neg (show ¬ (clsF f z = 3 ∨ clsF f a = 0) by omega), if_pos cz, n1] at e1 e2
    exact ⟨e1, e2⟩
  · obtain ⟨e1, e2⟩ := dv_some (m := m) hf hm z0 z1 a0 a1 nnz na
    have j := no z a (by omega) (by omega)
    simp only [j, if_neg ff, if_neg (show ¬ clsF f z = 3 by omega), if_pos (show clsF f a = 3 ∨ clsF f z = 0 from .inr cz), n2] at e1 e2
    exact ⟨e1, e2⟩
  · obtain ⟨e1, e2⟩ := dv_some (m := m) hf hm a0 a1 i0 i1 na nni
    have j := no a i (by omega) (by omega)
    simp only [j, if_neg ff, if_neg (show ¬ clsF f a = 3 by omega), if_pos (show clsF f i = 3 ∨ clsF f a = 0 from .inl ci), n3] at e1 e2
    exact ⟨e1, e2⟩
  · obtain ⟨e1, e2⟩ := dv_some (m := m) hf hm i0 i1 a0 a1 nni na
    have j := no i a (by omega) (by omega)
    simp only [j, if_neg ff, if_pos ci, n4] at e1 e2
    exact ⟨e1, e2⟩
  · obtain ⟨e1, e2⟩ := dv_some (m := m) hf hm z0 z1 z0 z1 nnz nnz
    have j := ye z z (.inl ⟨cz, cz⟩)
    simp only [j, if_true] at e2
    exact e2
  · obtain ⟨e1, e2⟩ := dv_some (m := m) hf hm i0 i1 i0 i1 nni nni
    have j := ye i i (.inr ⟨ci, ci⟩)
    simp only [j, if_true] at e2
    exact e2
  · obtain ⟨e1, e2⟩ := dv_some (m := m) hf hm i0 i1 z0 z1 nni nnz
    have j := no i z (by omega) (by omega)
    simp only [j, if_neg ff, if_pos ci, n5] at e1 e2
    exact ⟨e1, e2⟩
  · obtain ⟨e1, e2⟩ := dv_some (m := m) hf hm z0 z1 i0 i1 nnz nni
    have j := no z i (by omega) (by omega)
    simp only [j, if_neg ff, if_neg (show ¬ clsF f z = 3 by omega), if_pos (show clsF f i = 3 ∨ clsF f z = 0 from .inl ci), n6] at e1 e2
    exact ⟨e1, e2⟩
theorem dvQ_pow (s : Int) : dvQ s (2 ^ 127) = s * full := by
  have e : s * full = s * 2 * 2 ^ 127 := by rw [Int.mul_assoc]; rfl
  unfold dvQ
  rw [e, mul_pow_div, Int.mul_emod_left, if_pos rfl, Int.add_zero]
theorem dv_pow {f m a e : Int} (f0 : 0 ≤ f) (hf : f < 4) (hm : m < 5) (a0 : 0 ≤ a) (a1 : a < full) (na : nanF f a = false) (e0 : 1 ≤ e) (e1 : e ≤ 2 * fE f) : ∀ o, makeF f false e 0 = o →
    0 ≤ o ∧ o < full ∧ dvB f m a o = (if clsF f a = 3 then infF f (negF f a) else pkB f m (negF f a) (uE f a - (e - fE f)) (uS f a * full)) ∧ ∀ t, dvFl f m t a o = (if clsF f a = 3 then 0 else pkFl f m t (negF f a) (uE f a - (e - fE f)) (uS f a * full)) := by
  intro o ho
  obtain ⟨o0, o1, oc, on, oe, os⟩ := pow_fields f0 hf e0 e1 o ho
  refine ⟨o0, o1, ?_⟩
  have N : mlN f a o = negF f a := by unfold mlN; rw [on]; cases negF f a <;> rfl
  have ra := cls_range f a
  have qa : clsF f a ≤ 3 := by unfold nanF at na; have := of_decide_eq_false na; omega
  obtain ⟨h1, h2⟩ := dv_some (m := m) hf hm a0 a1 o0 o1 na (num_nan (by omega))
  have i : dvI f a o = false := by unfold dvI badD; rw [decide_eq_false]; omega
  simp only [i, if_neg (show ¬ (false = true) by decide), N] at h1 h2
  by_cases c3 : clsF f a = 3
  · simp only [if_pos c3] at h1 h2 ⊢
    exact ⟨h1, h2⟩
  · simp only [if_neg c3] at h1 h2 ⊢
    by_cases c0 : clsF f a = 0
    · simp only [if_pos (show clsF f o = 3 ∨ clsF f a = 0 from .inr c0)] at h1 h2
      have z := (u_none (f := f) (b := a) (by omega)).2
      rw [z, Int.zero_mul, (pk_zero hf hm).1]
      exact ⟨h1, fun t => by rw [h2, (pk_zero hf hm).2]⟩
    · simp only [if_neg (show ¬ (clsF f o = 3 ∨ clsF f a = 0) by omega), if_neg (show ¬ clsF f o = 0 by omega)] at h1 h2
      rw [show dvE f a o = uE f a - (e - fE f) by unfold dvE; rw [oe], show dvS f a o = uS f a * full by unfold dvS; rw [os, dvQ_pow]] at h1 h2
      exact ⟨h1, h2⟩
theorem dv_powers {f m a k : Int} (f0 : 0 ≤ f) (hf : f < 4) (hm : m < 5) (a0 : 0 ≤ a) (a1 : a < full) (na : nanF f a = false) (k0 : -(fE f : Int) < k) (k1 : k < fE f) : ∀ x y, makeF f false (fE f + k) 0 = x → makeF f false (fE f - k) 0 = y →
    0 ≤ x ∧ x < full ∧ 0 ≤ y ∧ y < full ∧ dvB f m a x = mlB f m a y ∧ ∀ t, dvFl f m t a x = mlFl f m t a y := by
  intro x y hx hy
  obtain ⟨x0, x1, h1, h2⟩ := dv_pow (m := m) f0 hf hm a0 a1 na (show (1 : Int) ≤ fE f + k by omega) (by omega) x hx
  obtain ⟨y0, y1, yc, yn, ye, ys⟩ := pow_fields f0 hf (show (1 : Int) ≤ fE f - k by omega) (by omega) y hy
  refine ⟨x0, x1, y0, y1, ?_⟩
  have qa : clsF f a ≤ 3 := by unfold nanF at na; have := of_decide_eq_false na; omega
  by_cases c3 : clsF f a = 3
  · obtain ⟨g1, g2⟩ := ml_inf (m := m) hf hm a0 a1 y0 y1 c3 (.inr (.inl yc))
    have N : mlN f a y = negF f a := by unfold mlN; rw [yn]; cases negF f a <;> rfl
    simp only [if_pos c3] at h1 h2
    rw [h1, g1, N]
    exact ⟨rfl, fun t => by rw [h2, g2]⟩
  · simp only [if_neg c3] at h1 h2
    obtain ⟨g1, g2⟩ := ml_pow (m := m) f0 hf hm a0 a1 (show clsF f a ≤ 2 by omega) (show (1 : Int) ≤ fE f - k by omega) (by omega) y hy
    have e : uE f a - ((fE f : Int) + k - fE f) = uE f a + ((fE f : Int) - k - fE f) := by omega
    rw [e] at h1 h2
    exact ⟨h1.trans g1.symm, fun t => (h2 t).trans (g2 t).symm⟩
theorem make_cut {f : Int} (f0 : 0 ≤ f) (hf : f < 4) (ng : Bool) (e k : Int) : cutF f (makeF f ng e k) = makeF f ng e k := by
  obtain ⟨_, _, _, _, q5, q6⟩ := make_parts f0 hf ng e k
  unfold cutF; exact Int.emod_eq_of_lt q5 q6
theorem dv_one {f m a : Int} (f0 : 0 ≤ f) (hf : f < 4) (hm : m < 5) (a0 : 0 ≤ a) (a1 : a < full) : ∀ o, makeF f false (fE f) 0 = o →
    0 ≤ o ∧ o < full ∧ (nanF f a = false → dvB f m a o = cutF f a ∧ ∀ t, dvFl f m t a o = 0) ∧ (clsF f a = 1 ∨ clsF f a = 2 → dvB f m a a = o ∧ ∀ t, dvFl f m t a a = 0) := by
  intro o ho
  obtain ⟨p0, p1, p2, p3, p4, p5, p6, p7, p8⟩ := f_nums f0 hf
  obtain ⟨o0, o1, oc, on, oe, os⟩ := pow_fields f0 hf (by omega) (by omega) o ho
  refine ⟨o0, o1, fun na => ?_, fun ca => ?_⟩
  · obtain ⟨_, _, h1, h2⟩ := dv_pow (m := m) f0 hf hm a0 a1 na (show (1 : Int) ≤ fE f by omega) (by omega) o ho
    have qa : clsF f a ≤ 3 := by unfold nanF at na; have := of_decide_eq_false na; omega
    by_cases c3 : clsF f a = 3
    · simp only [if_pos c3] at h1 h2
      rw [h1, inf_cut f0 hf a0 c3]
      exact ⟨rfl, h2⟩
    · simp only [if_neg c3] at h1 h2
      obtain ⟨g1, g2⟩ := pk_same (m := m) f0 hf hm a0 (show clsF f a ≤ 2 by omega)
      rw [show uE f a - ((fE f : Int) - fE f) = uE f a by omega] at h1 h2
      exact ⟨h1.trans g1, fun t => (h2 t).trans (g2 t)⟩
  · obtain ⟨h1, h2⟩ := dv_num (m := m) hf hm a0 a1 a0 a1 ca ca
    obtain ⟨_, _, s0, s1, _⟩ := un_range f0 hf a0 ca
    have hp := two_pow_pos 127
    obtain ⟨g1, g2⟩ := pk_same (m := m) f0 hf hm o0 (show clsF f o ≤ 2 by omega)
    have N : mlN f a a = false := by unfold mlN; cases negF f a <;> rfl
    have E : dvE f a a = uE f o := by unfold dvE; rw [oe]; omega
    have S : dvS f a a = uS f o * full := by
      unfold dvS dvQ
      rw [os, Int.mul_ediv_cancel_left _ (show uS f a ≠ 0 by omega), Int.mul_emod_right, if_pos rfl, Int.add_zero, Int.mul_comm]
    have C : cutF f o = o := by rw [← ho]; exact make_cut f0 hf _ _ _
    rw [on, C] at g1
    rw [on] at g2
    rw [N, E, S] at h1 h2
    exact ⟨h1.trans g1, fun t => (h2 t).trans (g2 t)⟩
end Go.Proofs.YtnlmceafleeaiaaGreatDoor
