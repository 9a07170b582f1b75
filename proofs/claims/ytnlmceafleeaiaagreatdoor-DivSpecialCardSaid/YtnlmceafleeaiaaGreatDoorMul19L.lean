import Derived.Test.YtnlmceafleeaiaaGreatDoorMul19S
import Derived.Test.YtnlmceafleeaiaaGreatDoorAdd18L
import Derived.Test.YtnlmceafleeaiaaGreatDoorGvA
import Derived.Test.YtnlmceafleeaiaaGreatDoorAdd18F
import Derived.Test.YtnlmceafleeaiaaGreatDoorRest0
set_option linter.unusedVariables false
set_option linter.unusedSimpArgs false
set_option maxRecDepth 100000
namespace Go.Proofs.YtnlmceafleeaiaaGreatDoor
open Go.RowKit
theorem pow_fields {f e : Int} (f0 : 0 ≤ f) (hf : f < 4) (e0 : 1 ≤ e) (e1 : e ≤ 2 * fE f) : ∀ o, makeF f false e 0 = o → 0 ≤ o ∧ o < full ∧ clsF f o = 2 ∧ negF f o = false ∧ uE f o = e - fE f ∧ uS f o = 2 ^ 127 := by
  intro o ho
  obtain ⟨p0, p1, p2, p3, p4, p5, p6, p7, p8⟩ := f_nums f0 hf
  obtain ⟨m1, m2, m3⟩ := make_fields f0 hf false e 0
  obtain ⟨g0, g1⟩ := make_full f0 (f := f) false e 0
  rw [expOf_id f0 hf (by omega) (by omega)] at m1
  rw [Int.zero_emod] at m2
  rw [ho] at m1 m2 m3 g0 g1
  have c : clsF f o = 2 := (cls_2 hf).2 ⟨by omega, by omega⟩
  have um : uM f o = 2 ^ (fP f - 1) := by unfold uM; rw [if_neg (by omega), m2, Int.zero_add]
  have bl : blen (uM f o) = fP f - 1 + 1 := by
    rw [um]
    refine blen_of (Int.le_refl _) ?_
    have := two_pow_pos (fP f - 1)
    rw [Int.pow_succ]; omega
  refine ⟨g0, g1, c, m3, ?_, ?_⟩
  · unfold uE; rw [if_pos (.inr c), bl]
    unfold uX; rw [if_neg (by omega), m1]; omega
  · unfold uS; rw [if_pos (.inr c), bl, um, ← Int.pow_add]; congr 1; omega
theorem pk_double {f m e x : Int} {ng : Bool} (f0 : 0 ≤ f) (x0 : 0 ≤ x) (x1 : x * 2 < wfull) (e0 : -1099511627776 ≤ e) (e1 : e + 1 ≤ 1099511627776) : pkB f m ng (e + 1) x = pkB f m ng e (x * 2) ∧ ∀ t, pkFl f m t ng (e + 1) x = pkFl f m t ng e (x * 2) := by
  obtain ⟨a1, a2⟩ := dc_pk (f := f) (m := m) (exp := e + 1) (x := x) (ng := ng) f0 x0 (by omega)
  obtain ⟨b1, b2⟩ := dc_pk (f := f) (m := m) (exp := e) (x := x * 2) (ng := ng) f0 (by omega) x1
  obtain ⟨s1, s2⟩ := dc_scale (f := f) (m := m) (q := x) (E := e + 1 - 255) (ng := ng) 1 x0
  rw [clip_id (by omega) (by omega)] at a1 a2 b1 b2
  rw [show e + 1 - 255 - ((1 : Nat) : Int) = e - 255 by omega, show (2 : Int) ^ 1 = 2 from rfl] at s1 s2
  exact ⟨a1.symm.trans (s1.symm.trans b1), fun t => (a2 t).symm.trans ((s2 t).symm.trans (b2 t))⟩
theorem half_full (s : Int) : s * 2 ^ 127 * 2 = s * full := by
  rw [Int.mul_assoc]; congr 1
theorem ml_pow {f m a e : Int} (f0 : 0 ≤ f) (hf : f < 4) (hm : m < 5) (a0 : 0 ≤ a) (a1 : a < full) (ca : clsF f a ≤ 2) (e0 : 1 ≤ e) (e1 : e ≤ 2 * fE f) : ∀ o, makeF f false e 0 = o →
    mlB f m a o = pkB f m (negF f a) (uE f a + (e - fE f)) (uS f a * full) ∧ ∀ t, mlFl f m t a o = pkFl f m t (negF f a) (uE f a + (e - fE f)) (uS f a * full) := by
  intro o ho
  obtain ⟨p0, p1, p2, p3, p4, p5, p6, p7, p8⟩ := f_nums f0 hf
  obtain ⟨o0, o1, oc, on, oe, os⟩ := pow_fields f0 hf e0 e1 o ho
  obtain ⟨h1, h2⟩ := ml_fin (m := m) f0 hf hm a0 a1 o0 o1 ca (by omega)
  have N : mlN f a o = negF f a := by unfold mlN; rw [on]; cases negF f a <;> rfl
  have S : mlS f a o = uS f a * 2 ^ 127 := by rw [mlS_eq, os]
  have er := uE_range (f := f) f0 a0
  have rm := room_u (f := f) f0 a0
  obtain ⟨s0, s1⟩ := uS_range (f := f) f0 a0
  have cr := cls_range f a
  rw [N, S] at h1 h2
  by_cases c : clsF f a = 1 ∨ clsF f a = 2
  · have E := mlE_num (f := f) f0 a0 o0 c (.inr oc)
    rw [oe] at E
    obtain ⟨d1, d2⟩ := pk_double (f := f) (m := m) (e := uE f a + (e - fE f)) (x := uS f a * 2 ^ 127) (ng := negF f a) f0 (Int.mul_nonneg s0 (by decide)) (by rw [half_full]; exact rm.2.1) (by omega) (by omega)
    rw [half_full] at d1 d2
    rw [E] at h1 h2
    exact ⟨h1.trans d1, fun t => (h2 t).trans (d2 t)⟩
  · have z := (u_none c).2
    rw [z, Int.zero_mul, (pk_zero hf hm).1] at h1
    rw [z, Int.zero_mul, (pk_zero hf hm).1]
    refine ⟨h1, fun t => ?_⟩
    rw [h2 t, z, Int.zero_mul, (pk_zero hf hm).2, (pk_zero hf hm).2]
end Go.Proofs.YtnlmceafleeaiaaGreatDoor
