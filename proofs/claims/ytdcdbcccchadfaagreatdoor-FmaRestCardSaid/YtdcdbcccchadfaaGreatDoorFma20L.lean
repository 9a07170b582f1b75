import Derived.Test.YtdcdbcccchadfaaGreatDoorFma20M
import Derived.Test.YtdcdbcccchadfaaGreatDoorMul19L
import Derived.Test.YtdcdbcccchadfaaGreatDoorRest0
set_option linter.unusedVariables false
set_option linter.unusedSimpArgs false
set_option maxRecDepth 100000
namespace Go.Proofs.YtdcdbcccchadfaaGreatDoor
open Go.RowKit
theorem fm_dc {f m a b c : Int} (f0 : 0 ≤ f) (hf : f < 4) (hm : m < 5) (a0 : 0 ≤ a) (a1 : a < full) (b0 : 0 ≤ b) (b1 : b < full) (c0 : 0 ≤ c) (c1 : c < full) (ca : clsF f a ≤ 2) (cb : clsF f b ≤ 2) (cc : clsF f c ≤ 2) : ∀ n : Bool, (if fmX f a b c = 0 then noM m (mlN f a b) (negF f c) else if mlN f a b = negF f c then mlN f a b else if pF f a b < vF f c then negF f c else mlN f a b) = n →
    fmB f m a b c = dcB f m n (fmX f a b c) (-1099511628031) false ∧ ∀ t, fmFl f m t a b c = dcFl f m t n (fmX f a b c) (-1099511628031) false := by
  intro n hn
  obtain ⟨e1, e2⟩ := fm_fin (m := m) hf hm a0 a1 b0 b1 c0 c1 ca cb cc
  have nn : fmN f m a b c = n := by
    rw [← hn]; unfold fmN
    rw [fmT_eq]
    obtain ⟨_, _, z⟩ := fm_exact (f := f) (m := m) (ng := false) f0 a0 b0 c0
    by_cases k : fmS f a b c = 0
    · rw [if_pos k, if_pos (z.1 k)]
    · rw [if_neg k, if_neg (fun q => k (z.2 q))]
  obtain ⟨d1, d2, _⟩ := fm_exact (f := f) (m := m) (ng := n) f0 a0 b0 c0
  rw [e1, nn]
  exact ⟨d1, fun t => by rw [e2, nn, d2]⟩
theorem ad_dc {f m a c : Int} {s : Bool} (f0 : 0 ≤ f) (hf : f < 4) (hm : m < 5) (a0 : 0 ≤ a) (a1 : a < full) (c0 : 0 ≤ c) (c1 : c < full) (ca : clsF f a ≤ 2) (cc : clsF f c ≤ 2) : ∀ n : Bool, (if adX f a c s = 0 then noM m (negF f a) s else if negF f a = s then negF f a else if vF f a < vF f c then s else negF f a) = n →
    adB f m a c s = dcB f m n (adX f a c s) (-1099511628031) false ∧ ∀ t, adFl f m t a c s = dcFl f m t n (adX f a c s) (-1099511628031) false := by
  intro n hn
  obtain ⟨e1, e2⟩ := ad_fin (m := m) (s := s) f0 hf hm a0 a1 c0 c1 ca cc
  have nn : adN f m a c s = n := by
    rw [← hn]; unfold adN adT
    have k : cmpT (uE f a) (uS f a * full) (uE f c) (uS f c * full) < 0 ↔ vF f a < vF f c := by rw [cmpT_base, cmpI_lti]; rfl
    simp only [k]
    obtain ⟨_, _, z⟩ := ad_exact (f := f) (m := m) (ng := false) (s := s) f0 a0 c0
    by_cases q : adS f a c s = 0
    · rw [if_pos q, if_pos (z.1 q)]
    · rw [if_neg q, if_neg (fun r => q (z.2 r))]
  obtain ⟨d1, d2, _⟩ := ad_exact (f := f) (m := m) (ng := n) (s := s) f0 a0 c0
  rw [e1, nn]
  exact ⟨d1, fun t => by rw [e2, nn, d2]⟩
theorem ml_dc {f m a b : Int} {ng : Bool} (f0 : 0 ≤ f) (a0 : 0 ≤ a) (b0 : 0 ≤ b) : pkB f m ng (mlE f a b) (mlS f a b) = dcB f m ng (pF f a b) (-1099511628031) false ∧ ∀ t, pkFl f m t ng (mlE f a b) (mlS f a b) = dcFl f m t ng (pF f a b) (-1099511628031) false := by
  obtain ⟨_, _, s0, s1⟩ := ml_range (f := f) f0 a0 b0
  have sm := mlE_small (f := f) f0 a0 b0
  obtain ⟨d1, d2⟩ := dc_pk (f := f) (m := m) (exp := mlE f a b) (x := mlS f a b) (ng := ng) f0 s0 s1
  rw [clip_id (by omega) (by omega)] at d1 d2
  have J := dc_scale (f := f) (m := m) (q := mlS f a b) (E := mlE f a b - 255) (ng := ng) (mlE f a b + 1099511627776).toNat s0
  rw [show mlE f a b - 255 - (((mlE f a b + 1099511627776).toNat : Nat) : Int) = -1099511628031 by omega] at J
  have v : pF f a b = mlS f a b * 2 ^ (mlE f a b + 1099511627776).toNat := by unfold pF baseT; rw [clT_id (by omega) (by omega)]
  rw [v]
  exact ⟨d1.symm.trans J.1.symm, fun t => (d2 t).symm.trans (J.2 t).symm⟩
theorem pick_mid {f a o c : Int} (inv : Bool) (ho : nanF f (o % full) = false) : pickK f inv [a, o, c] = pickK f inv [a, c] ∧ pickV f inv [a, o, c] = pickV f inv [a, c] ∧ pickF f inv [a, o, c] = pickF f inv [a, c] := by
  have so : sigF f (o % full) = false := by
    cases h : sigF f (o % full) with
    | false => rfl
    | true => rw [sig_nan h] at ho; cases ho
  have k : pickK f inv [a, o, c] = pickK f inv [a, c] := by unfold pickK anyN; simp [ho]
  have v : firstV f [a, o, c] = firstV f [a, c] := by
    unfold firstV; simp only [List.find?, ho]
  have n : anyS f [a, o, c] = anyS f [a, c] := by unfold anyS; simp [so]
  unfold pickV pickF
  rw [k, v, n]; exact ⟨rfl, rfl, rfl⟩
theorem pick_end {f a b o : Int} (inv : Bool) (ho : nanF f (o % full) = false) : pickK f inv [a, b, o] = pickK f inv [a, b] ∧ pickV f inv [a, b, o] = pickV f inv [a, b] ∧ pickF f inv [a, b, o] = pickF f inv [a, b] := by
  have so : sigF f (o % full) = false := by
    cases h : sigF f (o % full) with
    | false => rfl
    | true => rw [sig_nan h] at ho; cases ho
  have k : pickK f inv [a, b, o] = pickK f inv [a, b] := by unfold pickK anyN; simp [ho]
  have v : firstV f [a, b, o] = firstV f [a, b] := by
    unfold firstV; simp only [List.find?, ho]
  have n : anyS f [a, b, o] = anyS f [a, b] := by unfold anyS; simp [so]
  unfold pickV pickF
  rw [k, v, n]; exact ⟨rfl, rfl, rfl⟩
theorem pF_one {f a : Int} (f0 : 0 ≤ f) (hf : f < 4) (a0 : 0 ≤ a) (ca : clsF f a ≤ 2) : ∀ o, makeF f false (fE f) 0 = o → pF f a o = vF f a ∧ mlN f a o = negF f a := by
  intro o ho
  obtain ⟨p0, p1, p2, p3, p4, p5, p6, p7, p8⟩ := f_nums f0 hf
  obtain ⟨o0, o1, oc, on, oe, os⟩ := pow_fields f0 hf (by omega) (by omega) o ho
  have rc := cls_range f a
  refine ⟨?_, by unfold mlN; rw [on]; cases negF f a <;> rfl⟩
  have er := uE_range (f := f) f0 a0
  by_cases k : clsF f a = 1 ∨ clsF f a = 2
  · have me := mlE_num f0 a0 o0 k (.inr oc)
    rw [oe] at me
    unfold pF vF baseT
    rw [clT_u f0 a0, clT_id (by omega) (by omega), mlS_eq, os, me, show (uE f a + ((fE f : Int) - fE f) + 1 + 1099511627776).toNat = 1 + (uE f a + 1099511627776).toNat by omega, Int.pow_add, ← Int.mul_assoc]
    congr 1
    rw [Int.mul_assoc, show (2 : Int) ^ 127 * 2 ^ 1 = full by rw [← full_pow, ← Int.pow_add]]
  · unfold pF vF
    rw [base_zero.2 (by rw [mlS_eq, (u_none k).2, Int.zero_mul]), base_zero.2 (by rw [(u_none k).2, Int.zero_mul])]
theorem fm_one {f m a c : Int} (f0 : 0 ≤ f) (hf : f < 4) (a0 : 0 ≤ a) (a1 : a < full) (c0 : 0 ≤ c) (c1 : c < full) : ∀ o, makeF f false (fE f) 0 = o → 0 ≤ o ∧ o < full ∧ fmB f m a o c = adB f m a c (negF f c) ∧ ∀ t, fmFl f m t a o c = adFl f m t a c (negF f c) := by
  intro o ho
  obtain ⟨p0, p1, p2, p3, p4, p5, p6, p7, p8⟩ := f_nums f0 hf
  obtain ⟨o0, o1, oc, on, oe, os⟩ := pow_fields f0 hf (by omega) (by omega) o ho
  refine ⟨o0, o1, ?_⟩
  by_cases hm : m < 5
  · have no : nanF f o = false := by unfold nanF; rw [oc]; rfl
    have mi : mlI f a o = false := by unfold mlI badC; rw [oc]; simp
    have mn : mlN f a o = negF f a := by unfold mlN; rw [on]; cases negF f a <;> rfl
    have ra := cls_range f a; have rc := cls_range f c
    cases hn : (nanF f a || nanF f c) with
    | true =>
      have an : anyN f [a, c] = true := by unfold anyN; simp [Int.emod_eq_of_lt a0 a1, Int.emod_eq_of_lt c0 c1, hn]
      have ai : adI f a c (negF f c) = false := by
        unfold adI; rw [decide_eq_false]; rintro ⟨x, y, _⟩
        unfold nanF at hn; rw [x, y] at hn; simp at hn
      obtain ⟨k1, k2, k3⟩ := pick_mid (f := f) (a := a) (c := c) false (show nanF f (o % full) = false by rw [Int.emod_eq_of_lt o0 o1]; exact no)
      obtain ⟨j1, j2, j3⟩ := pick_nan hf [a, c] an
      unfold fmB fmFl adB adFl
      simp only [if_pos (show f < 4 ∧ m < 5 from ⟨hf, hm⟩), mi, ai, k1, k2, k3, j3, if_true]
      exact ⟨trivial, fun _ => trivial⟩
    | false =>
      have na : nanF f a = false := (Bool.or_eq_false_iff.1 hn).1
      have nc : nanF f c = false := (Bool.or_eq_false_iff.1 hn).2
      have a3 : clsF f a ≤ 3 := by unfold nanF at na; have := of_decide_eq_false na; omega
      have c3 : clsF f c ≤ 3 := by unfold nanF at nc; have := of_decide_eq_false nc; omega
      by_cases fin : clsF f a ≤ 2 ∧ clsF f c ≤ 2
      · obtain ⟨pv, _⟩ := pF_one f0 hf a0 fin.1 o ho
        have X : fmX f a o c = adX f a c (negF f c) := by unfold fmX adX; rw [pv, mn]
        obtain ⟨e1, e2⟩ := fm_dc (m := m) f0 hf hm a0 a1 o0 o1 c0 c1 fin.1 (by omega) fin.2 _ rfl
        obtain ⟨g1, g2⟩ := ad_dc (m := m) (s := negF f c) f0 hf hm a0 a1 c0 c1 fin.1 fin.2 _ rfl
        rw [X, mn, pv] at e1 e2
        exact ⟨e1.trans g1.symm, fun t => (e2 t).trans (g2 t).symm⟩
      · obtain ⟨e1, e2⟩ := fm_some (m := m) hf hm a0 a1 o0 o1 c0 c1 na no nc
        obtain ⟨g1, g2⟩ := ad_some (m := m) (s := negF f c) hf hm a0 a1 c0 c1 na nc
        rw [mi, if_neg (by decide), mn] at e1
        simp only [mi, mn, if_neg (show ¬ (false = true) by decide)] at e2
        have fo : fmO f a o c = decide (clsF f c = 3 ∧ negF f c ≠ negF f a) := by unfold fmO; rw [mn]
        by_cases ka : clsF f a = 3
        · have ai : adI f a c (negF f c) = fmO f a o c := by
            rw [fo]; unfold adI; rw [decide_eq_decide]
            exact ⟨fun ⟨_, y, z⟩ => ⟨y, fun k => z k.symm⟩, fun ⟨y, z⟩ => ⟨ka, y, fun k => z k.symm⟩⟩
          rw [e1, g1, if_pos (.inl ka), ai, if_pos ka]
          refine ⟨rfl, fun t => ?_⟩
          rw [e2, g2, if_pos (.inl ka), ai, if_pos ka]
        · have kc : clsF f c = 3 := by omega
          have ai : adI f a c (negF f c) = false := by unfold adI; rw [decide_eq_false]; exact fun k => ka k.1
          have k2 : ¬ (clsF f a = 3 ∨ clsF f o = 3) := by omega
          simp only [ai, if_neg k2, if_neg ka, if_pos kc, if_neg (show ¬ (false = true) by decide)] at e1 e2 g1 g2
          rw [e1, g1]
          exact ⟨rfl, fun t => by rw [e2, g2]⟩
  · unfold fmB fmFl adB adFl
    simp only [if_neg (show ¬ (f < 4 ∧ m < 5) from fun k => hm k.2)]
    exact ⟨trivial, fun _ => trivial⟩
theorem fm_prod {f m a b z : Int} (f0 : 0 ≤ f) (hf : f < 4) (hm : m < 5) (a0 : 0 ≤ a) (a1 : a < full) (b0 : 0 ≤ b) (b1 : b < full) (z0 : 0 ≤ z) (z1 : z < full) (cz : clsF f z = 0) :
    (fmB f m a b z = mlB f m a b ∧ ∀ t, fmFl f m t a b z = mlFl f m t a b) ∨ (clsF f (mlB f m a b) = 0 ∧ (∀ t, mlFl f m t a b = 0) ∧ 0 ≤ fmB f m a b z ∧ fmB f m a b z < full ∧ clsF f (fmB f m a b z) = 0 ∧ ∀ t, fmFl f m t a b z = 0) := by
  have nz : nanF f z = false := by unfold nanF; rw [cz]; rfl
  have ra := cls_range f a; have rb := cls_range f b
  by_cases fin : clsF f a ≤ 2 ∧ clsF f b ≤ 2
  · have vz : vF f z = 0 := (vF_zero f0 hf z0 (by omega)).2 cz
    have pn := pF_nonneg (f := f) f0 a0 b0
    have X : fmX f a b z = pF f a b := by unfold fmX; rw [vz]; split <;> (try split) <;> omega
    obtain ⟨e1, e2⟩ := fm_dc (m := m) f0 hf hm a0 a1 b0 b1 z0 z1 fin.1 fin.2 (by omega) _ rfl
    obtain ⟨g1, g2⟩ := ml_fin (m := m) f0 hf hm a0 a1 b0 b1 fin.1 fin.2
    obtain ⟨d1, d2⟩ := ml_dc (f := f) (m := m) (ng := mlN f a b) f0 a0 b0
    rw [X, vz] at e1 e2
    by_cases p : pF f a b = 0
    · right
      rw [p] at e1 e2 d1 d2
      rw [dc_zero.1, if_pos ⟨hf, hm⟩] at e1 d1
      rw [g1, d1, e1]
      obtain ⟨k1, k2⟩ := make_full f0 (f := f) (mlN f a b) 0 0
      obtain ⟨j1, j2⟩ := make_full f0 (f := f) (if (0 : Int) = 0 then noM m (mlN f a b) (negF f z) else if mlN f a b = negF f z then mlN f a b else if (0 : Int) < 0 then negF f z else mlN f a b) 0 0
      exact ⟨(nought_cls f0 hf _).1, fun t => by rw [g2, d2, dc_zero.2], j1, j2, (nought_cls f0 hf _).1, fun t => by rw [e2, dc_zero.2]⟩
    · left
      have n : (if pF f a b = 0 then noM m (mlN f a b) (negF f z) else if mlN f a b = negF f z then mlN f a b else if pF f a b < 0 then negF f z else mlN f a b) = mlN f a b := by
        rw [if_neg p]; split
        · rfl
        · rw [if_neg (by omega)]
      rw [n] at e1 e2
      exact ⟨by rw [e1, g1, d1], fun t => by rw [e2, g2, d2]⟩
  · left
    obtain ⟨k1, k2, k3⟩ := pick_end (f := f) (a := a) (b := b) (mlI f a b) (show nanF f (z % full) = false by rw [Int.emod_eq_of_lt z0 z1]; exact nz)
    have fo : fmO f a b z = false := by unfold fmO; rw [decide_eq_false]; omega
    unfold fmB fmFl mlB mlFl
    simp only [if_pos (show f < 4 ∧ m < 5 from ⟨hf, hm⟩), k1, k2, k3, fo, if_neg (show ¬ (false = true) by decide)]
    by_cases p : pickK f (mlI f a b) [a, b] = true
    · simp only [if_pos p]; exact ⟨trivial, fun _ => trivial⟩
    · simp only [if_neg p]
      by_cases k : clsF f a = 3 ∨ clsF f b = 3
      · simp only [if_pos k]; exact ⟨trivial, fun _ => trivial⟩
      · exfalso
        have : clsF f a ≤ 2 ∧ clsF f b ≤ 2 := by
          unfold pickK anyN at p
          rw [decide_eq_true hf] at p
          simp only [Bool.true_and, List.any_cons, List.any_nil, Bool.or_false, Bool.or_eq_true, Int.emod_eq_of_lt a0 a1, Int.emod_eq_of_lt b0 b1] at p
          unfold nanF at p
          simp only [decide_eq_true_eq] at p
          omega
        exact fin this
theorem fm_comm {f m a b c : Int} (hf : f < 4) (hm : m < 5) (a0 : 0 ≤ a) (a1 : a < full) (b0 : 0 ≤ b) (b1 : b < full) (c0 : 0 ≤ c) (c1 : c < full) (na : nanF f a = false) (nb : nanF f b = false) (nc : nanF f c = false) : fmB f m b a c = fmB f m a b c ∧ ∀ t, fmFl f m t b a c = fmFl f m t a b c := by
  obtain ⟨e1, e2⟩ := fm_some (m := m) hf hm a0 a1 b0 b1 c0 c1 na nb nc
  obtain ⟨g1, g2⟩ := fm_some (m := m) hf hm b0 b1 a0 a1 c0 c1 nb na nc
  have i : mlI f b a = mlI f a b := badC_turn ..
  have n := mlN_turn f a b
  have o : (clsF f b = 3 ∨ clsF f a = 3) ↔ (clsF f a = 3 ∨ clsF f b = 3) := Or.comm
  have O : fmO f b a c = fmO f a b c := by unfold fmO; rw [n]
  have E : fmE f b a c = fmE f a b c := by unfold fmE; rw [n, mlE_turn, mlS_turn]
  have S : fmS f b a c = fmS f a b c := by unfold fmS; rw [n, mlE_turn, mlS_turn]
  have N : fmN f m b a c = fmN f m a b c := by unfold fmN fmT; rw [S, n, mlE_turn, mlS_turn]
  rw [e1, g1, i, n, O, E, S, N]
  simp only [o]
  refine ⟨trivial, fun t => ?_⟩
  rw [e2, g2, i, O, E, S, N]
  simp only [o]
theorem fm_turn {f m a b c : Int} (f0 : 0 ≤ f) (hf : f < 4) (hm : m < 5) (a0 : 0 ≤ a) (a1 : a < full) (b0 : 0 ≤ b) (b1 : b < full) (c0 : 0 ≤ c) (c1 : c < full) (na : nanF f a = false) (nb : nanF f b = false) (nc : nanF f c = false) : ∀ x y, fmB f m a b c = x → fmB f (mirM m) (turnF f a) b (turnF f c) = y →
    0 ≤ x ∧ x < full ∧ 0 ≤ y ∧ y < full ∧ (∀ t, fmFl f (mirM m) t (turnF f a) b (turnF f c) = fmFl f m t a b c) ∧ ((clsF f x = 0 ∧ clsF f y = 0) ∨ (nanF f x = true ∧ y = x) ∨ (nanF f x = false ∧ y = turnF f x)) := by
  intro x y hx hy
  have m5 : mirM m < 5 := by have := mir_known m; rw [decide_eq_decide] at this; exact this.2 hm
  obtain ⟨ta, ea, sa, ga⟩ := turn_same f0 hf a0
  obtain ⟨ta0, ta1⟩ := turn_full (f := f) (b := a) f0
  obtain ⟨tc, ec, sc, gc⟩ := turn_same f0 hf c0
  obtain ⟨tc0, tc1⟩ := turn_full (f := f) (b := c) f0
  have na' : nanF f (turnF f a) = false := by unfold nanF at *; rw [ta]; exact na
  have nc' : nanF f (turnF f c) = false := by unfold nanF at *; rw [tc]; exact nc
  obtain ⟨e1, e2⟩ := fm_some (m := m) hf hm a0 a1 b0 b1 c0 c1 na nb nc
  obtain ⟨g1, g2⟩ := fm_some (m := mirM m) hf m5 ta0 ta1 b0 b1 tc0 tc1 na' nb nc'
  have ii : mlI f (turnF f a) b = mlI f a b := by unfold mlI; rw [ta]
  have EE : mlE f (turnF f a) b = mlE f a b := by unfold mlE; rw [ta, ea]
  have SS : mlS f (turnF f a) b = mlS f a b := by unfold mlS; rw [ta, sa]
  have NN : mlN f (turnF f a) b = !mlN f a b := by unfold mlN; rw [ga]; cases negF f a <;> cases negF f b <;> rfl
  have eqv : ((!mlN f a b) = (!negF f c)) ↔ (mlN f a b = negF f c) := by cases mlN f a b <;> cases negF f c <;> simp
  have OO : fmO f (turnF f a) b (turnF f c) = fmO f a b c := by
    unfold fmO; rw [tc, gc, NN, decide_eq_decide]
    cases mlN f a b <;> cases negF f c <;> simp
  have FE : fmE f (turnF f a) b (turnF f c) = fmE f a b c := by unfold fmE; rw [NN, gc, EE, SS, ec, sc]; simp only [eqv]
  have FS : fmS f (turnF f a) b (turnF f c) = fmS f a b c := by unfold fmS; rw [NN, gc, EE, SS, ec, sc]; simp only [eqv]
  have FT : fmT f (turnF f a) b (turnF f c) = !fmT f a b c := by
    unfold fmT; rw [NN, gc, EE, SS, ec, sc]; simp only [eqv]
    repeat' split
    all_goals rfl
  rw [e1] at hx
  rw [g1, ii, ta, tc, OO, FE, FS, NN, gc] at hy
  rw [ii, ta, tc, OO, FE, FS] at g2
  have inf : ∀ g : Bool, 0 ≤ infF f g ∧ infF f g < full ∧ nanF f (infF f g) = false := fun g => by
    have := make_full f0 (f := f) g (2 * fE f + 1) 0
    exact ⟨this.1, this.2, by unfold nanF; rw [(inf_cls f0 hf g).1]; rfl⟩
  have d := def_full f0 (f := f)
  have dn : nanF f (defF f) = true := by unfold nanF; rw [(def_cls f0 hf).1]; rfl
  cases hi : mlI f a b with
  | true =>
    rw [hi, if_pos rfl] at hx hy
    rw [← hx, ← hy]
    exact ⟨d.1, d.2, d.1, d.2, fun t => by rw [g2, e2, hi, if_pos rfl, if_pos rfl], .inr (.inl ⟨dn, rfl⟩)⟩
  | false =>
    simp only [hi, if_neg (show ¬ (false = true) by decide)] at hx hy g2 e2
    by_cases c3 : clsF f a = 3 ∨ clsF f b = 3
    · simp only [if_pos c3] at hx hy g2 e2
      cases ho : fmO f a b c with
      | true =>
        simp only [ho, if_pos (rfl : true = true)] at hx hy g2 e2
        rw [← hx, ← hy]
        exact ⟨d.1, d.2, d.1, d.2, fun t => by rw [g2, e2], .inr (.inl ⟨dn, rfl⟩)⟩
      | false =>
        simp only [ho, if_neg (show ¬ (false = true) by decide)] at hx hy g2 e2
        rw [← hx, ← hy]
        exact ⟨(inf _).1, (inf _).2.1, (inf _).1, (inf _).2.1, fun t => by rw [g2, e2], .inr (.inr ⟨(inf _).2.2, (turn_make f0 hf _ _ _).symm⟩)⟩
    · simp only [if_neg c3] at hx hy g2 e2
      by_cases k3 : clsF f c = 3
      · simp only [if_pos k3] at hx hy g2 e2
        rw [← hx, ← hy]
        exact ⟨(inf _).1, (inf _).2.1, (inf _).1, (inf _).2.1, fun t => by rw [g2, e2], .inr (.inr ⟨(inf _).2.2, (turn_make f0 hf _ _ _).symm⟩)⟩
      · simp only [if_neg k3] at hx hy g2 e2
        obtain ⟨er0, er1, sr0, sr1⟩ := fm_range (f := f) f0 a0 b0 c0
        by_cases z : fmS f a b c = 0
        · rw [z] at hx hy g2 e2
          rw [(pk_zero hf hm).1] at hx
          rw [(pk_zero hf m5).1] at hy
          rw [← hx, ← hy]
          exact ⟨(make_full f0 (f := f) _ 0 0).1, (make_full f0 (f := f) _ 0 0).2, (make_full f0 (f := f) _ 0 0).1, (make_full f0 (f := f) _ 0 0).2, fun t => by rw [g2, e2, (pk_zero hf hm).2, (pk_zero hf m5).2], .inl ⟨(nought_cls f0 hf _).1, (nought_cls f0 hf _).1⟩⟩
        · have n1 : fmN f m a b c = fmT f a b c := by unfold fmN; rw [if_neg z]
          have n2 : fmN f (mirM m) (turnF f a) b (turnF f c) = !fmT f a b c := by unfold fmN; rw [FS, if_neg z, FT]
          rw [n1] at hx e2
          rw [n2] at hy g2
          obtain ⟨p1, p2⟩ := pk_turn (ex := fmE f a b c) (x := fmS f a b c) (fmT f a b c) f0 hf hm sr0 sr1
          obtain ⟨v0, v1, v2, v3⟩ := pk_class (ex := fmE f a b c) (ng := fmT f a b c) f0 hf hm sr0 sr1
          rw [p1, hx] at hy
          rw [hx] at v0 v1 v3
          obtain ⟨w0, w1⟩ := turn_full (f := f) (b := x) f0
          rw [hy] at w0 w1
          refine ⟨v0, v1, w0, w1, fun t => by rw [g2, e2]; exact p2 t, .inr (.inr ⟨by unfold nanF; rw [decide_eq_false]; rcases v3 with h | ⟨h, _⟩ <;> omega, hy.symm⟩)⟩
end Go.Proofs.YtdcdbcccchadfaaGreatDoor
