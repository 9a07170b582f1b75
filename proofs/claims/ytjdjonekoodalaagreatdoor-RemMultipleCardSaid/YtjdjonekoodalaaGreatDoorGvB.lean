import Derived.Test.YtjdjonekoodalaaGreatDoorGtE
set_option linter.unusedVariables false
set_option linter.unusedSimpArgs false
set_option maxRecDepth 100000
namespace Go.Proofs.YtjdjonekoodalaaGreatDoor
open Go.RowKit
attribute [local go_sem ↓] Go.wp_at_zero Go.wp_at_succ
theorem mlE_small {f a b : Int} (f0 : 0 ≤ f) (a0 : 0 ≤ a) (b0 : 0 ≤ b) : -40000 ≤ mlE f a b ∧ mlE f a b ≤ 40000 := by
  have ea := uE_range (f := f) f0 a0; have eb := uE_range (f := f) f0 b0
  unfold mlE tmE
  split
  · rw [IntKind.wrap_i64, IntKind.wrap_i64]; omega
  · omega
def pF (f a b : Int) : Int := baseT (mlE f a b) (mlS f a b)
theorem pF_val {f a b : Int} (f0 : 0 ≤ f) (hf : f < 4) (a0 : 0 ≤ a) (b0 : 0 ≤ b) (ca : clsF f a ≤ 2) (cb : clsF f b ≤ 2) : pF f a b = uM f a * uM f b * 2 ^ (uX f a + uX f b + 1099511628031).toNat := by
  have ra := cls_range f a; have rb := cls_range f b
  by_cases k : (clsF f a = 1 ∨ clsF f a = 2) ∧ (clsF f b = 1 ∨ clsF f b = 2)
  · have ea := uE_range (f := f) f0 a0; have eb := uE_range (f := f) f0 b0
    have p8 := fP_le f0
    obtain ⟨_, m0, m1, x0, x1⟩ := vF_val f0 hf a0 ca
    obtain ⟨_, n0, n1, y0, y1⟩ := vF_val f0 hf b0 cb
    have la := blen_le m0 m1
    have lb := blen_le n0 n1
    have xa : uE f a = uX f a + blen (uM f a) - 1 := by unfold uE; rw [if_pos k.1]
    have xb : uE f b = uX f b + blen (uM f b) - 1 := by unfold uE; rw [if_pos k.2]
    have sa : uS f a = uM f a * 2 ^ (128 - blen (uM f a)) := by unfold uS; rw [if_pos k.1]
    have sb : uS f b = uM f b * 2 ^ (128 - blen (uM f b)) := by unfold uS; rw [if_pos k.2]
    have me := mlE_num f0 a0 b0 k.1 k.2
    have ms : mlS f a b = uM f a * uM f b * 2 ^ ((128 - blen (uM f a)) + (128 - blen (uM f b))) := by
      rw [mlS_eq, sa, sb, Int.pow_add]
      simp only [Int.mul_assoc, Int.mul_left_comm]
    have sm := mlE_small (f := f) f0 a0 b0
    unfold pF baseT
    rw [clT_id (by omega) (by omega), ms, Int.mul_assoc (uM f a * uM f b), ← Int.pow_add]
    congr 2; omega
  · have z : mlS f a b = 0 := by unfold mlS tmS numC; rw [decide_eq_false k, if_neg (by decide)]
    have z2 : uM f a * uM f b = 0 := by
      by_cases h : clsF f a = 0
      · rw [uM_zero f0 hf h, Int.zero_mul]
      · rw [uM_zero f0 hf (b := b) (by omega), Int.mul_zero]
    unfold pF
    rw [base_zero.2 z, z2, Int.zero_mul]
end Go.Proofs.YtjdjonekoodalaaGreatDoor
namespace Go.Proofs.YtjdjonekoodalaaGreatDoor
open Go.RowKit
theorem ad_dc {f m a c : Int} {s : Bool} (f0 : 0 ≤ f) (hf : f < 4) (hm : m < 5) (a0 : 0 ≤ a) (a1 : a < full) (c0 : 0 ≤ c) (c1 : c < full) (ca : clsF f a ≤ 2) (cc : clsF f c ≤ 2) : ∀ n : Bool, (if adX f a c s = 0 then noM m (negF f a) s else if negF f a = s then negF f a else if vF f a < vF f c then s else negF f a) = n →
    adB f m a c s = dcB f m n (adX f a c s) (-1099511628031) false ∧ ∀ t, adFl f m t a c s = dcFl f m t n (adX f a c s) (-1099511628031) false := by
  intro n hn
  obtain ⟨e1, e2⟩ := ad_fin (m := m) (s := s) f0 hf hm a0 a1 c0 c1 ca cc
  have nn : adN f m a c s = n := by
    rw [← hn]; unfold adN adT
    have k : cmpT (uE f a) (uS f a * full) (uE f c) (uS f c * full) < 0 ↔ vF f a < vF f c := by rw [cmpT_base, cmpI_lti]; rfl
    simp only [k]
    obtain ⟨_, _, z⟩ := ad_exact (f := f) (m := m) (ng := false) (s := s) f0 a0 c0
    by_cases q : adS f a c s = 0
    · rw [if_pos q, if_pos (z.1 q)]
    · rw [if_neg q, if_neg (fun r => q (z.2 r))]
  obtain ⟨d1, d2, _⟩ := ad_exact (f := f) (m := m) (ng := n) (s := s) f0 a0 c0
  rw [e1, nn]
  exact ⟨d1, fun t => by rw [e2, nn, d2]⟩
theorem ml_dc {f m a b : Int} {ng : Bool} (f0 : 0 ≤ f) (a0 : 0 ≤ a) (b0 : 0 ≤ b) : pkB f m ng (mlE f a b) (mlS f a b) = dcB f m ng (pF f a b) (-1099511628031) false ∧ ∀ t, pkFl f m t ng (mlE f a b) (mlS f a b) = dcFl f m t ng (pF f a b) (-1099511628031) false := by
  obtain ⟨_, _, s0, s1⟩ := ml_range (f := f) f0 a0 b0
  have sm := mlE_small (f := f) f0 a0 b0
  obtain ⟨d1, d2⟩ := dc_pk (f := f) (m := m) (exp := mlE f a b) (x := mlS f a b) (ng := ng) f0 s0 s1
  rw [clip_id (by omega) (by omega)] at d1 d2
  have J := dc_scale (f := f) (m := m) (q := mlS f a b) (E := mlE f a b - 255) (ng := ng) (mlE f a b + 1099511627776).toNat s0
  rw [show mlE f a b - 255 - (((mlE f a b + 1099511627776).toNat : Nat) : Int) = -1099511628031 by omega] at J
  have v : pF f a b = mlS f a b * 2 ^ (mlE f a b + 1099511627776).toNat := by unfold pF baseT; rw [clT_id (by omega) (by omega)]
  rw [v]
  exact ⟨d1.symm.trans J.1.symm, fun t => (d2 t).symm.trans (J.2 t).symm⟩
end Go.Proofs.YtjdjonekoodalaaGreatDoor
namespace Go.Proofs.YtjdjonekoodalaaGreatDoor
open Go.RowKit
theorem pt_val {f l n : Int} {ng : Bool} (f0 : 0 ≤ f) (hf : f < 4) (l0 : 1 - fE f ≤ l) (l1 : l ≤ fE f) (n0 : 0 ≤ n) (n1 : n ≤ 2 ^ fP f) (h : 2 ^ (fP f - 1) ≤ n ∨ l = 1 - fE f) : ∀ B, ptF f ng l n = B →
    0 ≤ B ∧ B < full ∧ negF f B = ng ∧ (clsF f B ≤ 2 → vF f B = n * 2 ^ (l - (fP f - 1 : Nat) + 1099511628031).toNat) ∧ (n < 2 ^ fP f → clsF f B ≤ 2) := by
  intro B hB
  obtain ⟨p0, p1, p2, p3, p4, p5, p6, p7, p8⟩ := f_nums f0 hf
  have tp := pow_top (show 1 ≤ fP f by omega)
  have hp := two_pow_pos (fP f - 1)
  by_cases c1 : n < 2 ^ (fP f - 1)
  · have hl : l = 1 - fE f := h.resolve_left (by omega)
    rw [hl, pt_sub f0 hf ng n0 c1] at hB
    obtain ⟨g0, g1⟩ := make_full f0 (f := f) ng 0 n
    obtain ⟨a1, a2, a3⟩ := make_fields f0 hf ng 0 n
    rw [expOf_id f0 hf (by decide) (by omega)] at a1
    rw [Int.emod_eq_of_lt n0 c1] at a2
    have c := make_fin f0 hf ng n (Int.le_refl 0) (show (0 : Int) ≤ 2 * fE f by omega)
    rw [hB] at g0 g1 a1 a2 a3 c
    refine ⟨g0, g1, a3, fun _ => ?_, fun _ => c⟩
    rw [(vF_val f0 hf g0 c).1]
    unfold uM uX
    rw [if_pos a1, if_pos a1, a2, hl]
  · by_cases c2 : n < 2 ^ fP f
    · rw [pt_nor f0 hf ng (by omega) c2 l0 (by omega)] at hB
      obtain ⟨g0, g1⟩ := make_full f0 (f := f) ng (l + fE f) n
      obtain ⟨a1, a2, a3⟩ := make_fields f0 hf ng (l + fE f) n
      rw [expOf_id f0 hf (by omega) (by omega)] at a1
      rw [show n = (n - 2 ^ (fP f - 1)) + 2 ^ (fP f - 1) by omega, Int.add_emod_right, Int.emod_eq_of_lt (by omega) (by omega), show n - 2 ^ (fP f - 1) + 2 ^ (fP f - 1) = n by omega] at a2
      have c := make_fin f0 hf ng n (show 0 ≤ l + fE f by omega) (show l + fE f ≤ 2 * fE f by omega)
      rw [hB] at g0 g1 a1 a2 a3 c
      refine ⟨g0, g1, a3, fun _ => ?_, fun _ => c⟩
      rw [(vF_val f0 hf g0 c).1]
      unfold uM uX
      rw [if_neg (by omega), if_neg (by omega), a1, a2, show n - 2 ^ (fP f - 1) + 2 ^ (fP f - 1) = n by omega, show l + (fE f : Int) - fE f = l by omega]
    · have hn : n = 2 ^ fP f := by omega
      rw [hn, pt_top f0 hf ng l0 l1] at hB
      obtain ⟨g0, g1⟩ := make_full f0 (f := f) ng (l + fE f + 1) (2 ^ (fP f - 1))
      obtain ⟨a1, a2, a3⟩ := make_fields f0 hf ng (l + fE f + 1) (2 ^ (fP f - 1))
      rw [expOf_id f0 hf (by omega) (by omega)] at a1
      rw [Int.emod_self] at a2
      rw [hB] at g0 g1 a1 a2 a3
      refine ⟨g0, g1, a3, fun c => ?_, fun k => absurd k c2⟩
      rw [(vF_val f0 hf g0 c).1, hn]
      unfold uM uX
      by_cases le : l = fE f
      · exfalso
        unfold clsF at c
        rw [if_pos hf, if_neg (by omega), if_pos (by omega), if_pos a2] at c
        omega
      · rw [if_neg (by omega), if_neg (by omega), a1, a2, Int.zero_add, tp, Int.mul_assoc, show (2 : Int) * 2 ^ (l - ((fP f - 1 : Nat) : Int) + 1099511628031).toNat = 2 ^ (1 + (l - ((fP f - 1 : Nat) : Int) + 1099511628031).toNat) by rw [Int.pow_add]; rfl]
        congr 2; omega
theorem dc_zeroM {f q E : Int} {ng : Bool} (f0 : 0 ≤ f) (hf : f < 4) (q0 : 0 < q) (hl : fP f + 1 ≤ blen q) (hfl : dcFl f 4 false ng q E false = 0 ∨ dcFl f 4 false ng q E false = 16) :
    ∃ (l : Int) (u : Nat), dcB f 4 ng q E false = ptF f ng l (q / 2 ^ u) ∧ 1 - fE f ≤ l ∧ l ≤ fE f ∧ 1 ≤ u ∧ l - (fP f - 1 : Nat) = u + E ∧ 0 ≤ q / 2 ^ u ∧ q / 2 ^ u < 2 ^ fP f ∧ (2 ^ (fP f - 1) ≤ q / 2 ^ u ∨ l = 1 - fE f) ∧ (dcFl f 4 false ng q E false = 0 → q % 2 ^ u = 0) := by
  obtain ⟨p0, p1, p2, p3, p4, p5, p6, p7, p8⟩ := f_nums f0 hf
  have hm : (4 : Int) < 5 := by decide
  have Z : ¬ (q = 0 ∧ false = false) := fun h => by omega
  have FM : (f < 4 ∧ (4 : Int) < 5) ∧ ¬ (q = 0 ∧ false = false) := ⟨⟨hf, hm⟩, Z⟩
  have fl : dcFl f 4 false ng q E false = (if fE f < dcA f 4 ng q E false then overFl f 4 else if restQ q (dcU f q E) false = 0 then 0 else if dcE q E < 1 - fE f then 24 else 16) := by unfold dcFl; rw [if_pos FM]; rfl
  have ov : ¬ (fE f : Int) < dcA f 4 ng q E false := fun h => by
    rw [fl, if_pos h, show overFl f 4 = 20 by unfold overFl; rw [if_pos ⟨hf, hm⟩]] at hfl; omega
  have c4 : ∀ n, cutQ q n false 4 ng = floorQ q n := fun n => by unfold cutQ nextM; rw [if_neg]; split <;> simp
  obtain ⟨c0, c1, cA⟩ := dcA_cases f0 hf q0 4 ng E false
  obtain ⟨n0, n1, n2, n3⟩ := dcN_bounds f0 hf q0 4 ng E false
  have eE : dcE q E = blen q - 1 + E := rfl
  have eU : dcU f q E = pkL f (dcE q E) - dcE q E + (blen q - fP f) := rfl
  have hL := pkL_cases f (dcE q E)
  have eF : dcE q E ≤ fE f := by rcases cA with ⟨h, _⟩ | ⟨h, _⟩ <;> omega
  obtain ⟨u, hu⟩ : ∃ u : Nat, dcU f q E = u := ⟨(dcU f q E).toNat, by omega⟩
  have u1 : 1 ≤ u := by omega
  have fv : floorQ q (dcU f q E) = q / 2 ^ u := by rw [hu, floor_pos (by omega), Int.toNat_natCast]
  have bv : dcB f 4 ng q E false = ptF f ng (pkL f (dcE q E)) (q / 2 ^ u) := by
    unfold dcB; rw [if_pos ⟨hf, hm⟩, if_neg Z, if_neg ov, c4, fv]
  have lt := floor_lt_gen (k := fP f) (n := dcU f q E) (show 0 ≤ q by omega) (lt_blen q (by omega)) (by omega)
  rw [c4, fv] at n0 n3
  rw [fv] at lt
  refine ⟨pkL f (dcE q E), u, bv, by omega, by omega, u1, by omega, n0, lt, ?_, fun h => ?_⟩
  · rcases hL with ⟨h, l⟩ | ⟨h, l⟩
    · exact .inr l
    · exact .inl (n3 h).1
  · rw [fl, if_neg ov] at h
    have r : restQ q (dcU f q E) false = 0 := by
      apply Classical.byContradiction; intro k
      rw [if_neg k] at h; split at h <;> omega
    rw [hu] at r
    have := (rest_zero (q := q) (n := (u : Int)) (by omega)).1 r
    rw [Int.toNat_natCast] at this; exact this
theorem pF_vF {f a b : Int} (f0 : 0 ≤ f) (hf : f < 4) (a0 : 0 ≤ a) (b0 : 0 ≤ b) (ca : clsF f a ≤ 2) (cb : clsF f b ≤ 2) (J : Nat) (hJ : (J : Int) = 1099511628031) : pF f a b * 2 ^ J = vF f a * vF f b := by
  obtain ⟨va, _, _, xa0, xa1⟩ := vF_val f0 hf a0 ca
  obtain ⟨vb, _, _, xb0, xb1⟩ := vF_val f0 hf b0 cb
  obtain ⟨p0, p1, p2, p3, p4, p5, p6, p7, p8⟩ := f_nums f0 hf
  rw [pF_val f0 hf a0 b0 ca cb, va, vb, Int.mul_assoc, ← Int.pow_add, show (uX f a + uX f b + 1099511628031).toNat + J = (uX f a + 1099511628031).toNat + (uX f b + 1099511628031).toNat by omega, Int.pow_add]
  generalize (2 : Int) ^ (uX f a + 1099511628031).toNat = A
  generalize (2 : Int) ^ (uX f b + 1099511628031).toNat = C
  simp only [Int.mul_assoc, Int.mul_left_comm]
end Go.Proofs.YtjdjonekoodalaaGreatDoor
