/-
  Numbers of any length rounded to a format: scaled, jammed, in order; what comes of exact multiples of the least number.
-/
import Derived.Test.YtjnohbpebdnngaaGreatDoorPack16D
import Derived.Test.YtjnohbpebdnngaaGreatDoorPack16S
set_option linter.unusedVariables false
set_option linter.unusedSimpArgs false
set_option maxRecDepth 100000
namespace Go.Proofs.YtjnohbpebdnngaaGreatDoor
open Go.RowKit

theorem dc_zero {f m E : Int} {ng : Bool} : dcB f m ng 0 E false = (if f < 4 ∧ m < 5 then makeF f ng 0 0 else 0) ∧ ∀ t, dcFl f m t ng 0 E false = 0 := by
  unfold dcB dcFl
  rw [if_pos (show (0 : Int) = 0 ∧ false = false from ⟨rfl, rfl⟩)]
  exact ⟨rfl, fun t => if_neg (fun h => h.2 ⟨rfl, rfl⟩)⟩
theorem dc_none {f m q E : Int} {ng more : Bool} (h : ¬ (f < 4 ∧ m < 5)) : dcB f m ng q E more = 0 ∧ ∀ t, dcFl f m t ng q E more = 0 := by
  unfold dcB dcFl
  rw [if_neg h]
  exact ⟨rfl, fun t => if_neg (fun k => h k.1)⟩
/-- Two numbers that are cut the same, d places apart. -/
theorem dc_congr {f m q E q' E' d : Int} {ng : Bool} (q0 : 0 < q) (q0' : 0 < q') (hl : (blen q' : Int) = blen q + d) (hE : E' + d = E)
    (hc : ∀ n : Int, (blen q : Int) - fP f ≤ n → cutQ q' (n + d) false m ng = cutQ q n false m ng ∧ restQ q' (n + d) false = restQ q n false) :
    dcB f m ng q' E' false = dcB f m ng q E false ∧ ∀ t, dcFl f m t ng q' E' false = dcFl f m t ng q E false := by
  have e : dcE q' E' = dcE q E := by unfold dcE; omega
  have u : dcU f q' E' = dcU f q E + d := by unfold dcU; rw [e]; omega
  have ul : (blen q : Int) - fP f ≤ dcU f q E := by
    unfold dcU; rcases pkL_cases f (dcE q E) with ⟨z, y⟩ | ⟨z, y⟩ <;> omega
  have c1 := (hc _ (Int.le_refl _)).1
  obtain ⟨c2, c3⟩ := hc _ ul
  have a : dcA f m ng q' E' false = dcA f m ng q E false := by
    unfold dcA; rw [show (blen q' : Int) - fP f = blen q - fP f + d by omega, c1, e]
  have z : ¬ (q = 0 ∧ false = false) := fun h => by omega
  have z' : ¬ (q' = 0 ∧ false = false) := fun h => by omega
  unfold dcB dcFl
  rw [if_neg z, if_neg z', a, u, c2, c3, e]
  refine ⟨rfl, fun t => ?_⟩
  by_cases h : f < 4 ∧ m < 5
  · rw [if_pos (show (f < 4 ∧ m < 5) ∧ ¬ (q' = 0 ∧ false = false) from ⟨h, z'⟩), if_pos (show (f < 4 ∧ m < 5) ∧ ¬ (q = 0 ∧ false = false) from ⟨h, z⟩)]
  · rw [if_neg (fun k => h k.1), if_neg (fun k => h k.1)]
theorem dc_scale {f m q E : Int} {ng : Bool} (k : Nat) (q0 : 0 ≤ q) : dcB f m ng (q * 2 ^ k) (E - k) false = dcB f m ng q E false ∧ ∀ t, dcFl f m t ng (q * 2 ^ k) (E - k) false = dcFl f m t ng q E false := by
  by_cases z : q = 0
  · subst z
    rw [Int.zero_mul, dc_zero.1, dc_zero.1]
    exact ⟨rfl, fun t => by rw [dc_zero.2, dc_zero.2]⟩
  · have hp := two_pow_pos k
    refine dc_congr (d := k) (by omega) (Int.mul_pos (by omega) hp) (by rw [blen_shl (by omega)]; omega) (by omega) (fun n _ => ?_)
    exact ⟨scale_cut q k n m ng, scale_rest q k n⟩
theorem blen_above {q : Int} {k : Nat} (h : 2 ^ k ≤ q) : k + 1 ≤ blen q := by
  have hp := two_pow_pos k
  have a := lt_blen q (by omega)
  apply Classical.byContradiction; intro z
  have := two_pow_le (show blen q ≤ k by omega)
  omega
theorem blen_jam {q : Int} {n : Nat} (q0 : 0 < q) (h : n + 1 ≤ blen q) : blen (jamN q n) = blen q - n ∧ 0 < jamN q n := by
  obtain ⟨j, e, b1, b2⟩ := blen_bounds q0
  rw [e] at h ⊢
  have lo : 2 ^ (j - n) ≤ q / 2 ^ n := by
    rw [Int.le_ediv_iff_mul_le (two_pow_pos _), ← Int.pow_add, show j - n + n = j by omega]; exact b1
  have hi : q / 2 ^ n < 2 ^ (j - n + 1) := by
    apply Int.ediv_lt_of_lt_mul (two_pow_pos _)
    rw [← Int.pow_add, show j - n + 1 + n = j + 1 by omega]; exact b2
  have hp := two_pow_pos (j - n)
  have l1 : 2 ^ (j - n) ≤ jamN q n := by have := (jam_range (show 0 ≤ q by omega) n).1; omega
  have l2 : jamN q n < 2 ^ (j - n + 1) := by
    have e2 : (2 : Int) ^ (j - n + 1) = 2 ^ (j - n) * 2 := Int.pow_succ ..
    unfold jamN; split <;> omega
  exact ⟨by rw [blen_of l1 l2]; omega, by omega⟩
theorem dc_jam {f m q E : Int} {ng : Bool} (n : Nat) (q0 : 0 < q) (hn : n + fP f + 2 ≤ blen q) : dcB f m ng (jamN q n) (E + n) false = dcB f m ng q E false ∧ ∀ t, dcFl f m t ng (jamN q n) (E + n) false = dcFl f m t ng q E false := by
  obtain ⟨b, p⟩ := blen_jam q0 (show n + 1 ≤ blen q by omega)
  refine dc_congr (d := -(n : Int)) q0 p (by omega) (by omega) (fun N hN => ?_)
  have c := jam_cut16 q n (n := N + -(n : Int)) (by omega) m ng
  rw [show N + -(n : Int) + n = N by omega] at c
  exact c
/-- The highest 256 digits, jammed. -/
def nrmQ (q : Int) : Int := if blen q ≤ 256 then q * 2 ^ (256 - blen q) else jamN q (blen q - 256)
theorem nrm_range {q : Int} (q0 : 0 < q) : 2 ^ 255 ≤ nrmQ q ∧ nrmQ q < 2 ^ 256 := by
  have lp := blen_pos q0
  have e : blen (nrmQ q) = 256 ∧ 0 < nrmQ q := by
    unfold nrmQ; split
    · rw [blen_shl q0]; exact ⟨by omega, Int.mul_pos q0 (two_pow_pos _)⟩
    · obtain ⟨b, p⟩ := blen_jam q0 (n := blen q - 256) (by omega)
      exact ⟨by omega, p⟩
  have a := blen_low e.2
  have b := lt_blen (nrmQ q) (by omega)
  rw [e.1] at a b
  exact ⟨a, b⟩
theorem nrm_mono {p q : Int} (p0 : 0 < p) (h : p ≤ q) (l : blen p = blen q) : nrmQ p ≤ nrmQ q := by
  unfold nrmQ; rw [l]; split
  · exact pow_le_mul _ h
  · exact jam_mono h _
theorem dc_num {f m q E : Int} {ng : Bool} (f0 : 0 ≤ f) (hf : f < 4) (hm : m < 5) (q0 : 0 < q) (e0 : -1099511627776 ≤ dcE q E) (e1 : dcE q E ≤ 1099511627776) :
    dcB f m ng q E false = numB f m ng (dcE q E) (nrmQ q) ∧ ∀ t, dcFl f m t ng q E false = numFl f m t ng (dcE q E) (nrmQ q) := by
  obtain ⟨p0, p1, p2, p3, p4, p5, p6, p7, p8⟩ := f_nums f0 hf
  obtain ⟨n0, n1⟩ := nrm_range q0
  have hp := two_pow_pos 255
  have eE : dcE q E = blen q - 1 + E := rfl
  have a : dcB f m ng (nrmQ q) (dcE q E - 255) false = dcB f m ng q E false ∧ ∀ t, dcFl f m t ng (nrmQ q) (dcE q E - 255) false = dcFl f m t ng q E false := by
    unfold nrmQ; split
    · have h := dc_scale (f := f) (m := m) (E := E) (ng := ng) (256 - blen q) (show 0 ≤ q by omega)
      rw [show E - ((256 - blen q : Nat) : Int) = dcE q E - 255 by omega] at h; exact h
    · have h := dc_jam (f := f) (m := m) (E := E) (ng := ng) (blen q - 256) q0 (by omega)
      rw [show E + ((blen q - 256 : Nat) : Int) = dcE q E - 255 by omega] at h; exact h
  obtain ⟨d1, d2⟩ := dc_pk (f := f) (m := m) (exp := dcE q E) (x := nrmQ q) (ng := ng) f0 (by omega) (by rw [← wfull_pow]; exact n1)
  rw [clip_id e0 e1] at d1 d2
  obtain ⟨u0, u1⟩ := up_none n0 n1
  have hE : pkE (dcE q E) (nrmQ q) = dcE q E := by unfold pkE; rw [u0, clip_id e0 e1]; omega
  have nz : nrmQ q ≠ 0 := by omega
  obtain ⟨k1, k2⟩ := pk_num (exp := dcE q E) (x := nrmQ q) (ng := ng) hf hm nz
  rw [hE, u1] at k1 k2
  exact ⟨a.1.symm.trans (d1.trans k1), fun t => (a.2 t).symm.trans ((d2 t).trans (k2 t))⟩
theorem dcE_mono {p q E : Int} (p0 : 0 ≤ p) (h : p ≤ q) : dcE p E ≤ dcE q E := by
  have := blen_mono p0 h; unfold dcE; omega
/-- What is less is not rounded to more. -/
theorem dc_mono {f m p q E : Int} (f0 : 0 ≤ f) (p0 : 0 ≤ p) (h : p ≤ q) (e0 : 0 < p → -1099511627776 ≤ dcE p E) (e2 : 0 < q → -1099511627776 ≤ dcE q E) (e1 : dcE q E ≤ 1099511627776) : dcB f m false p E false ≤ dcB f m false q E false := by
  by_cases hf : f < 4 ∧ m < 5
  · by_cases zq : q = 0
    · have : p = 0 := by omega
      subst this; subst zq; exact Int.le_refl _
    · obtain ⟨b0, b1⟩ := nrm_range (show 0 < q by omega)
      rw [(dc_num f0 hf.1 hf.2 (show 0 < q by omega) (e2 (by omega)) e1).1]
      by_cases zp : p = 0
      · subst zp
        rw [dc_zero.1, if_pos hf, nought_val f0 hf.1, if_neg (by decide)]
        exact (num_range f0 hf.1 hf.2 b0 b1).1
      · obtain ⟨a0, a1⟩ := nrm_range (show 0 < p by omega)
        have le := dcE_mono (E := E) p0 h
        rw [(dc_num f0 hf.1 hf.2 (show 0 < p by omega) (e0 (by omega)) (by omega)).1]
        refine num_mono f0 hf.1 hf.2 a0 a1 b0 b1 ?_
        by_cases l : blen p = blen q
        · right; exact ⟨by unfold dcE; omega, nrm_mono (by omega) h l⟩
        · left; have := blen_mono p0 h; unfold dcE; omega
  · rw [(dc_none hf).1, (dc_none hf).1]; exact Int.le_refl _
/-- What of a multiple of the format's least number is rounded: a number that is tiny is exact. -/
theorem dc_unit {f m q E : Int} {ng : Bool} (f0 : 0 ≤ f) (hf : f < 4) (hm : m < 5) (q0 : 0 ≤ q) (k : Nat) (hk : (k : Int) = 2 - fE f - fP f - E) (hq : q % 2 ^ k = 0) : ∀ B : Int, dcB f m ng q E false = B →
    0 ≤ B ∧ B < full ∧ cutF f B = B ∧ negF f B = ng ∧ clsF f B ≤ 3 ∧ (clsF f B = 0 ↔ q = 0) ∧ (∀ t, (dcFl f m t ng q E false = 0 ∨ dcFl f m t ng q E false = 16 ∨ dcFl f m t ng q E false = 20) ∧ (clsF f B ≤ 1 → dcFl f m t ng q E false = 0)) := by
  intro B hB
  subst hB
  obtain ⟨p0, p1, p2, p3, p4, p5, p6, p7, p8⟩ := f_nums f0 hf
  have mk : ∀ y v : Int, 0 ≤ makeF f ng y v ∧ makeF f ng y v < full ∧ cutF f (makeF f ng y v) = makeF f ng y v ∧ negF f (makeF f ng y v) = ng := fun y v => by
    obtain ⟨r0, r1⟩ := make_full f0 (f := f) ng y v
    obtain ⟨_, _, _, _, q5, q6⟩ := make_parts f0 hf ng y v
    exact ⟨r0, r1, by unfold cutF; exact Int.emod_eq_of_lt q5 q6, (make_fields f0 hf ng y v).2.2⟩
  have nor : ∀ y v : Int, 1 ≤ y → y ≤ 2 * fE f → clsF f (makeF f ng y v) = 2 := fun y v y0 y1 => by
    obtain ⟨a, b, _⟩ := make_fields f0 hf ng y v
    rw [expOf_id f0 hf (by omega) (by omega)] at a
    exact (cls_2 hf).2 ⟨by omega, by omega⟩
  by_cases z : q = 0
  · subst z
    rw [dc_zero.1, if_pos ⟨hf, hm⟩]
    obtain ⟨a1, a2, a3, a4⟩ := mk 0 0
    have c := (nought_cls f0 hf ng).1
    exact ⟨a1, a2, a3, a4, by omega, ⟨fun _ => rfl, fun _ => c⟩, fun t => ⟨.inl (dc_zero.2 t), fun _ => dc_zero.2 t⟩⟩
  · have qp : 0 < q := by omega
    have Z : ¬ (q = 0 ∧ false = false) := fun h => z h.1
    have FM : (f < 4 ∧ m < 5) ∧ ¬ (q = 0 ∧ false = false) := ⟨⟨hf, hm⟩, Z⟩
    obtain ⟨c0, c1, cA⟩ := dcA_cases f0 hf qp m ng E false
    obtain ⟨n0, n1, n2, n3⟩ := dcN_bounds f0 hf qp m ng E false
    have fl : ∀ t, dcFl f m t ng q E false = (if fE f < dcA f m ng q E false then overFl f m else if restQ q (dcU f q E) false = 0 then 0 else if (if t then dcA f m ng q E false else dcE q E) < 1 - fE f then 24 else 16) := fun t => by unfold dcFl; rw [if_pos FM]
    have bv : dcB f m ng q E false = (if fE f < dcA f m ng q E false then overB f m ng else ptF f ng (pkL f (dcE q E)) (cutQ q (dcU f q E) false m ng)) := by unfold dcB; rw [if_pos ⟨hf, hm⟩, if_neg Z]
    have eU : dcU f q E = pkL f (dcE q E) - dcE q E + (blen q - fP f) := rfl
    have eD : dcE q E = blen q - 1 + E := rfl
    have tp := pow_top (show 1 ≤ fP f by omega)
    have hp := two_pow_pos (fP f - 1)
    by_cases ov : (fE f : Int) < dcA f m ng q E false
    · have f20 : overFl f m = 20 := by unfold overFl; rw [if_pos ⟨hf, hm⟩]
      rw [bv, if_pos ov]
      have cl : clsF f (overB f m ng) = 3 ∨ clsF f (overB f m ng) = 2 := by
        cases i : infM m ng with
        | true => rw [(over_inf ⟨hf, hm⟩ i).1]; exact .inl (inf_cls f0 hf ng).1
        | false => rw [(over_fin ⟨hf, hm⟩ i).1]; exact .inr (nor _ _ (by omega) (by omega))
      have mo : ∃ y v, overB f m ng = makeF f ng y v := by
        cases i : infM m ng with
        | true => exact ⟨_, _, (over_inf ⟨hf, hm⟩ i).1⟩
        | false => exact ⟨_, _, (over_fin ⟨hf, hm⟩ i).1⟩
      obtain ⟨y, v, e⟩ := mo
      rw [e] at cl ⊢
      obtain ⟨a1, a2, a3, a4⟩ := mk y v
      refine ⟨a1, a2, a3, a4, by omega, ⟨fun h => by omega, fun h => by omega⟩, fun t => ?_⟩
      rw [fl, if_pos ov, f20]
      exact ⟨.inr (.inr rfl), fun h => by omega⟩
    · rw [bv, if_neg ov]
      rcases pkL_cases f (dcE q E) with ⟨h1, l⟩ | ⟨h1, l⟩
      · -- tiny: exact
        have uk : dcU f q E = k := by omega
        have k0 : 0 < k ∨ k = 0 := by omega
        have r : restQ q (dcU f q E) false = 0 := by
          rw [uk]
          rcases k0 with h | h
          · rw [rest_zero (by omega), Int.toNat_natCast]; exact hq
          · subst h; unfold restQ; rw [if_pos (by decide)]; rfl
        have fv : floorQ q (dcU f q E) = q / 2 ^ k := by
          rw [uk]
          rcases k0 with h | h
          · rw [floor_pos (by omega), Int.toNat_natCast]
          · subst h; unfold floorQ; rw [if_pos (by decide)]; simp
        have qe : q / 2 ^ k * 2 ^ k = q := by have := Int.mul_ediv_add_emod q (2 ^ k); rw [hq, Int.mul_comm] at this; omega
        rw [cut_none r, fv, l]
        have n2' := n2 h1
        rw [cut_none r, fv] at n2' n0
        have hk2 := two_pow_pos k
        have np : q / 2 ^ k ≠ 0 := fun h => by rw [h, Int.zero_mul] at qe; omega
        have nl : q / 2 ^ k < 2 ^ (fP f - 1) := by
          have b := lt_blen q (by omega)
          have s := two_pow_le (show blen q ≤ fP f - 1 + k by omega)
          rw [Int.pow_add] at s
          exact Int.ediv_lt_of_lt_mul hk2 (by omega)
        rw [pt_sub f0 hf ng n0 nl]
        obtain ⟨a1, a2, a3, a4⟩ := mk 0 (q / 2 ^ k)
        obtain ⟨b1, b2, _⟩ := make_fields f0 hf ng 0 (q / 2 ^ k)
        rw [expOf_id f0 hf (by decide) (by omega)] at b1
        rw [Int.emod_eq_of_lt n0 nl] at b2
        have c : clsF f (makeF f ng 0 (q / 2 ^ k)) = 1 := (cls_1 hf).2 ⟨b1, by rw [b2]; exact np⟩
        refine ⟨a1, a2, a3, a4, by omega, ⟨fun h => by omega, fun h => by omega⟩, fun t => ?_⟩
        rw [fl, if_neg ov, if_pos r]
        exact ⟨.inl rfl, fun _ => rfl⟩
      · obtain ⟨n3, n4⟩ := n3 h1
        have cl : ∃ y v, ptF f ng (pkL f (dcE q E)) (cutQ q (dcU f q E) false m ng) = makeF f ng y v ∧ 1 ≤ y ∧ y ≤ 2 * fE f := by
          rw [n4, l]
          rcases cA with ⟨a, _, d⟩ | ⟨a, _, d⟩
          · exact ⟨_, _, pt_nor f0 hf ng c0 (by omega) (by omega) (by omega), by omega, by omega⟩
          · rw [d]; exact ⟨_, _, pt_top f0 hf ng (by omega) (by omega), by omega, by omega⟩
        obtain ⟨y, v, e, y0, y1⟩ := cl
        rw [e]
        obtain ⟨a1, a2, a3, a4⟩ := mk y v
        have c := nor y v y0 y1
        refine ⟨a1, a2, a3, a4, by omega, ⟨fun h => by omega, fun h => by omega⟩, fun t => ?_⟩
        rw [fl, if_neg ov]
        refine ⟨?_, fun h => by omega⟩
        by_cases r : restQ q (dcU f q E) false = 0
        · rw [if_pos r]; exact .inl rfl
        · rw [if_neg r]
          have : ¬ ((if t then dcA f m ng q E false else dcE q E) < 1 - fE f) := by
            cases t
            · simp only [Bool.false_eq_true, if_false]; omega
            · simp only [if_true]; rcases cA with ⟨a, _⟩ | ⟨a, _⟩ <;> omega
          rw [if_neg this]; exact .inr (.inl rfl)

end Go.Proofs.YtjnohbpebdnngaaGreatDoor
