import Derived.Laws.EntriesVeiled
import Derived.Test.YtjdjonekoodalaaGreatDoorGvB
set_option linter.unusedVariables false
set_option linter.unusedSimpArgs false
namespace Go.Proofs.YtjdjonekoodalaaGreatDoor
open Go.RowKit
attribute [local go_sem ↓] Go.wp_at_zero Go.wp_at_succ
theorem mk_nor {f y k : Int} (f0 : 0 ≤ f) (hf : f < 4) (y0 : 1 ≤ y) (y1 : y ≤ 2 * fE f) (k0 : 0 ≤ k) (k1 : k < 2 ^ (fP f - 1)) : ∀ B, makeF f false y k = B → plainF f B ∧ clsF f B = 2 ∧ expF f B = y ∧ fracF f B = k ∧ vF f B = (k + 2 ^ (fP f - 1)) * 2 ^ (y - fE f - (fP f - 1 : Nat) + 1099511628031).toNat := by
  intro B hb
  obtain ⟨p0, p1, p2, p3, p4, p5, p6, p7, p8⟩ := f_nums f0 hf
  obtain ⟨g0, g1⟩ := make_full f0 (f := f) false y k
  obtain ⟨a1, a2, a3⟩ := make_fields f0 hf false y k
  rw [expOf_id f0 hf (by omega) (by omega)] at a1
  rw [Int.emod_eq_of_lt k0 k1] at a2
  obtain ⟨_, _, _, _, q5, q6⟩ := make_parts f0 hf false y k
  rw [hb] at g0 g1 a1 a2 a3 q5 q6
  have c : clsF f B = 2 := (cls_2 hf).2 ⟨by omega, by omega⟩
  refine ⟨⟨g0, g1, by omega, a3, Int.emod_eq_of_lt q5 q6⟩, c, a1, a2, ?_⟩
  rw [(vF_val f0 hf g0 (by omega)).1]
  unfold uM uX
  rw [if_neg (by omega), if_neg (by omega), a1, a2]
end Go.Proofs.YtjdjonekoodalaaGreatDoor
namespace Go.Proofs.YtjdjonekoodalaaGreatDoor
open Go.RowKit
theorem dc_exact4 {f m q E : Int} {t ng : Bool} (f0 : 0 ≤ f) (hf : f < 4) (hm : m < 5) (q0 : 0 < q) (hl : fP f + 1 ≤ blen q) (fl : dcFl f m t ng q E false = 0) : dcB f m ng q E false = dcB f 4 ng q E false ∧ dcFl f 4 false ng q E false = 0 := by
  have Z : ¬ (q = 0 ∧ false = false) := fun h => by omega
  have U : (blen q : Int) - fP f ≤ dcU f q E := by unfold dcU; rcases pkL_cases f (dcE q E) with h | h <;> omega
  have FM : (f < 4 ∧ m < 5) ∧ ¬ (q = 0 ∧ false = false) := ⟨⟨hf, hm⟩, Z⟩
  have FM4 : (f < 4 ∧ (4 : Int) < 5) ∧ ¬ (q = 0 ∧ false = false) := ⟨⟨hf, by decide⟩, Z⟩
  unfold dcFl at fl
  rw [if_pos FM] at fl
  by_cases ov : (fE f : Int) < dcA f m ng q E false
  · rw [if_pos ov] at fl
    unfold overFl at fl
    rw [if_pos ⟨hf, hm⟩] at fl
    omega
  rw [if_neg ov] at fl
  have r : restQ q (dcU f q E) false = 0 := by
    apply Classical.byContradiction; intro k
    rw [if_neg k] at fl
    split at fl <;> omega
  have r2 : restQ q ((blen q : Int) - fP f) false = 0 := by
    rw [rest_zero (by omega)] at r ⊢
    exact mod_zero_le (by omega) r
  have A : dcA f 4 ng q E false = dcA f m ng q E false := by unfold dcA; rw [cut_none r2, cut_none r2]
  constructor
  · unfold dcB
    rw [if_pos ⟨hf, hm⟩, if_neg Z, if_neg ov, if_pos ⟨hf, by decide⟩, if_neg Z, A, if_neg ov, cut_none r, cut_none r]
  · unfold dcFl
    rw [if_pos FM4, A, if_neg ov, if_pos r]
theorem dc_exactV {f m q : Int} {t : Bool} (f0 : 0 ≤ f) (hf : f < 4) (hm : m < 5) (q0 : 0 < q) (hl : fP f + 1 ≤ blen q) (fl : dcFl f m t false q (-1099511628031) false = 0) : ∀ B, dcB f m false q (-1099511628031) false = B → plainF f B ∧ vF f B = q ∧ (clsF f B = 1 ∨ clsF f B = 2) := by
  intro B hB
  obtain ⟨e1, e2⟩ := dc_exact4 f0 hf hm q0 hl fl
  rw [e1] at hB
  obtain ⟨l, u, hb, l0, l1, u1, lu, n0, n1, nl, nz⟩ := dc_zeroM f0 hf q0 hl (.inl e2)
  rw [hb] at hB
  obtain ⟨B0, B1, Bn, Bv, Bc⟩ := pt_val (ng := false) f0 hf l0 l1 n0 (by omega) nl B hB
  have c := Bc n1
  have v := Bv c
  have dm := Int.emod_add_mul_ediv q (2 ^ u)
  rw [nz e2, Int.mul_comm (2 ^ u)] at dm
  rw [show (l - ((fP f - 1 : Nat) : Int) + 1099511628031).toNat = u by omega, show q / 2 ^ u * 2 ^ u = q by omega] at v
  have z : clsF f B ≠ 0 := fun h => by
    have := (vF_zero f0 hf B0 c).2 h
    omega
  have rc := cls_range f B
  refine ⟨⟨B0, B1, c, Bn, ?_⟩, v, by omega⟩
  have s := (dc_same (m := 4) f0 hf (by decide) B0 c).1
  rw [Bn, v, hb, hB] at s
  exact s.symm
end Go.Proofs.YtjdjonekoodalaaGreatDoor
namespace Go.Proofs.YtjdjonekoodalaaGreatDoor
open Go.RowKit
theorem sz_cls {f a : Int} (f0 : 0 ≤ f) (hf : f < 4) (a0 : 0 ≤ a) : clsF f (szF f a) = clsF f a ∧ expF f (szF f a) = expF f a ∧ fracF f (szF f a) = fracF f a := by
  obtain ⟨x0, x1, x2, x3⟩ := exp_range f0 hf a0
  obtain ⟨r0, r1⟩ := frac_range (b := a) f0 hf
  obtain ⟨e1, e2, e3⟩ := make_fields f0 hf false (expF f a) (fracF f a)
  rw [expOf_id f0 hf x0 x1] at e1
  rw [Int.emod_eq_of_lt r0 r1] at e2
  exact ⟨cls_congr e1 e2, e1, e2⟩
end Go.Proofs.YtjdjonekoodalaaGreatDoor
