import Derived.Test.YtdcdbcccchadfaaGreatDoorAdd18M
import Derived.Test.YtdcdbcccchadfaaGreatDoorGpA
import Derived.Test.YtdcdbcccchadfaaGreatDoorRest0
set_option linter.unusedVariables false
set_option linter.unusedSimpArgs false
set_option maxRecDepth 100000
namespace Go.Proofs.YtdcdbcccchadfaaGreatDoor
open Go.RowKit
theorem any_two {f a b : Int} (a0 : 0 ≤ a) (a1 : a < full) (b0 : 0 ≤ b) (b1 : b < full) (na : nanF f a = false) (nb : nanF f b = false) : anyN f [a, b] = false ∧ firstV f [a, b] = defF f := by
  constructor
  · unfold anyN; simp [Int.emod_eq_of_lt a0 a1, Int.emod_eq_of_lt b0 b1, na, nb]
  · unfold firstV; simp [List.find?, Int.emod_eq_of_lt a0 a1, Int.emod_eq_of_lt b0 b1, na, nb]
theorem dc_fits {f m q M : Int} {ng : Bool} {j : Nat} (f0 : 0 ≤ f) (hf : f < 4) (hm : m < 5) (hq : q = M * 2 ^ j) (M0 : 0 < M) (M1 : M < 2 ^ fP f) (hj : ulpF f ≤ j) (he : dcE q (-1099511628031) ≤ fE f) :
    (∀ t, dcFl f m t ng q (-1099511628031) false = 0) ∧ vF f (dcB f m ng q (-1099511628031) false) = q := by
  obtain ⟨p0, p1, p2, p3, p4, p5, p6, p7, p8⟩ := f_nums f0 hf
  have u := ulpF_eq f0 hf
  have hp := two_pow_pos j
  have qp : 0 < q := by rw [hq]; exact Int.mul_pos M0 hp
  have bm := blen_le (show 0 ≤ M by omega) M1
  have bp := blen_pos M0
  have bl : blen q = blen M + j := by rw [hq]; exact blen_shl M0 j
  have eE : dcE q (-1099511628031) = blen q - 1 + -1099511628031 := rfl
  have eU : dcU f q (-1099511628031) = pkL f (dcE q (-1099511628031)) - dcE q (-1099511628031) + (blen q - fP f) := rfl
  have hL := pkL_cases f (dcE q (-1099511628031))
  have rz : ∀ n : Int, 0 < n → n ≤ j → restQ q n false = 0 ∧ q / 2 ^ n.toNat * 2 ^ n.toNat = q := fun n n0 n1 => by
    have e : q % 2 ^ n.toNat = 0 := by
      rw [hq, show j = (j - n.toNat) + n.toNat by omega, Int.pow_add, ← Int.mul_assoc]; exact Int.mul_emod_left ..
    refine ⟨(rest_zero n0).2 e, ?_⟩
    have := Int.mul_ediv_add_emod q (2 ^ n.toNat); rw [e, Int.mul_comm] at this; omega
  have d0 : 0 < dcU f q (-1099511628031) ∧ dcU f q (-1099511628031) ≤ j := by omega
  obtain ⟨r, qe⟩ := rz _ d0.1 d0.2
  obtain ⟨r2, _⟩ := rz ((blen q : Int) - fP f) (by omega) (by omega)
  obtain ⟨c0, c1, cA⟩ := dcA_cases f0 hf qp m ng (-1099511628031) false
  have fl := floor_lt_gen (k := fP f) (n := (blen q : Int) - fP f) (show 0 ≤ q by omega) (lt_blen q (by omega)) (by omega)
  rw [cut_none r2] at cA c0 c1
  have A : dcA f m ng q (-1099511628031) false = dcE q (-1099511628031) := by
    rcases cA with ⟨h, _⟩ | ⟨_, _, h⟩
    · exact h
    · omega
  have Z : ¬ (q = 0 ∧ false = false) := fun h => by omega
  have FM : (f < 4 ∧ m < 5) ∧ ¬ (q = 0 ∧ false = false) := ⟨⟨hf, hm⟩, Z⟩
  have ov : ¬ (fE f : Int) < dcA f m ng q (-1099511628031) false := by rw [A]; omega
  obtain ⟨n0, n1, n2, n3⟩ := dcN_bounds f0 hf qp m ng (-1099511628031) false
  constructor
  · intro t
    unfold dcFl
    rw [if_pos FM, if_neg ov, if_pos r]
  · have bv : dcB f m ng q (-1099511628031) false = ptF f ng (pkL f (dcE q (-1099511628031))) (q / 2 ^ (dcU f q (-1099511628031)).toNat) := by
      unfold dcB; rw [if_pos ⟨hf, hm⟩, if_neg Z, if_neg ov, cut_none r, floor_pos d0.1]
    rw [cut_none r, floor_pos d0.1] at n0 n1 n2 n3
    obtain ⟨d, hd⟩ : ∃ d : Nat, dcU f q (-1099511628031) = d := ⟨(dcU f q (-1099511628031)).toNat, by omega⟩
    rw [hd, Int.toNat_natCast] at bv n0 n1 n2 n3 qe
    have hp2 := two_pow_pos d
    have tp := pow_top (show 1 ≤ fP f by omega)
    have np : q / 2 ^ d ≠ 0 := fun h => by rw [h, Int.zero_mul] at qe; omega
    rw [bv]
    rcases hL with ⟨h1, l⟩ | ⟨h1, l⟩
    · have nl : q / 2 ^ d < 2 ^ (fP f - 1) := by
        have b := lt_blen q (by omega)
        have s := two_pow_le (show blen q ≤ fP f - 1 + d by omega)
        rw [Int.pow_add] at s
        exact Int.ediv_lt_of_lt_mul hp2 (by omega)
      rw [l, pt_sub f0 hf ng n0 nl]
      obtain ⟨a1, a2, _⟩ := make_fields f0 hf ng 0 (q / 2 ^ d)
      rw [expOf_id f0 hf (by decide) (by omega)] at a1
      rw [Int.emod_eq_of_lt n0 nl] at a2
      have c : clsF f (makeF f ng 0 (q / 2 ^ d)) = 1 := (cls_1 hf).2 ⟨a1, by rw [a2]; exact np⟩
      have v := (vF_val f0 hf (make_full f0 ng 0 (q / 2 ^ d)).1 (by omega)).1
      rw [v]
      unfold uM uX
      rw [if_pos a1, if_pos a1, a2, show (1 - (fE f : Int) - ((fP f - 1 : Nat) : Int) + 1099511628031).toNat = d by omega]
      exact qe
    · obtain ⟨n3, n4⟩ := n3 h1
      have nl : q / 2 ^ d < 2 ^ fP f := by
        rw [floor_pos (by omega), ← n4, Int.toNat_natCast] at fl; exact fl
      rw [l, pt_nor f0 hf ng n3 nl (by omega) (by omega)]
      obtain ⟨a1, a2, _⟩ := make_fields f0 hf ng (dcE q (-1099511628031) + fE f) (q / 2 ^ d)
      rw [expOf_id f0 hf (by omega) (by omega)] at a1
      rw [show q / 2 ^ d = (q / 2 ^ d - 2 ^ (fP f - 1)) + 2 ^ (fP f - 1) by omega, Int.add_emod_right, Int.emod_eq_of_lt (by omega) (by omega), show q / 2 ^ d - 2 ^ (fP f - 1) + 2 ^ (fP f - 1) = q / 2 ^ d by omega] at a2
      have c : clsF f (makeF f ng (dcE q (-1099511628031) + fE f) (q / 2 ^ d)) = 2 := (cls_2 hf).2 ⟨by omega, by omega⟩
      have v := (vF_val f0 hf (make_full f0 ng (dcE q (-1099511628031) + fE f) (q / 2 ^ d)).1 (by omega)).1
      rw [v]
      unfold uM uX
      rw [if_neg (by omega), if_neg (by omega), a1, a2, show q / 2 ^ d - 2 ^ (fP f - 1) + 2 ^ (fP f - 1) = q / 2 ^ d by omega,
        show (dcE q (-1099511628031) + (fE f : Int) - fE f - ((fP f - 1 : Nat) : Int) + 1099511628031).toNat = d by omega]
      exact qe
end Go.Proofs.YtdcdbcccchadfaaGreatDoor
